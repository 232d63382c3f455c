import Derived.Test.YtcdijppegfcoaaaGreatDoorZH54
import Derived.Test.YtcdijppegfcoaaaGreatDoorTie
import Derived.Test.YtcdijppegfcoaaaGreatDoorCards
set_option linter.unusedSimpArgs false
namespace Go.Proofs.YtcdijppegfcoaaaGreatDoor
open Go
theorem same_card_holds:Rows.SameCardSaid:=
 Claim7.holds_tied_plain_at .later [] [.data, .data, .data, .handle, .sentinel, .sentinel, .sentinel, .sentinel, .sentinel, .sentinel, .sentinel, .sentinel] true (true, "767d7f178e16914fec4fe727b39f4964491d678873329642626cce31abd67fc1") true
  same_row_holds (λ_ h=>by cases h) (by kernel_rfl) (λ_ h=>by cases h) same_row_tie rfl ⟨rfl,rfl⟩ (by kernel_rfl) rfl
  (λf w x a=>by
   obtain rfl:f=13:=Option.some.inj ((show Tryz.prog.funcNamed "typer/typerkeep.Same" =some 13 by kernel_rfl).symm.trans x)|>.symm;obtain rfl:w=Tryz.f13:=(Option.some.inj (Tryz.func13.symm.trans a)).symm
   exact⟨by kernel_rfl,λj t e=>by
    rw[Tryz.params13]at e
    cases j with
    |zero=>simp at e;subst e;kernel_rfl
    |succ j=>simp at e⟩)
  (by kernel_rfl)
#print axioms same_card_holds
end Go.Proofs.YtcdijppegfcoaaaGreatDoor
