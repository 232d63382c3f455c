/-
  OUR OWN TEXT. typerlaw.Names: the tied card.
-/
import Derived.Test.YtcdijppegfcoaaaDoorNamesProof
namespace Go.Proofs.YtcdijppegfcoaaaDoor
open Go

theorem names_card_holds : Rows.NamesCardSaid :=
  Claim7.holds_tied_plain_at .later [] [.handle, .sentinel, .sentinel, .sentinel, .sentinel, .sentinel, .sentinel, .sentinel, .sentinel] true (true, "bb40c86a59e0195f7c28e7261d0876145bde6e9dd2bbc0abd5619a645423a455") true
    names_row_holds (fun _ h => by cases h) (by kernel_rfl) (fun _ h => by cases h) names_row_tie rfl ⟨rfl, rfl⟩ (by kernel_rfl) rfl
    (fun f fn hf hfn => by
      obtain rfl : f = 3 := Option.some.inj ((show Tryd.prog.funcNamed "typer/typerlaw.Names" = some 3 by kernel_rfl).symm.trans hf) |>.symm
      obtain rfl : fn = Tryd.f3 := (Option.some.inj (Tryd.func3.symm.trans hfn)).symm
      exact ⟨by kernel_rfl, fun j t ht => by
        rw [Tryd.params3] at ht
        simp at ht⟩)
    (by kernel_rfl)
#print axioms names_card_holds
end Go.Proofs.YtcdijppegfcoaaaDoor
