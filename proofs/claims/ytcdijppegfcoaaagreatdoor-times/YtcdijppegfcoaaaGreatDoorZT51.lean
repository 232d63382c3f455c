import Derived.Test.YtcdijppegfcoaaaGreatDoorZT50
import Derived.Test.YtcdijppegfcoaaaGreatDoorTie
import Derived.Test.YtcdijppegfcoaaaGreatDoorCards
import Derived.SevenTiedAt
/-
  OUR OWN TEXT. typerkeep.Times: the tied card.
-/
namespace Go.Proofs.YtcdijppegfcoaaaGreatDoor
open Go
theorem times_card_holds : Rows.TimesCardSaid :=
  Claim7.holds_tied_plain_at .later [] [.data, .data, .data, .handle, .sentinel, .sentinel, .sentinel, .sentinel, .sentinel, .sentinel, .sentinel, .sentinel] true (true, "767d7f178e16914fec4fe727b39f4964491d678873329642626cce31abd67fc1") true
    times_row_holds (fun _ h => by cases h) (by kernel_rfl) (fun _ h => by cases h) times_row_tie rfl ⟨rfl, rfl⟩ (by kernel_rfl) rfl
    (fun f fn hf hfn => by
      obtain rfl : f = 11 := Option.some.inj ((show Tryz.prog.funcNamed "typer/typerkeep.Times" = some 11 by kernel_rfl).symm.trans hf) |>.symm
      obtain rfl : fn = Tryz.f11 := (Option.some.inj (Tryz.func11.symm.trans hfn)).symm
      exact ⟨by kernel_rfl, fun j t ht => by
        rw [Tryz.params11] at ht
        cases j with
        | zero => simp at ht; subst ht; kernel_rfl
        | succ j => simp at ht⟩)
    (by kernel_rfl)
#print axioms times_card_holds
end Go.Proofs.YtcdijppegfcoaaaGreatDoor
