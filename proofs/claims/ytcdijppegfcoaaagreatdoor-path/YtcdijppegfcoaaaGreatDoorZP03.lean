import Derived.Test.YtcdijppegfcoaaaGreatDoorZP02
import Derived.Test.YtcdijppegfcoaaaGreatDoorTie
import Derived.Test.YtcdijppegfcoaaaGreatDoorCards
import Derived.SevenTiedAt
/-
  OUR OWN TEXT. typerkeep.Path: the tied card.
-/
namespace Go.Proofs.YtcdijppegfcoaaaGreatDoor
open Go
theorem path_card_holds : Rows.PathCardSaid :=
  Claim7.holds_tied_plain_at .later [] [.data, .data, .data, .handle, .sentinel, .sentinel, .sentinel, .sentinel, .sentinel, .sentinel, .sentinel, .sentinel] true (true, "767d7f178e16914fec4fe727b39f4964491d678873329642626cce31abd67fc1") true
    path_row_holds (fun _ h => by cases h) (by kernel_rfl) (fun _ h => by cases h) path_row_tie rfl ⟨rfl, rfl⟩ (by kernel_rfl) rfl
    (fun f fn hf hfn => by
      obtain rfl : f = 12 := Option.some.inj ((show Tryz.prog.funcNamed "typer/typerkeep.Path" = some 12 by kernel_rfl).symm.trans hf) |>.symm
      obtain rfl : fn = Tryz.f12 := (Option.some.inj (Tryz.func12.symm.trans hfn)).symm
      exact ⟨by kernel_rfl, fun j t ht => by
        rw [Tryz.params12] at ht
        cases j with
        | zero => simp at ht; subst ht; kernel_rfl
        | succ j => cases j with
          | zero => simp at ht; subst ht; kernel_rfl
          | succ j => simp at ht⟩)
    (by kernel_rfl)
#print axioms path_card_holds
end Go.Proofs.YtcdijppegfcoaaaGreatDoor
