import Derived.Test.YtcdijppegfcoaabGreatDoorZC51
import Derived.Test.YtcdijppegfcoaabGreatDoorTie
import Derived.Test.YtcdijppegfcoaabGreatDoorCards
import Derived.SevenTiedAt
namespace Go.Proofs.YtcdijppegfcoaabGreatDoor
open Go
theorem endless_card_holds : Rows.EndlessCardSaid :=
  Claim7.holds_tied_plain_at .later [] [.data,.data,.data,.handle,.sentinel,.sentinel,.sentinel,.sentinel,.sentinel,.sentinel,.sentinel,.sentinel] true (true,"68b935f97c0a57b169f353c852009ac47e93ef9010b12981d3e31da66b1aacb6") true
    endless_row_holds (fun _ h => by cases h) (by kernel_rfl) (fun _ h => by cases h) endless_row_tie rfl ⟨rfl,rfl⟩ (by kernel_rfl) rfl
    (fun f fn hf hfn => by
      obtain rfl : f = 5 := Option.some.inj ((show Tryz.prog.funcNamed "typer/typerkeep.Endless" = some 5 by kernel_rfl).symm.trans hf) |>.symm
      obtain rfl : fn = Tryz.f5 := (Option.some.inj (Tryz.func5.symm.trans hfn)).symm
      exact ⟨by kernel_rfl,fun j t ht => by
        rw [Tryz.params5] at ht
        cases j with
        | zero => simp at ht; subst ht; kernel_rfl
        | succ j => cases j with
          | zero => simp at ht; subst ht; kernel_rfl
          | succ j => simp at ht⟩)
    (by kernel_rfl)
#print axioms endless_card_holds
end Go.Proofs.YtcdijppegfcoaabGreatDoor
