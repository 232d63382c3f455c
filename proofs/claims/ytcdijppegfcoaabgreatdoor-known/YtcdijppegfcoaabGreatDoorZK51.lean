import Derived.Test.YtcdijppegfcoaabGreatDoorZK50
import Derived.Test.YtcdijppegfcoaabGreatDoorTie
import Derived.Test.YtcdijppegfcoaabGreatDoorCards
import Derived.SevenTiedAt
namespace Go.Proofs.YtcdijppegfcoaabGreatDoor
open Go
theorem known_card_holds : Rows.KnownCardSaid :=
  Claim7.holds_tied_plain_at .later [] [.data,.data,.data,.handle,.sentinel,.sentinel,.sentinel,.sentinel,.sentinel,.sentinel,.sentinel,.sentinel] true (true,"68b935f97c0a57b169f353c852009ac47e93ef9010b12981d3e31da66b1aacb6") true
    known_row_holds (fun _ h => by cases h) (by kernel_rfl) (fun _ h => by cases h) known_row_tie rfl ⟨rfl,rfl⟩ (by kernel_rfl) rfl
    (fun f fn hf hfn => by
      obtain rfl : f = 6 := Option.some.inj ((show Tryz.prog.funcNamed "typer/typerkeep.Known" = some 6 by kernel_rfl).symm.trans hf) |>.symm
      obtain rfl : fn = Tryz.f6 := (Option.some.inj (Tryz.func6.symm.trans hfn)).symm
      exact ⟨by kernel_rfl,fun j t ht => by
        rw [Tryz.params6] at ht
        cases j with
        | zero => simp at ht; subst ht; kernel_rfl
        | succ j => simp at ht⟩)
    (by kernel_rfl)
#print axioms known_card_holds
end Go.Proofs.YtcdijppegfcoaabGreatDoor
