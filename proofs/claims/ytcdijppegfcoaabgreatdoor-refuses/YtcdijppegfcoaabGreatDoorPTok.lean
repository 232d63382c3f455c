/-
  OUR OWN TEXT. The program's tokens: bytes, runs.
-/
import Derived.Test.YtcdijppegfcoaabGreatDoorChecked
import Derived.Test.YtcdijppegfcoaabGreatDoorPLex
import Derived.WalkSpells
import Derived.Outline
import Derived.Deep.QuietTactic
import Derived.BigQuiet
import Derived.Deep.LoopGhost
import Derived.Deep.CutBlock
namespace Go.Proofs.YtcdijppegfcoaabGreatDoor
open Go.RowKit

theorem isBlank_any (n : Int) (w : World) : Calls Tryz.prog 123 #[.int .u8 n] w fun e w' => e = .returned (.bool (decide (n = 32 ∨ n = 10))) ∧ w' = w := by
  by_cases h1 : n = 32
  · subst h1
    go_enter Tryz.func123, Tryz.ntmps123
    go_wp2
    go_ret
    exact ⟨rfl, rfl⟩
  · have h2 : (n == 32) = false := by simp [h1]
    by_cases h3 : n = 10
    · subst h3
      go_enter Tryz.func123, Tryz.ntmps123
      go_wp2
      go_ret
      exact ⟨rfl, rfl⟩
    · have h4 : (n == 10) = false := by simp [h3]
      go_enter Tryz.func123, Tryz.ntmps123
      go_wp2
      go_ret
      exact ⟨by simp [h1, h3], rfl⟩
theorem isLetter_any (n : Int) (w : World) : Calls Tryz.prog 161 #[.int .u8 n] w fun e w' => e = .returned (.bool (decide (97 ≤ n ∧ n ≤ 122))) ∧ w' = w := by
  by_cases h1 : 97 ≤ n <;> by_cases h2 : n ≤ 122 <;>
  · go_enter Tryz.func161, Tryz.ntmps161
    go_wp2
    go_ret
    exact ⟨by simp [h1, h2], rfl⟩
theorem isDigit_any (n : Int) (w : World) : Calls Tryz.prog 164 #[.int .u8 n] w fun e w' => e = .returned (.bool (decide (48 ≤ n ∧ n ≤ 57))) ∧ w' = w := by
  by_cases h1 : 48 ≤ n <;> by_cases h2 : n ≤ 57 <;>
  · go_enter Tryz.func164, Tryz.ntmps164
    go_wp2
    go_ret
    exact ⟨by simp [h1, h2], rfl⟩
theorem blank_is (c : UInt8) (w : World) : Calls Tryz.prog 123 #[.int .u8 (c.toNat : Int)] w fun e w' => e = .returned (.bool (isB c)) ∧ w' = w := by
  refine (isBlank_any _ w).mono ?_
  rintro e w' ⟨rfl, rfl⟩
  refine ⟨?_, rfl⟩
  have h : decide ((c.toNat : Int) = 32 ∨ (c.toNat : Int) = 10) = isB c := by
    unfold isB
    rw [Bool.eq_iff_iff]
    simp only [decide_eq_true_eq, Bool.or_eq_true, beq_iff_eq, ← UInt8.toNat_inj]
    show _ ↔ c.toNat = 32 ∨ c.toNat = 10
    omega
  rw [h]
theorem letter_is (c : UInt8) (w : World) : Calls Tryz.prog 161 #[.int .u8 (c.toNat : Int)] w fun e w' => e = .returned (.bool (low c)) ∧ w' = w := by
  refine (isLetter_any _ w).mono ?_
  rintro e w' ⟨rfl, rfl⟩
  refine ⟨?_, rfl⟩
  have h : decide (97 ≤ (c.toNat : Int) ∧ (c.toNat : Int) ≤ 122) = low c := by
    unfold low
    rw [decide_eq_decide]
    omega
  rw [h]
theorem digit_is (c : UInt8) (w : World) : Calls Tryz.prog 164 #[.int .u8 (c.toNat : Int)] w fun e w' => e = .returned (.bool (fig c)) ∧ w' = w := by
  refine (isDigit_any _ w).mono ?_
  rintro e w' ⟨rfl, rfl⟩
  refine ⟨?_, rfl⟩
  have h : decide (48 ≤ (c.toNat : Int) ∧ (c.toNat : Int) ≤ 57) = fig c := by
    unfold fig
    rw [decide_eq_decide]
    omega
  rw [h]
theorem letdig_is (c : UInt8) (w : World) : Calls Tryz.prog 163 #[.int .u8 (c.toNat : Int)] w fun e w' => e = .returned (.bool (lowfig c)) ∧ w' = w := by
  cases h1 : low c <;> cases h2 : fig c <;>
  · go_enter Tryz.func163, Tryz.ntmps163
    go_wp2_with (first | (go_at_call 161; refine (letter_is _ _).mono ?_; rintro e w' ⟨rfl, rfl⟩; rw [h1]) | (go_at_call 164; refine (digit_is _ _).mono ?_; rintro e w' ⟨rfl, rfl⟩; rw [h2]))
    go_wp2
    go_ret
    exact ⟨by simp [lowfig, h1, h2], rfl⟩

end Go.Proofs.YtcdijppegfcoaabGreatDoor
