/-
  OUR OWN TEXT. The program's tokens: runs.
-/
import Derived.Test.YtcdijppegfcoaabGreatDoorPTok
namespace Go.Proofs.YtcdijppegfcoaabGreatDoor
open Go.RowKit

set_option maxRecDepth 100000 in
theorem run_blank (s : ByteArray) (hs : s.size ≤ 300) (w : World) : Calls Tryz.prog 122 #[.string s, .func (.func 123) #[] #[]] w fun e w' => e = .returned (.int .i64 ((run isB s.data.toList : Nat) : Int)) ∧ w' = w := by
  have hsl : s.data.toList.length = s.size := by rw [Array.length_toList]; rfl
  obtain ⟨R, hR⟩ : ∃ R, R = run isB s.data.toList := ⟨_, rfl⟩
  have hRl := run_le isB s.data.toList
  rw [← hR, hsl] at hRl
  rw [← hR]
  have HR := hid hR
  clear hR
  go_enter Tryz.func122, Tryz.ntmps122
  go_wp2_with fail
  go_loopg [5] (R + 1) (fun g i wi => ∃ q : Nat, q ≤ R ∧ i = .int .i64 q ∧ g = R - q + 1 ∧ wi = w)
  case atStart => exact ⟨0, by omega, rfl, by omega, rfl⟩
  case round =>
    obtain ⟨q, hq, rfl, hg, rfl⟩ := hrel
    by_cases hlt : q < R
    · have hql : q < s.size := by omega
      have hql2 : (q : Int) < (s.size : Int) := by omega
      obtain ⟨c, hc1, hc2⟩ := run_in isB s.data.toList q (by rw [← HR.out]; exact hlt)
      rw [byteAt s q hql] at hc1
      have hc3 : isB s[q] = true := by
        simp only [Option.some.injEq] at hc1
        rw [hc1]
        exact hc2
      clear hc1 hc2
      go_wp2_with (go_at_call 123; refine (blank_is _ _).mono ?_; rintro e w' ⟨rfl, rfl⟩; rw [hc3])
      go_roundg (R - (q + 1) + 1)
      case measure => omega
      case rel => exact ⟨q + 1, by omega, by go_num, rfl, rfl⟩
    · have hqR : q = R := by omega
      subst hqR
      by_cases hql : q < s.size
      · have hb : isB s[q] = false := run_out isB s.data.toList s[q] (by rw [← HR.out]; exact byteAt s q hql)
        have hql2 : (q : Int) < (s.size : Int) := by omega
        go_wp2_with (go_at_call 123; refine (blank_is _ _).mono ?_; rintro e w' ⟨rfl, rfl⟩; rw [hb])
        go_wp2
        go_ret
        exact ⟨rfl, rfl⟩
      · have hql2 : ¬ (q : Int) < (s.size : Int) := by omega
        go_wp2
        go_ret
        exact ⟨rfl, rfl⟩

set_option maxRecDepth 100000 in
theorem run_digit (s : ByteArray) (hs : s.size ≤ 300) (w : World) : Calls Tryz.prog 122 #[.string s, .func (.func 164) #[] #[]] w fun e w' => e = .returned (.int .i64 ((run fig s.data.toList : Nat) : Int)) ∧ w' = w := by
  have hsl : s.data.toList.length = s.size := by rw [Array.length_toList]; rfl
  obtain ⟨R, hR⟩ : ∃ R, R = run fig s.data.toList := ⟨_, rfl⟩
  have hRl := run_le fig s.data.toList
  rw [← hR, hsl] at hRl
  rw [← hR]
  have HR := hid hR
  clear hR
  go_enter Tryz.func122, Tryz.ntmps122
  go_wp2_with fail
  go_loopg [5] (R + 1) (fun g i wi => ∃ q : Nat, q ≤ R ∧ i = .int .i64 q ∧ g = R - q + 1 ∧ wi = w)
  case atStart => exact ⟨0, by omega, rfl, by omega, rfl⟩
  case round =>
    obtain ⟨q, hq, rfl, hg, rfl⟩ := hrel
    by_cases hlt : q < R
    · have hql : q < s.size := by omega
      have hql2 : (q : Int) < (s.size : Int) := by omega
      obtain ⟨c, hc1, hc2⟩ := run_in fig s.data.toList q (by rw [← HR.out]; exact hlt)
      rw [byteAt s q hql] at hc1
      have hc3 : fig s[q] = true := by
        simp only [Option.some.injEq] at hc1
        rw [hc1]
        exact hc2
      clear hc1 hc2
      go_wp2_with (go_at_call 164; refine (digit_is _ _).mono ?_; rintro e w' ⟨rfl, rfl⟩; rw [hc3])
      go_roundg (R - (q + 1) + 1)
      case measure => omega
      case rel => exact ⟨q + 1, by omega, by go_num, rfl, rfl⟩
    · have hqR : q = R := by omega
      subst hqR
      by_cases hql : q < s.size
      · have hb : fig s[q] = false := run_out fig s.data.toList s[q] (by rw [← HR.out]; exact byteAt s q hql)
        have hql2 : (q : Int) < (s.size : Int) := by omega
        go_wp2_with (go_at_call 164; refine (digit_is _ _).mono ?_; rintro e w' ⟨rfl, rfl⟩; rw [hb])
        go_wp2
        go_ret
        exact ⟨rfl, rfl⟩
      · have hql2 : ¬ (q : Int) < (s.size : Int) := by omega
        go_wp2
        go_ret
        exact ⟨rfl, rfl⟩

set_option maxRecDepth 100000 in
theorem run_letdig (s : ByteArray) (hs : s.size ≤ 300) (w : World) : Calls Tryz.prog 122 #[.string s, .func (.func 163) #[] #[]] w fun e w' => e = .returned (.int .i64 ((run lowfig s.data.toList : Nat) : Int)) ∧ w' = w := by
  have hsl : s.data.toList.length = s.size := by rw [Array.length_toList]; rfl
  obtain ⟨R, hR⟩ : ∃ R, R = run lowfig s.data.toList := ⟨_, rfl⟩
  have hRl := run_le lowfig s.data.toList
  rw [← hR, hsl] at hRl
  rw [← hR]
  have HR := hid hR
  clear hR
  go_enter Tryz.func122, Tryz.ntmps122
  go_wp2_with fail
  go_loopg [5] (R + 1) (fun g i wi => ∃ q : Nat, q ≤ R ∧ i = .int .i64 q ∧ g = R - q + 1 ∧ wi = w)
  case atStart => exact ⟨0, by omega, rfl, by omega, rfl⟩
  case round =>
    obtain ⟨q, hq, rfl, hg, rfl⟩ := hrel
    by_cases hlt : q < R
    · have hql : q < s.size := by omega
      have hql2 : (q : Int) < (s.size : Int) := by omega
      obtain ⟨c, hc1, hc2⟩ := run_in lowfig s.data.toList q (by rw [← HR.out]; exact hlt)
      rw [byteAt s q hql] at hc1
      have hc3 : lowfig s[q] = true := by
        simp only [Option.some.injEq] at hc1
        rw [hc1]
        exact hc2
      clear hc1 hc2
      go_wp2_with (go_at_call 163; refine (letdig_is _ _).mono ?_; rintro e w' ⟨rfl, rfl⟩; rw [hc3])
      go_roundg (R - (q + 1) + 1)
      case measure => omega
      case rel => exact ⟨q + 1, by omega, by go_num, rfl, rfl⟩
    · have hqR : q = R := by omega
      subst hqR
      by_cases hql : q < s.size
      · have hb : lowfig s[q] = false := run_out lowfig s.data.toList s[q] (by rw [← HR.out]; exact byteAt s q hql)
        have hql2 : (q : Int) < (s.size : Int) := by omega
        go_wp2_with (go_at_call 163; refine (letdig_is _ _).mono ?_; rintro e w' ⟨rfl, rfl⟩; rw [hb])
        go_wp2
        go_ret
        exact ⟨rfl, rfl⟩
      · have hql2 : ¬ (q : Int) < (s.size : Int) := by omega
        go_wp2
        go_ret
        exact ⟨rfl, rfl⟩
end Go.Proofs.YtcdijppegfcoaabGreatDoor
