import Derived.Test.YtcdijppegfcoaaaGreatDoorZT40
import Derived.Test.YtcdijppegfcoaaaGreatDoorZT45
import Derived.Test.YtcdijppegfcoaaaGreatDoorZT22
/-
  OUR OWN TEXT (written by mkplaw.py). The law Shows.
-/
namespace Go.Proofs.YtcdijppegfcoaaaGreatDoor
open Go.RowKit
theorem exp_have (s : ByteArray) (hs : s.size ≤ 300) : ∃ x s1, expS (toksOf exKw s) (s.size + 2) ⟨0, -1⟩ = some (x, s1) ∧ ((needS (toksOf exKw s) s1 kEnd).bad < 0 → ∃ m c, Nice m x c ∧ c ≤ 400) := by
  obtain ⟨f1, f2, f3⟩ := toks_facts exKw s (s.size + 1) 0 (Nat.zero_le _) (by omega)
  have hlen := toksOf_len exKw s
  obtain ⟨x, s1, e, r⟩ := exp_tot (T := toksOf exKw s) f1 f2 (by omega) (s.size + 2) ⟨0, -1⟩ ⟨f1.1, Or.inl (by show (toksOf exKw s).length - 0 + 1 ≤ s.size + 2; omega)⟩
  refine ⟨x, s1, e, fun hb => ?_⟩
  have hb1 : s1.bad < 0 := by
    rcases Int.lt_or_le s1.bad 0 with h | h
    · exact h
    · rw [need_bad h] at hb
      omega
  obtain ⟨_, _, m, hm⟩ := r.2.2 hb1
  exact ⟨m, _, hm, by have := r.2.1; show s1.k - 0 ≤ 400; omega⟩

end Go.Proofs.YtcdijppegfcoaaaGreatDoor
