/-
  OUR OWN TEXT. What the list of a text's tokens is like.
-/
import Derived.Test.YtcdijppegfcoaabGreatDoorPureB
import Derived.Test.YtcdijppegfcoaabGreatDoorToksM
namespace Go.Proofs.YtcdijppegfcoaabGreatDoor
open Go.RowKit

theorem cut_len (l : List UInt8) (i k : Nat) : (cut l i k).length ≤ k - i := by
  rw [cut, List.length_drop, List.length_take]; omega
theorem tok_facts (kw : List (List UInt8)) (s : ByteArray) (J : Nat) (hJ : J ≤ s.size) {t : Tok} {r2 : Nat} (ht : tokAt kw s.data.toList J = (t, r2)) :
    t.pos = J ∧ J ≤ r2 ∧ r2 ≤ s.size ∧ ((t.is = kName ∨ t.is = kNum) → t.s.length ≤ 8) ∧ (t.is ≠ kNone → t.is ≠ kEnd → J < r2) := by
  obtain ⟨r1, r2', hr⟩ : ∃ r1 r2', (r1, r2') = raw s.data.toList J := ⟨_, _, rfl⟩
  have hle := raw_le s J hJ
  unfold tokAt at ht
  rw [← hr] at ht hle
  simp only [Prod.mk.injEq] at ht
  obtain ⟨ht, rfl⟩ := ht
  subst ht
  obtain ⟨b, hb⟩ : ∃ b, b = if (r1 = kName ∨ r1 = kNum) ∧ r2' - J > 8 then kNone else r1 := ⟨_, rfl⟩
  have hbig : (b = kName ∨ b = kNum) → r2' - J ≤ 8 := fun h => by
    by_cases hc : (r1 = kName ∨ r1 = kNum) ∧ r2' - J > 8
    · rw [if_pos hc] at hb
      rw [hb] at h
      exact absurd h (by decide)
    · rw [if_neg hc] at hb
      subst hb
      exact Nat.not_lt.1 (fun h2 => hc ⟨h, h2⟩)
  have hbr : b ≠ kNone → b = r1 := fun h => by
    by_cases hc : (r1 = kName ∨ r1 = kNum) ∧ r2' - J > 8
    · rw [if_pos hc] at hb; exact absurd hb h
    · rw [if_neg hc] at hb; exact hb
  have hlen := cut_len s.data.toList J r2'
  refine ⟨rfl, hle.1, hle.2, fun h => ?_, fun h1 h2 => ?_⟩
  · rw [← hb] at h
    show (cut s.data.toList J r2').length ≤ 8
    by_cases hk : b = kName ∧ cut s.data.toList J r2' ∈ kw
    · have := hbig (Or.inl hk.1)
      omega
    · rw [if_neg hk] at h
      have := hbig h
      omega
  · rw [← hb] at h1 h2
    by_cases hk : b = kName ∧ cut s.data.toList J r2' ∈ kw
    · have e : b = r1 := hbr (by rw [hk.1]; decide)
      exact raw_moves s J hr (by rw [← e, hk.1]; decide) (by rw [← e, hk.1]; decide)
    · rw [if_neg hk] at h1 h2
      have e := hbr h1
      exact raw_moves s J hr (by rw [← e]; exact h1) (by rw [← e]; exact h2)

theorem tk_cons (t : Tok) (T : List Tok) (k : Nat) : tk (t :: T) (k + 1) = tk T k := by simp [tk]
theorem tk_first (t : Tok) (T : List Tok) : tk (t :: T) 0 = t := by simp [tk]
theorem tk_nil (k : Nat) : tk [] k = ⟨[], [], 0⟩ := by simp [tk]
theorem toks_facts (kw : List (List UInt8)) (s : ByteArray) : ∀ (f i : Nat), i ≤ s.size → s.size - i < f →
    Wf (toks kw s.data.toList f i) ∧ Sh (toks kw s.data.toList f i) ∧ ∀ k, (tk (toks kw s.data.toList f i) k).pos ≤ s.size
  | 0, _, _, h => by omega
  | f + 1, i, hi, hf => by
    have hsl : s.data.toList.length = s.size := by rw [Array.length_toList]; rfl
    have hu := upto_le isB s.data.toList i (by omega)
    rw [hsl] at hu
    obtain ⟨J, hJ⟩ : ∃ J, J = upto isB s.data.toList i := ⟨_, rfl⟩
    rw [← hJ] at hu
    obtain ⟨t, r2, ht⟩ : ∃ t r2, tokAt kw s.data.toList J = (t, r2) := ⟨_, _, rfl⟩
    obtain ⟨f1, f2, f3, f4, f5⟩ := tok_facts kw s J hu.2 ht
    rw [toks_step kw s.data.toList f i J hJ ht]
    by_cases he : t.is = kNone ∨ t.is = kEnd
    · rw [if_pos he]
      refine ⟨⟨Nat.zero_lt_one, fun k hk => ?_⟩, fun k hk => ?_, fun k => ?_⟩
      · have : k = 0 := by simpa using hk
        subst this
        rw [tk_first]
        exact ⟨fun _ => rfl, fun _ => he⟩
      · cases k with
        | zero => rw [tk_first] at hk ⊢; exact f4 hk
        | succ k => rw [tk_cons, tk_nil]; exact Nat.zero_le _
      · cases k with
        | zero => rw [tk_first, f1]; exact hu.2
        | succ k => rw [tk_cons, tk_nil]; exact Nat.zero_le _
    · rw [if_neg he]
      have hm := f5 (fun e => he (Or.inl e)) (fun e => he (Or.inr e))
      obtain ⟨g1, g2, g3⟩ := toks_facts kw s f r2 f3 (by omega)
      refine ⟨⟨Nat.succ_pos _, fun k hk => ?_⟩, fun k hk => ?_, fun k => ?_⟩
      · cases k with
        | zero =>
          rw [tk_first, List.length_cons]
          have := g1.1
          exact ⟨fun h => absurd h he, fun h => by omega⟩
        | succ k =>
          rw [tk_cons, List.length_cons]
          rw [List.length_cons] at hk
          have := g1.2 k (by omega)
          exact ⟨fun h => by have := this.1 h; omega, fun h => this.2 (by omega)⟩
      · cases k with
        | zero => rw [tk_first] at hk ⊢; exact f4 hk
        | succ k => rw [tk_cons] at hk ⊢; exact g2 k hk
      · cases k with
        | zero => rw [tk_first, f1]; exact hu.2
        | succ k => rw [tk_cons]; exact g3 k
end Go.Proofs.YtcdijppegfcoaabGreatDoor
