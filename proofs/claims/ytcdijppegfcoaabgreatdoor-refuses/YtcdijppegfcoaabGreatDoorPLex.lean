/-
  OUR OWN TEXT. The program's tokens on plain lists, held against those of typerref. It speaks of no function of the program.
-/
import Derived.Test.YtcdijppegfcoaabGreatDoorParse
namespace Go.Proofs.YtcdijppegfcoaabGreatDoor
open Go.RowKit

/-- The kind that the program gives to what stands at J (behind the blanks): 0 the end, 1 none, 2 a word, 3 a number, 4 a sign. -/
def nxK (l : List UInt8) (J : Nat) : Nat :=
  if (raw l J).1 = kEnd then 0
  else if (raw l J).1 = kName then (if (raw l J).2 - J > 8 then 1 else 2)
  else if (raw l J).1 = kNum then (if (raw l J).2 - J > 8 then 1 else 3)
  else if (raw l J).1 = kNone then 1 else 4
def nxT (l : List UInt8) (J : Nat) : List UInt8 := if nxK l J < 2 then [] else cut l J (raw l J).2

theorem cut_size (l : List UInt8) (J K : Nat) (h1 : J ≤ K) (h2 : K ≤ l.length) : (cut l J K).length = K - J := by
  unfold cut; simp; omega
theorem cut_head (l : List UInt8) (J K : Nat) (h1 : J < K) (h2 : K ≤ l.length) (c : UInt8) (hc : l[J]? = some c) : ∃ r, cut l J K = c :: r := by
  unfold cut
  refine ⟨((l.take K).drop (J + 1)), ?_⟩
  rw [List.drop_eq_getElem_cons (by simp; omega)]
  congr 1
  have hJ : J < l.length := by omega
  rw [List.getElem?_eq_getElem hJ] at hc
  simpa using hc

theorem low_fig (c : UInt8) (h : low c = true) : fig c = false := by
  unfold low fig at *
  simp at h ⊢
  omega
theorem run_pos (p : UInt8 → Bool) (c : UInt8) (l : List UInt8) (h : p c = true) : 0 < run p (c :: l) := by
  simp [run, h]
theorem upto_pos (p : UInt8 → Bool) (l : List UInt8) (J : Nat) (c : UInt8) (hc : l[J]? = some c) (h : p c = true) : J < upto p l J := by
  unfold upto
  have hJ : J < l.length := by
    rcases Nat.lt_or_ge J l.length with h' | h'
    · exact h'
    · rw [List.getElem?_eq_none h'] at hc; cases hc
  have e : l.drop J = c :: l.drop (J + 1) := by
    rw [List.drop_eq_getElem_cons hJ]
    congr 1
    rw [List.getElem?_eq_getElem hJ] at hc
    simpa using hc
  rw [e]
  have := run_pos p c (l.drop (J + 1)) h
  omega

theorem raw_cases (l : List UInt8) (J : Nat) (h : J ≤ l.length) :
    (raw l J = (kEnd, J) ∧ J = l.length) ∨
    (∃ c r K, raw l J = (kName, K) ∧ J < K ∧ K ≤ l.length ∧ cut l J K = c :: r ∧ low c = true) ∨
    (∃ c r K, raw l J = (kNum, K) ∧ J < K ∧ K ≤ l.length ∧ cut l J K = c :: r ∧ fig c = true) ∨
    (raw l J = (kArrow, J + 2) ∧ J + 2 ≤ l.length ∧ cut l J (J + 2) = kArrow) ∨
    (∃ c, c ∈ signs ∧ raw l J = ([c], J + 1) ∧ J + 1 ≤ l.length ∧ cut l J (J + 1) = [c]) ∨
    (raw l J = (kNone, J) ∧ J < l.length) := by
  cases hc : l[J]? with
  | none =>
    have : l.length ≤ J := by simpa using hc
    exact Or.inl ⟨by simp [raw, hc], by omega⟩
  | some c =>
    have hJ : J < l.length := by
      rcases Nat.lt_or_ge J l.length with h' | h'
      · exact h'
      · rw [List.getElem?_eq_none h'] at hc; cases hc
    by_cases h1 : low c = true
    · have hp := upto_pos lowfig l J c hc (by simp [lowfig, h1])
      have hl := (upto_le lowfig l J h).2
      obtain ⟨r, hr⟩ := cut_head l J _ hp hl c hc
      exact Or.inr (Or.inl ⟨c, r, _, by simp [raw, hc, h1], hp, hl, hr, h1⟩)
    by_cases h2 : fig c = true
    · have hp := upto_pos fig l J c hc h2
      have hl := (upto_le fig l J h).2
      obtain ⟨r, hr⟩ := cut_head l J _ hp hl c hc
      exact Or.inr (Or.inr (Or.inl ⟨c, r, _, by simp [raw, hc, h1, h2], hp, hl, hr, h2⟩))
    by_cases h3 : c = 45 ∧ l[J + 1]? = some 62
    · have hJ2 : J + 1 < l.length := by
        rcases Nat.lt_or_ge (J + 1) l.length with h' | h'
        · exact h'
        · rw [List.getElem?_eq_none h'] at h3; cases h3.2
      refine Or.inr (Or.inr (Or.inr (Or.inl ⟨by unfold raw; rw [hc]; simp only; rw [if_neg h1, if_neg h2, if_pos h3], by omega, ?_⟩)))
      obtain ⟨h31, h32⟩ := h3
      subst h31
      unfold cut kArrow
      rw [List.getElem?_eq_getElem hJ] at hc
      rw [List.getElem?_eq_getElem hJ2] at h32
      rw [List.drop_eq_getElem_cons (by simp; omega), List.drop_eq_getElem_cons (by simp; omega)]
      simp at hc h32
      simp [hc, h32]
    by_cases h4 : c ∈ signs
    · obtain ⟨r, hr⟩ := cut_head l J (J + 1) (by omega) hJ c hc
      have hl := cut_size l J (J + 1) (by omega) hJ
      rw [hr] at hl
      have : r = [] := by
        cases r with
        | nil => rfl
        | cons a r => simp at hl
      exact Or.inr (Or.inr (Or.inr (Or.inr (Or.inl ⟨c, h4, by simp [raw, hc, h1, h2, h3, h4], hJ, by rw [hr, this]⟩))))
    · exact Or.inr (Or.inr (Or.inr (Or.inr (Or.inr ⟨by simp [raw, hc, h1, h2, h3, h4], hJ⟩))))

/-- Keywords that can be told from all else. -/
def KwOK (kw : List (List UInt8)) : Prop := ∀ x, x ∈ kw → ∃ c r, x = c :: r ∧ low c = true ∧ x.length ≤ 8 ∧ x ≠ kName ∧ x ≠ kNum ∧ x ≠ kEnd ∧ x ≠ kNone

def sgns : List (List UInt8) := [[45, 62], [61], [40], [41], [44], [91], [93]]
theorem sgn_head : ∀ x, x ∈ sgns → ∃ c r, x = c :: r ∧ low c = false ∧ fig c = false := by
  intro x hx
  simp only [sgns, List.mem_cons, List.not_mem_nil, or_false] at hx
  rcases hx with rfl | rfl | rfl | rfl | rfl | rfl | rfl <;> exact ⟨_, _, rfl, by decide, by decide⟩
theorem sgn_mem : ∀ c, c ∈ signs → [c] ∈ sgns ∧ low c = false ∧ fig c = false ∧ [c] ≠ kEnd ∧ [c] ≠ kName ∧ [c] ≠ kNum ∧ [c] ≠ kNone ∧ [c] ≠ kArrow := by decide
theorem sgn_ne : ∀ x, x ∈ sgns → x ≠ kEnd ∧ x ≠ kName ∧ x ≠ kNum ∧ x ≠ kNone := by decide

/-- All that the two readers ask of a token. -/
structure Asked (kw : List (List UInt8)) (l : List UInt8) (J : Nat) : Prop where
  pos : (tokAt kw l J).1.pos = J
  theEnd : nxK l J = 0 ↔ (tokAt kw l J).1.is = kEnd
  num : nxK l J = 3 ↔ (tokAt kw l J).1.is = kNum
  name : nxK l J = 2 ∧ nxT l J ∉ kw ↔ (tokAt kw l J).1.is = kName
  word : ∀ x, x ∈ kw → (nxT l J = x ↔ (tokAt kw l J).1.is = x)
  sign : ∀ x, x ∈ sgns → (nxT l J = x ↔ (tokAt kw l J).1.is = x)
  real : (tokAt kw l J).1.is ≠ kNone → (tokAt kw l J).1.is ≠ kEnd → nxT l J = (tokAt kw l J).1.s ∧ (tokAt kw l J).2 = J + (nxT l J).length ∧ J < (tokAt kw l J).2 ∧ (tokAt kw l J).2 ≤ l.length
  small : nxK l J ≤ 4
  short : (nxT l J).length ≤ 8
  isWord : nxK l J = 2 → ∃ c r, nxT l J = c :: r ∧ low c = true
  notWord : nxK l J ≠ 2 → ∀ x, nxT l J = x → (∀ c r, x = c :: r → low c = false)

theorem asked (kw : List (List UInt8)) (hkw : KwOK kw) (l : List UInt8) (J : Nat) (h : J ≤ l.length) : Asked kw l J := by
  rcases raw_cases l J h with ⟨e, _⟩ | ⟨c, r, K, e, h1, h2, h3, h4⟩ | ⟨c, r, K, e, h1, h2, h3, h4⟩ | ⟨e, h1, h2⟩ | ⟨c, hc, e, h1, h2⟩ | ⟨e, h1⟩
  · have k : nxK l J = 0 := by simp [nxK, e]
    have t : nxT l J = [] := by simp [nxT, k]
    have ta : tokAt kw l J = (⟨kEnd, cut l J J, J⟩, J) := by simp [tokAt, e, kEnd, kName, kNum]
    refine ⟨by rw [ta], by simp [k, ta], by rw [k, ta]; simp [kEnd, kNum], by rw [k, ta]; simp [kEnd, kName], ?_, ?_, by rw [ta]; simp, by omega, by rw [t]; simp, by rw [k]; simp, by rw [t]; rintro _ x rfl c r e; cases e⟩
    · intro x hx
      obtain ⟨c, r, e1, _, _, _, _, e3, _⟩ := hkw x hx
      rw [t, ta]
      constructor
      · intro e2; rw [e1] at e2; cases e2
      · intro e2; exact absurd e2.symm e3
    · intro x hx
      obtain ⟨c, r, e1, _⟩ := sgn_head x hx
      rw [t, ta]
      constructor
      · intro e2; rw [e1] at e2; cases e2
      · intro e2; exact absurd e2.symm (sgn_ne x hx).1
  · have cl := cut_size l J K (by omega) h2
    rw [h3] at cl
    by_cases hb : K - J > 8
    · have k : nxK l J = 1 := by simp [nxK, e, kEnd, kName] ; omega
      have t : nxT l J = [] := by simp [nxT, k]
      have ta : tokAt kw l J = (⟨kNone, cut l J K, J⟩, K) := by
        have hb' : 8 < K - J := hb
        simp [tokAt, e, hb', kNone, kName]
      refine ⟨by rw [ta], by rw [k, ta]; simp [kEnd, kNone], by rw [k, ta]; simp [kNone, kNum], by rw [k, ta]; simp [kNone, kName], ?_, ?_, by rw [ta]; simp, by omega, by rw [t]; simp, by rw [k]; simp, by rw [t]; rintro _ x rfl c r e; cases e⟩
      · intro x hx
        obtain ⟨c, r, e1, _, _, _, _, _, e3⟩ := hkw x hx
        rw [t, ta]
        constructor
        · intro e2; rw [e1] at e2; cases e2
        · intro e2; exact absurd e2.symm e3
      · intro x hx
        obtain ⟨c, r, e1, _⟩ := sgn_head x hx
        rw [t, ta]
        constructor
        · intro e2; rw [e1] at e2; cases e2
        · intro e2; exact absurd e2.symm (sgn_ne x hx).2.2.2
    · have k : nxK l J = 2 := by simp [nxK, e, kEnd, kName] ; omega
      have t : nxT l J = c :: r := by simp [nxT, k, e, h3]
      have hb' : ¬ 8 < K - J := hb
      by_cases hm : c :: r ∈ kw
      · have ta : tokAt kw l J = (⟨c :: r, c :: r, J⟩, K) := by
          simp [tokAt, e, hb', h3, hm]
        obtain ⟨_, _, _, _, _, n1, n2, n3, n4⟩ := hkw _ hm
        refine ⟨by rw [ta], by rw [k, ta]; simp; exact n3, by rw [k, ta]; simp; exact n2, by rw [t, ta]; simp [hm]; exact n1, ?_, ?_, ?_, by omega, by rw [t]; omega, fun _ => ⟨c, r, t, h4⟩, fun hn => absurd k hn⟩
        · intro x _; rw [t, ta]
        · intro x _; rw [t, ta]
        · intro _ _
          rw [t, ta]
          exact ⟨rfl, by dsimp only; omega, h1, h2⟩
      · have ta : tokAt kw l J = (⟨kName, c :: r, J⟩, K) := by
          simp [tokAt, e, hb', h3, hm]
        refine ⟨by rw [ta], by rw [k, ta]; simp [kEnd, kName], by rw [k, ta]; simp [kName, kNum], by rw [t, ta, k]; simp [hm], ?_, ?_, ?_, by omega, by rw [t]; omega, fun _ => ⟨c, r, t, h4⟩, fun hn => absurd k hn⟩
        · intro x hx
          obtain ⟨_, _, _, _, _, n1, _⟩ := hkw _ hx
          rw [t, ta]
          exact ⟨fun e2 => absurd (e2 ▸ hx) hm, fun e2 => absurd e2.symm n1⟩
        · intro x hx
          obtain ⟨d, q, e1, e2, _⟩ := sgn_head x hx
          rw [t, ta]
          constructor
          · intro e3
            rw [e1] at e3
            cases e3
            rw [h4] at e2
            cases e2
          · intro e3; exact absurd e3.symm (sgn_ne x hx).2.1
        · intro _ _
          rw [t, ta]
          exact ⟨rfl, by dsimp only; omega, h1, h2⟩
  · have cl := cut_size l J K (by omega) h2
    rw [h3] at cl
    by_cases hb : K - J > 8
    · have k : nxK l J = 1 := by simp [nxK, e, kEnd, kName, kNum] ; omega
      have t : nxT l J = [] := by simp [nxT, k]
      have ta : tokAt kw l J = (⟨kNone, cut l J K, J⟩, K) := by
        have hb' : 8 < K - J := hb
        simp [tokAt, e, hb', kNone, kName]
      refine ⟨by rw [ta], by rw [k, ta]; simp [kEnd, kNone], by rw [k, ta]; simp [kNone, kNum], by rw [k, ta]; simp [kNone, kName], ?_, ?_, by rw [ta]; simp, by omega, by rw [t]; simp, by rw [k]; simp, by rw [t]; rintro _ x rfl c r e; cases e⟩
      · intro x hx
        obtain ⟨c, r, e1, _, _, _, _, _, e3⟩ := hkw x hx
        rw [t, ta]
        constructor
        · intro e2; rw [e1] at e2; cases e2
        · intro e2; exact absurd e2.symm e3
      · intro x hx
        obtain ⟨c, r, e1, _⟩ := sgn_head x hx
        rw [t, ta]
        constructor
        · intro e2; rw [e1] at e2; cases e2
        · intro e2; exact absurd e2.symm (sgn_ne x hx).2.2.2
    · have k : nxK l J = 3 := by simp [nxK, e, kEnd, kName, kNum] ; omega
      have t : nxT l J = c :: r := by simp [nxT, k, e, h3]
      have hb' : ¬ 8 < K - J := hb
      have ta : tokAt kw l J = (⟨kNum, c :: r, J⟩, K) := by
        simp [tokAt, e, hb', h3, kNum, kName]
      have hlow : low c = false := by
        cases hh : low c with
        | false => rfl
        | true => rw [low_fig c hh] at h4; cases h4
      refine ⟨by rw [ta], by rw [k, ta]; simp [kEnd, kNum], by rw [k, ta]; simp, by rw [ta, k]; simp [kNum, kName], ?_, ?_, ?_, by omega, by rw [t]; omega, (fun hn => by rw [k] at hn; cases hn), ?_⟩
      · intro x hx
        obtain ⟨d, q, e1, e2, _, _, n2, _⟩ := hkw _ hx
        rw [t, ta]
        constructor
        · intro e3
          rw [e1] at e3
          cases e3
          rw [hlow] at e2
          cases e2
        · intro e3; exact absurd e3.symm n2
      · intro x hx
        obtain ⟨d, q, e1, _, e2⟩ := sgn_head x hx
        rw [t, ta]
        constructor
        · intro e3
          rw [e1] at e3
          cases e3
          rw [h4] at e2
          cases e2
        · intro e3; exact absurd e3.symm (sgn_ne x hx).2.2.1
      · intro _ _
        rw [t, ta]
        exact ⟨rfl, by dsimp only; omega, h1, h2⟩
      · rw [t]
        rintro _ x rfl c' r' e'
        cases e'
        exact hlow
  · have k : nxK l J = 4 := by simp [nxK, e, kEnd, kName, kNum, kNone, kArrow]
    have t : nxT l J = kArrow := by simp [nxT, k, e, h2]
    have ta : tokAt kw l J = (⟨kArrow, kArrow, J⟩, J + 2) := by
      simp [tokAt, e, h2, kArrow, kName, kNum]
    refine ⟨by rw [ta], by rw [k, ta]; simp [kEnd, kArrow], by rw [k, ta]; simp [kArrow, kNum], by rw [k, ta]; simp [kArrow, kName], ?_, ?_, ?_, by omega, by rw [t]; simp [kArrow], (fun hn => by rw [k] at hn; cases hn), ?_⟩
    · intro x hx; rw [t, ta]
    · intro x hx; rw [t, ta]
    · intro _ _
      rw [t, ta]
      exact ⟨rfl, rfl, by dsimp only; omega, h1⟩
    · rw [t]
      rintro _ x rfl c' r' e'
      cases e'
      decide
  · obtain ⟨m1, m2, m3, m4, m5, m6, m7, m8⟩ := sgn_mem c hc
    have k : nxK l J = 4 := by simp [nxK, e, m4, m5, m6, m7]
    have t : nxT l J = [c] := by simp [nxT, k, e, h2]
    have ta : tokAt kw l J = (⟨[c], [c], J⟩, J + 1) := by
      simp [tokAt, e, h2, m5, m6]
    refine ⟨by rw [ta], by rw [k, ta]; simp [m4], by rw [k, ta]; simp [m6], by rw [k, ta]; simp [m5], ?_, ?_, ?_, by omega, by rw [t]; simp, (fun hn => by rw [k] at hn; cases hn), ?_⟩
    · intro x hx; rw [t, ta]
    · intro x hx; rw [t, ta]
    · intro _ _
      rw [t, ta]
      exact ⟨rfl, rfl, by dsimp only; omega, h1⟩
    · rw [t]
      rintro _ x rfl c' r' e'
      cases e'
      exact m2
  · have k : nxK l J = 1 := by simp [nxK, e, kEnd, kName, kNum, kNone]
    have t : nxT l J = [] := by simp [nxT, k]
    have ta : tokAt kw l J = (⟨kNone, cut l J J, J⟩, J) := by simp [tokAt, e, kNone, kName, kNum]
    refine ⟨by rw [ta], by rw [k, ta]; simp [kEnd, kNone], by rw [k, ta]; simp [kNone, kNum], by rw [k, ta]; simp [kNone, kName], ?_, ?_, by rw [ta]; simp, by omega, by rw [t]; simp, by rw [k]; simp, by rw [t]; rintro _ x rfl c r e; cases e⟩
    · intro x hx
      obtain ⟨c, r, e1, _, _, _, _, _, e3⟩ := hkw x hx
      rw [t, ta]
      constructor
      · intro e2; rw [e1] at e2; cases e2
      · intro e2; exact absurd e2.symm e3
    · intro x hx
      obtain ⟨c, r, e1, _⟩ := sgn_head x hx
      rw [t, ta]
      constructor
      · intro e2; rw [e1] at e2; cases e2
      · intro e2; exact absurd e2.symm (sgn_ne x hx).2.2.2
end Go.Proofs.YtcdijppegfcoaabGreatDoor
