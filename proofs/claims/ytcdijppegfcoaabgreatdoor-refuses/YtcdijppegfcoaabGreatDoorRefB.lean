/-
  OUR OWN TEXT. typerref's reader: bound.
-/
import Derived.Test.YtcdijppegfcoaabGreatDoorXMut
import Derived.Deep.LoopGhost
namespace Go.Proofs.YtcdijppegfcoaabGreatDoor
open Go.RowKit

theorem info_str : (Tryz.prog.info? 9).map (fun i => (i.zero, i.size, i.bytes)) = some (some (.string (B [])), 1, 16) := by kernel_rfl
/-- What bound leaves. -/
def BPost (T : List Tok) (w w' : World) (rb g cap xb : Nat) (H : Nat → Option Obj) (s' : St) (ex : Ex) : Prop :=
  ∃ H' ns' ks' bs' m', RS w' rb g cap T s' ∧ s'.k < T.length ∧ KeptTo xb rb w w' ∧ Fz H' w' ∧ Ext w.heap.size H H' ∧ XM w' xb H' ns' ks' bs' m' ex
theorem Fz.drewN {H : Nat → Option Obj} {w : World} (h : Fz H w) (n : Nat) : Fz H (w.drewN n) := h
def twiceTo (names : List (List UInt8)) (n : List UInt8) (p : Nat) (s : St) (j : Nat) : St := twiceS (names.take j) n p s

theorem twice_zero (names : List (List UInt8)) (n : List UInt8) (p : Nat) (s : St) : twiceTo names n p s 0 = s := by simp [twiceTo, twiceS]
theorem twice_all (names : List (List UInt8)) (n : List UInt8) (p : Nat) (s : St) : twiceTo names n p s names.length = twiceS names n p s := by simp [twiceTo]
theorem twice_k (names : List (List UInt8)) (n : List UInt8) (p : Nat) (s : St) (j : Nat) : (twiceTo names n p s j).k = s.k := by
  unfold twiceTo twiceS
  split <;> rfl
theorem twice_bad {names : List (List UInt8)} {n : List UInt8} {p : Nat} {s : St} {j : Nat} (h : (twiceTo names n p s j).bad < 0) : s.bad < 0 ∧ twiceTo names n p s j = s := by
  unfold twiceTo twiceS at h ⊢
  by_cases hc : n ∈ names.take j ∧ s.bad < 0
  · rw [if_pos hc] at h
    exact absurd h (by show ¬ ((p : Int) < 0); omega)
  · rw [if_neg hc] at h ⊢
    exact ⟨h, rfl⟩
theorem twice_yes {w : World} {rb g cap : Nat} {T : List Tok} {names : List (List UInt8)} {n : List UInt8} {p : Nat} {s : St} {j : Nat} (h : RS w rb g cap T (twiceTo names n p s j)) (hj : j < names.length) (hn : names.getD j [] = n) (hb : (twiceTo names n p s j).bad < 0) (hp : p ≤ 400) :
    RS (w.setCell ⟨rb, 2, none⟩ (.int .i64 (p : Int))) rb g cap T (twiceTo names n p s (j + 1)) := by
  obtain ⟨hb1, e⟩ := twice_bad hb
  have e2 : twiceTo names n p s (j + 1) = ⟨s.k, (p : Int)⟩ := by
    unfold twiceTo twiceS
    rw [kw_take names j hj, if_pos ⟨List.mem_append_right _ (List.mem_singleton.2 hn.symm), hb1⟩]
  rw [e] at h
  rw [e2]
  exact h.keep (Below.heap_setCell _ _ _ _ h.ne) (by rw [set_third h.r]) h.kle (by show (-1 : Int) ≤ (p : Int); omega) (by show (p : Int) ≤ 400; omega)
theorem twice_no {names : List (List UInt8)} {n : List UInt8} {p : Nat} {s : St} {j : Nat} (hj : j < names.length) (h : names.getD j [] ≠ n ∨ ¬ (twiceTo names n p s j).bad < 0) : twiceTo names n p s j = twiceTo names n p s (j + 1) := by
  unfold twiceTo at h ⊢
  unfold twiceS at h ⊢
  rw [kw_take names j hj]
  by_cases hb : s.bad < 0
  · by_cases hm : n ∈ names.take j
    · rw [if_pos ⟨hm, hb⟩, if_pos ⟨List.mem_append_left _ hm, hb⟩]
    · rw [if_neg (fun e => hm e.1)] at h ⊢
      have hne : names.getD j [] ≠ n := h.resolve_right (fun e => e hb)
      rw [if_neg]
      rintro ⟨hx, _⟩
      rcases List.mem_append.1 hx with hx | hx
      · exact hm hx
      · exact hne (List.mem_singleton.1 hx).symm
  · rw [if_neg (fun e => hb e.2), if_neg (fun e => hb e.2)]
/-- A row of texts, as a slice of whatever make. -/
theorem own_view {w : World} {base : Nat} {v : Value} {names : List (List UInt8)} (h : w.ownsRow base 9 1 v names.length (strs names)) :
    ∃ ao cp, v = .slice ao names.length cp ∧ ∀ j, j < names.length → ∃ gn, ao = some ⟨gn, 0, none⟩ ∧ base ≤ gn ∧ gn < w.heap.size ∧ w.cell? ⟨gn, j, none⟩ = some (.string (B (names.getD j []))) := by
  obtain ⟨_, h2⟩ := h
  rcases h2 with ⟨rfl, h0⟩ | ⟨gn, cap, cur, rfl, hg, hh, _, _, _, ht⟩
  · exact ⟨none, 0, by rw [h0], fun j hj => by omega⟩
  · refine ⟨some ⟨gn, 0, none⟩, cap, rfl, fun j hj => ⟨gn, rfl, hg, lt_of_block hh, ?_⟩⟩
    have e : (strs names)[j]? = some (.string (B (names.getD j []))) := by simp [strs, List.getD, hj]
    rw [← ht, List.getElem?_take, if_pos (by omega)] at e
    simp only [World.cell?, hh]
    simpa using e

end Go.Proofs.YtcdijppegfcoaabGreatDoor
