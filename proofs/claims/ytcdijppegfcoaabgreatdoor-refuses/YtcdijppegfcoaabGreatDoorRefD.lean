/-
  OUR OWN TEXT. typerref.deep.
-/
import Derived.Test.YtcdijppegfcoaabGreatDoorTree
import Derived.Deep.LoopGhost
namespace Go.Proofs.YtcdijppegfcoaabGreatDoor
open Go.RowKit

def maxl (l : List Nat) : Nat := l.foldl max 0
/-- How deep. -/
def exDeep : Nat → Ex → Nat
  | 0, _ => 0
  | m + 1, x => maxl (x.kids.map (exDeep m)) + 1
theorem foldl_max (l : List Nat) (a : Nat) : l.foldl max a = max a (l.foldl max 0) := by
  induction l generalizing a with
  | nil => simp
  | cons b l ih => simp only [List.foldl_cons]; rw [ih (max a b), ih (max 0 b)]; omega
theorem maxl_snoc (l : List Nat) (a : Nat) : maxl (l ++ [a]) = max (maxl l) a := by simp [maxl, List.foldl_append]
theorem maxl_mem {l : List Nat} {a : Nat} (h : a ∈ l) : a ≤ maxl l := by
  induction l with
  | nil => cases h
  | cons b l ih =>
    unfold maxl
    rw [List.foldl_cons, foldl_max]
    rcases List.mem_cons.1 h with rfl | h
    · omega
    · have := ih h; unfold maxl at this; omega
theorem maxl_take (l : List Nat) (j : Nat) : maxl (l.take j) ≤ maxl l := by
  have e : maxl l = max (maxl (l.take j)) (maxl (l.drop j)) := by
    conv => lhs; rw [← List.take_append_drop j l]
    unfold maxl
    rw [List.foldl_append, foldl_max]
  omega

/-- No row of it is too long. -/
def Small : Nat → Ex → Prop
  | 0, _ => True
  | m + 1, x => x.kids.length ≤ 1000000 ∧ x.names.length ≤ 1000000 ∧ ∀ y, y ∈ x.kids → Small m y
/-- A row of pointers, as a slice of whatever make. -/
theorem row_view {H : Nat → Option Obj} {w : World} {v : Value} {bs : List Nat} (h : RowH H 99004 v (ptrs bs)) (hz : Fz H w) :
    ∃ ao cp, v = .slice ao bs.length cp ∧ ∀ j c, bs[j]? = some c → ∃ gn, ao = some ⟨gn, 0, none⟩ ∧ w.cell? ⟨gn, j, none⟩ = some (.pointer (some ⟨c, 0, none⟩)) := by
  have lk : (ptrs bs).length = bs.length := by simp [ptrs]
  rcases h with ⟨rfl, h0⟩ | ⟨gn, cap, cur, h1, h2, h3⟩
  · have e : bs = [] := by
      cases bs with
      | nil => rfl
      | cons a l => simp [ptrs] at h0
    subst e
    exact ⟨none, 0, rfl, fun j c hc => by simp at hc⟩
  · refine ⟨some ⟨gn, 0, none⟩, cap, by rw [h1, lk], fun j c hc => ⟨gn, rfl, ?_⟩⟩
    have hb := hz _ _ h2
    have hj : j < bs.length := by
      rcases Nat.lt_or_ge j bs.length with h | h
      · exact h
      · rw [List.getElem?_eq_none h] at hc; cases hc
    have e : (ptrs bs)[j]? = some (.pointer (some ⟨c, 0, none⟩)) := by simp [ptrs, hc]
    rw [← h3, List.getElem?_take, if_pos (by rw [lk]; exact hj)] at e
    simp only [World.cell?, hb]
    simpa using e

end Go.Proofs.YtcdijppegfcoaabGreatDoor
