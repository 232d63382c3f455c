/-
  OUR OWN TEXT. typerref.Text.
-/
import Derived.Test.YtcdijppegfcoaabGreatDoorRefD
import Derived.Deep.QuietTactic
import Derived.BigQuiet
namespace Go.Proofs.YtcdijppegfcoaabGreatDoor
open Go.RowKit

def tFun : List UInt8 := [102, 117, 110, 32]
def tArrow : List UInt8 := [32, 45, 62, 32]

/-- A row of texts that no longer changes, as a slice of whatever make. -/
theorem srow_view {H : Nat → Option Obj} {w : World} {v : Value} {ns : List (List UInt8)} (h : RowH H 9 v (strs ns)) (hz : Fz H w) :
    ∃ ao cp, v = .slice ao ns.length cp ∧ ∀ j c, ns[j]? = some c → ∃ gn, ao = some ⟨gn, 0, none⟩ ∧ w.cell? ⟨gn, j, none⟩ = some (.string (B c)) := by
  have lk : (strs ns).length = ns.length := by simp [strs]
  rcases h with ⟨rfl, h0⟩ | ⟨gn, cap, cur, h1, h2, h3⟩
  · have e : ns = [] := by
      cases ns with
      | nil => rfl
      | cons a l => simp [strs] at h0
    subst e
    exact ⟨none, 0, rfl, fun j c hc => by simp at hc⟩
  · refine ⟨some ⟨gn, 0, none⟩, cap, by rw [h1, lk], fun j c hc => ⟨gn, rfl, ?_⟩⟩
    have hb := hz _ _ h2
    have hj : j < ns.length := by
      rcases Nat.lt_or_ge j ns.length with h | h
      · exact h
      · rw [List.getElem?_eq_none h] at hc; cases hc
    have e : (strs ns)[j]? = some (.string (B c)) := by simp [strs, hc]
    rw [← h3, List.getElem?_take, if_pos (by rw [lk]; exact hj)] at e
    simp only [World.cell?, hb]
    simpa using e

theorem size_B (l : List UInt8) : (B l).size = l.length := by simp [B, ByteArray.size]
theorem append_B (a b : List UInt8) : B a ++ B b = B (a ++ b) := by
  apply ByteArray.ext
  simp [B]

end Go.Proofs.YtcdijppegfcoaabGreatDoor
