/-
  OUR OWN TEXT. typerref.Text.
-/
import Derived.Test.YtcdijppegfcoaaaGreatDoorRefD
import Derived.Deep.QuietTactic
import Derived.BigQuiet
namespace Go.Proofs.YtcdijppegfcoaaaGreatDoor
open Go.RowKit

def tFun : List UInt8 := [102, 117, 110, 32]
def tArrow : List UInt8 := [32, 45, 62, 32]

/-- A row of texts that no longer changes, as a slice of whatever make. -/
theorem srow_view {H : Nat → Option Obj} {w : World} {v : Value} {ns : List (List UInt8)} (h : RowH H 9 v (strs ns)) (hz : Fz H w) :
    ∃ ao cp, v = .slice ao ns.length cp ∧ ∀ j c, ns[j]? = some c → ∃ gn, ao = some ⟨gn, 0, none⟩ ∧ w.cell? ⟨gn, j, none⟩ = some (.string (B c)) := by
  have lk : (strs ns).length = ns.length := by simp [strs]
  rcases h with ⟨rfl, h0⟩ | ⟨gn, cap, cur, h1, h2, h3⟩
  · have e : ns = [] := by
      cases ns with
      | nil => rfl
      | cons a l => simp [strs] at h0
    subst e
    exact ⟨none, 0, rfl, fun j c hc => by simp at hc⟩
  · refine ⟨some ⟨gn, 0, none⟩, cap, by rw [h1, lk], fun j c hc => ⟨gn, rfl, ?_⟩⟩
    have hb := hz _ _ h2
    have hj : j < ns.length := by
      rcases Nat.lt_or_ge j ns.length with h | h
      · exact h
      · rw [List.getElem?_eq_none h] at hc; cases hc
    have e : (strs ns)[j]? = some (.string (B c)) := by simp [strs, hc]
    rw [← h3, List.getElem?_take, if_pos (by rw [lk]; exact hj)] at e
    simp only [World.cell?, hb]
    simpa using e

theorem size_B (l : List UInt8) : (B l).size = l.length := by simp [B, ByteArray.size]
theorem append_B (a b : List UInt8) : B a ++ B b = B (a ++ b) := by
  apply ByteArray.ext
  simp [B]

set_option maxRecDepth 100000 in
set_option maxHeartbeats 1000000 in
theorem text_fun (w : World) (b c gn gk cn ck : Nat) (nm : List UInt8) (tx : List UInt8) (p : Int) (hnm : nm.length ≤ 1000000) (htx : tx.length ≤ 1000000000)
    (hb : w.heap[b]? = some (.cells #[.string (B kFun), .slice (some ⟨gn, 0, none⟩) 1 cn, .slice (some ⟨gk, 0, none⟩) 1 ck, .int .i64 p] 86 (0, 0)))
    (hn : w.cell? ⟨gn, 0, none⟩ = some (.string (B nm))) (hk : w.cell? ⟨gk, 0, none⟩ = some (.pointer (some ⟨c, 0, none⟩)))
    (ih : ∀ n, Calls Tryz.prog 17 #[.pointer (some ⟨c, 0, none⟩)] (w.drewN n) fun e w' => e = .returned (.string (B tx)) ∧ ∃ q, w' = (w.drewN n).drewN q) :
    Calls Tryz.prog 17 #[.pointer (some ⟨b, 0, none⟩)] w fun e w' => e = .returned (.string (B (tFun ++ nm ++ tArrow ++ tx))) ∧ ∃ q, w' = w.drewN q := by
  have c0 : w.cell? ⟨b, 0, none⟩ = some (.string (B kFun)) := by simp [World.cell?, hb]
  have c1 : w.cell? ⟨b, 1, none⟩ = some (.slice (some ⟨gn, 0, none⟩) 1 cn) := by simp [World.cell?, hb]
  have c2 : w.cell? ⟨b, 2, none⟩ = some (.slice (some ⟨gk, 0, none⟩) 1 ck) := by simp [World.cell?, hb]
  have o1 : ((B kFun).toList == [110, 97, 109, 101]) = false := by rw [toList_B]; decide
  have o2 : ((B kFun).toList == [110, 117, 109]) = false := by rw [toList_B]; decide
  have o3 : ((B kFun).toList == [102, 117, 110]) = true := by rw [toList_B]; decide
  have IH := hid ih
  clear ih hb
  go_enter Tryz.func17, Tryz.ntmps17
  go_wp2_with fail
  have sz1 : (B nm).size ≤ 1000000 := by rw [size_B]; exact hnm
  have sz2 : (B tx).size ≤ 1000000000 := by rw [size_B]; exact htx
  go_quiet ((go_at_call 17; exact Calls.quiet_of (IH.out _)))
  go_wp2
  go_ret
  refine ⟨?_, _, rfl⟩
  show Ending.returned (.string (B tFun ++ B nm ++ B tArrow ++ B tx)) = _
  rw [append_B, append_B, append_B]
end Go.Proofs.YtcdijppegfcoaaaGreatDoor
