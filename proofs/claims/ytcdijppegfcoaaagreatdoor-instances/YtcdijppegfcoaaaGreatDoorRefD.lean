/-
  OUR OWN TEXT. typerref.deep.
-/
import Derived.Test.YtcdijppegfcoaaaGreatDoorTree
import Derived.Deep.LoopGhost
namespace Go.Proofs.YtcdijppegfcoaaaGreatDoor
open Go.RowKit

def maxl (l : List Nat) : Nat := l.foldl max 0
/-- How deep. -/
def exDeep : Nat → Ex → Nat
  | 0, _ => 0
  | m + 1, x => maxl (x.kids.map (exDeep m)) + 1
theorem foldl_max (l : List Nat) (a : Nat) : l.foldl max a = max a (l.foldl max 0) := by
  induction l generalizing a with
  | nil => simp
  | cons b l ih => simp only [List.foldl_cons]; rw [ih (max a b), ih (max 0 b)]; omega
theorem maxl_snoc (l : List Nat) (a : Nat) : maxl (l ++ [a]) = max (maxl l) a := by simp [maxl, List.foldl_append]
theorem maxl_mem {l : List Nat} {a : Nat} (h : a ∈ l) : a ≤ maxl l := by
  induction l with
  | nil => cases h
  | cons b l ih =>
    unfold maxl
    rw [List.foldl_cons, foldl_max]
    rcases List.mem_cons.1 h with rfl | h
    · omega
    · have := ih h; unfold maxl at this; omega
theorem maxl_take (l : List Nat) (j : Nat) : maxl (l.take j) ≤ maxl l := by
  have e : maxl l = max (maxl (l.take j)) (maxl (l.drop j)) := by
    conv => lhs; rw [← List.take_append_drop j l]
    unfold maxl
    rw [List.foldl_append, foldl_max]
  omega

/-- No row of it is too long. -/
def Small : Nat → Ex → Prop
  | 0, _ => True
  | m + 1, x => x.kids.length ≤ 1000000 ∧ x.names.length ≤ 1000000 ∧ ∀ y, y ∈ x.kids → Small m y
/-- A row of pointers, as a slice of whatever make. -/
theorem row_view {H : Nat → Option Obj} {w : World} {v : Value} {bs : List Nat} (h : RowH H 26 v (ptrs bs)) (hz : Fz H w) :
    ∃ ao cp, v = .slice ao bs.length cp ∧ ∀ j c, bs[j]? = some c → ∃ gn, ao = some ⟨gn, 0, none⟩ ∧ w.cell? ⟨gn, j, none⟩ = some (.pointer (some ⟨c, 0, none⟩)) := by
  have lk : (ptrs bs).length = bs.length := by simp [ptrs]
  rcases h with ⟨rfl, h0⟩ | ⟨gn, cap, cur, h1, h2, h3⟩
  · have e : bs = [] := by
      cases bs with
      | nil => rfl
      | cons a l => simp [ptrs] at h0
    subst e
    exact ⟨none, 0, rfl, fun j c hc => by simp at hc⟩
  · refine ⟨some ⟨gn, 0, none⟩, cap, by rw [h1, lk], fun j c hc => ⟨gn, rfl, ?_⟩⟩
    have hb := hz _ _ h2
    have hj : j < bs.length := by
      rcases Nat.lt_or_ge j bs.length with h | h
      · exact h
      · rw [List.getElem?_eq_none h] at hc; cases hc
    have e : (ptrs bs)[j]? = some (.pointer (some ⟨c, 0, none⟩)) := by simp [ptrs, hc]
    rw [← h3, List.getElem?_take, if_pos (by rw [lk]; exact hj)] at e
    simp only [World.cell?, hb]
    simpa using e

set_option maxRecDepth 100000 in
set_option maxHeartbeats 1000000 in
theorem deep_any : ∀ (m : Nat) (H : Nat → Option Obj) (b : Nat) (x : Ex) (w : World), XRep m H b x → Fz H w → exDeep m x ≤ 1000000 → Small m x →
    Calls Tryz.prog 41 #[.pointer (some ⟨b, 0, none⟩)] w fun e w' => e = .returned (.int .i64 (exDeep m x : Int)) ∧ w' = w := by
  intro m
  induction m with
  | zero => intro H b x w h; exact absurd h id
  | succ m ih =>
    intro H b x w h hz hd hs
    obtain ⟨ns, ks, bs, h1, h2, h3, h4, h5⟩ := h
    have hb := hz _ _ h1
    have c2 : w.cell? ⟨b, 2, none⟩ = some ks := by simp [World.cell?, hb]
    obtain ⟨ao, cp, hks, hrow⟩ := row_view h3 hz
    rw [hks] at c2
    have hlen : bs.length ≤ 1000000 := by rw [h4]; exact hs.1
    have HD := hid hd
    have HS := hid hs
    have HROW := hid hrow
    have H5 := hid h5
    have HZ := hid hz
    have IH := hid ih
    have H4 := hid h4
    clear hd hs hrow h5 hz ih h1 h2 h3 h4 hb hks
    go_enter Tryz.func41, Tryz.ntmps41
    go_wp2_with fail
    go_loopg [3, 12] (bs.length + 1) (fun gh v i wi => ∃ j k : Nat, j ≤ bs.length ∧ i = .int .i64 j ∧ gh = bs.length - j + 1 ∧ v = .int .i64 k ∧ k ≤ 1000000 ∧ Hid (k = maxl ((x.kids.take j).map (exDeep m))) ∧ wi = w)
    case atStart => exact ⟨0, 0, by omega, rfl, by omega, rfl, by omega, rfl, rfl⟩
    case round =>
      obtain ⟨j, k, hj, rfl, hgj, rfl, hk, HKJ, rfl⟩ := hrel
      by_cases hjl : j < bs.length
      · obtain ⟨c, hc⟩ : ∃ c, bs[j]? = some c := ⟨bs[j], List.getElem?_eq_getElem hjl⟩
        obtain ⟨y, hy⟩ : ∃ y, x.kids[j]? = some y := ⟨x.kids[j]'(by rw [← H4.out]; exact hjl), List.getElem?_eq_getElem _⟩
        obtain ⟨gn, rfl, hcell⟩ := HROW.out j c hc
        have hry := H5.out j y c hc hy
        have hym : y ∈ x.kids := List.mem_of_getElem? hy
        have hdy : exDeep m y ≤ 1000000 := by
          have h1 : exDeep m y ≤ maxl (x.kids.map (exDeep m)) := maxl_mem (List.mem_map.2 ⟨y, hym, rfl⟩)
          have h2 : maxl (x.kids.map (exDeep m)) + 1 ≤ 1000000 := HD.out
          omega
        have hstep : maxl ((x.kids.take (j + 1)).map (exDeep m)) = max k (exDeep m y) := by
          rw [List.take_add_one, hy, List.map_append]
          show maxl (_ ++ [exDeep m y]) = _
          rw [maxl_snoc, ← HKJ.out]
        have CON := hid (IH.out H c y wr hry HZ.out hdy (HS.out.2.2 y hym))
        obtain ⟨dy, hdy2⟩ : ∃ dy : Nat, dy = exDeep m y := ⟨_, rfl⟩
        rw [← hdy2] at hstep CON hdy
        have HST := hid hstep
        clear hc hy hry hym hstep hdy2
        by_cases hgt : k < dy
        · go_wp2_with fail
          refine CON.out.mono ?_
          rintro e w' ⟨rfl, rfl⟩
          go_wp2_with fail
          go_roundg (bs.length - (j + 1) + 1)
          case measure => omega
          case rel => exact ⟨j + 1, dy, by omega, by go_num, rfl, rfl, by omega, hid (by rw [HST.out]; omega), rfl⟩
        · go_wp2_with fail
          refine CON.out.mono ?_
          rintro e w' ⟨rfl, rfl⟩
          go_wp2_with fail
          go_roundg (bs.length - (j + 1) + 1)
          case measure => omega
          case rel => exact ⟨j + 1, k, by omega, by go_num, rfl, rfl, by omega, hid (by rw [HST.out]; omega), rfl⟩
      · have hje : j = bs.length := by omega
        subst hje
        have e : maxl (x.kids.map (exDeep m)) = k := by
          have := HKJ.out
          rw [H4.out, List.take_length] at this
          exact this.symm
        have HE := hid e
        clear e
        go_wp2
        go_ret
        refine ⟨?_, rfl⟩
        rw [exDeep, HE.out]
        rfl
end Go.Proofs.YtcdijppegfcoaaaGreatDoor
