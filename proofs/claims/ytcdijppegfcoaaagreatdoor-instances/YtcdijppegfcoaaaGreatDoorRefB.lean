/-
  OUR OWN TEXT. typerref's reader: bound.
-/
import Derived.Test.YtcdijppegfcoaaaGreatDoorXMut
import Derived.Deep.LoopGhost
namespace Go.Proofs.YtcdijppegfcoaaaGreatDoor
open Go.RowKit

theorem info_str : (Tryz.prog.info? 9).map (fun i => (i.zero, i.size, i.bytes)) = some (some (.string (B [])), 1, 16) := by kernel_rfl
theorem info_ptr : (Tryz.prog.info? 26).map (fun i => (i.zero, i.size, i.bytes)) = some (some (.pointer none), 1, 8) := by kernel_rfl

/-- What bound leaves. -/
def BPost (T : List Tok) (w w' : World) (rb g cap xb : Nat) (H : Nat → Option Obj) (s' : St) (ex : Ex) : Prop :=
  ∃ H' ns' ks' bs' m', RS w' rb g cap T s' ∧ s'.k < T.length ∧ KeptTo xb rb w w' ∧ Fz H' w' ∧ Ext w.heap.size H H' ∧ XM w' xb H' ns' ks' bs' m' ex
theorem Fz.drewN {H : Nat → Option Obj} {w : World} (h : Fz H w) (n : Nat) : Fz H (w.drewN n) := h
def twiceTo (names : List (List UInt8)) (n : List UInt8) (p : Nat) (s : St) (j : Nat) : St := twiceS (names.take j) n p s

theorem twice_zero (names : List (List UInt8)) (n : List UInt8) (p : Nat) (s : St) : twiceTo names n p s 0 = s := by simp [twiceTo, twiceS]
theorem twice_all (names : List (List UInt8)) (n : List UInt8) (p : Nat) (s : St) : twiceTo names n p s names.length = twiceS names n p s := by simp [twiceTo]
theorem twice_k (names : List (List UInt8)) (n : List UInt8) (p : Nat) (s : St) (j : Nat) : (twiceTo names n p s j).k = s.k := by
  unfold twiceTo twiceS
  split <;> rfl
theorem twice_bad {names : List (List UInt8)} {n : List UInt8} {p : Nat} {s : St} {j : Nat} (h : (twiceTo names n p s j).bad < 0) : s.bad < 0 ∧ twiceTo names n p s j = s := by
  unfold twiceTo twiceS at h ⊢
  by_cases hc : n ∈ names.take j ∧ s.bad < 0
  · rw [if_pos hc] at h
    exact absurd h (by show ¬ ((p : Int) < 0); omega)
  · rw [if_neg hc] at h ⊢
    exact ⟨h, rfl⟩
theorem twice_yes {w : World} {rb g cap : Nat} {T : List Tok} {names : List (List UInt8)} {n : List UInt8} {p : Nat} {s : St} {j : Nat} (h : RS w rb g cap T (twiceTo names n p s j)) (hj : j < names.length) (hn : names.getD j [] = n) (hb : (twiceTo names n p s j).bad < 0) (hp : p ≤ 400) :
    RS (w.setCell ⟨rb, 2, none⟩ (.int .i64 (p : Int))) rb g cap T (twiceTo names n p s (j + 1)) := by
  obtain ⟨hb1, e⟩ := twice_bad hb
  have e2 : twiceTo names n p s (j + 1) = ⟨s.k, (p : Int)⟩ := by
    unfold twiceTo twiceS
    rw [kw_take names j hj, if_pos ⟨List.mem_append_right _ (List.mem_singleton.2 hn.symm), hb1⟩]
  rw [e] at h
  rw [e2]
  exact h.keep (Below.heap_setCell _ _ _ _ h.ne) (by rw [set_third h.r]) h.kle (by show (-1 : Int) ≤ (p : Int); omega) (by show (p : Int) ≤ 400; omega)
theorem twice_no {names : List (List UInt8)} {n : List UInt8} {p : Nat} {s : St} {j : Nat} (hj : j < names.length) (h : names.getD j [] ≠ n ∨ ¬ (twiceTo names n p s j).bad < 0) : twiceTo names n p s j = twiceTo names n p s (j + 1) := by
  unfold twiceTo at h ⊢
  unfold twiceS at h ⊢
  rw [kw_take names j hj]
  by_cases hb : s.bad < 0
  · by_cases hm : n ∈ names.take j
    · rw [if_pos ⟨hm, hb⟩, if_pos ⟨List.mem_append_left _ hm, hb⟩]
    · rw [if_neg (fun e => hm e.1)] at h ⊢
      have hne : names.getD j [] ≠ n := h.resolve_right (fun e => e hb)
      rw [if_neg]
      rintro ⟨hx, _⟩
      rcases List.mem_append.1 hx with hx | hx
      · exact hm hx
      · exact hne (List.mem_singleton.1 hx).symm
  · rw [if_neg (fun e => hb e.2), if_neg (fun e => hb e.2)]
/-- A row of texts, as a slice of whatever make. -/
theorem own_view {w : World} {base : Nat} {v : Value} {names : List (List UInt8)} (h : w.ownsRow base 9 1 v names.length (strs names)) :
    ∃ ao cp, v = .slice ao names.length cp ∧ ∀ j, j < names.length → ∃ gn, ao = some ⟨gn, 0, none⟩ ∧ base ≤ gn ∧ gn < w.heap.size ∧ w.cell? ⟨gn, j, none⟩ = some (.string (B (names.getD j []))) := by
  obtain ⟨_, h2⟩ := h
  rcases h2 with ⟨rfl, h0⟩ | ⟨gn, cap, cur, rfl, hg, hh, _, _, _, ht⟩
  · exact ⟨none, 0, by rw [h0], fun j hj => by omega⟩
  · refine ⟨some ⟨gn, 0, none⟩, cap, rfl, fun j hj => ⟨gn, rfl, hg, lt_of_block hh, ?_⟩⟩
    have e : (strs names)[j]? = some (.string (B (names.getD j []))) := by simp [strs, List.getD, hj]
    rw [← ht, List.getElem?_take, if_pos (by omega)] at e
    simp only [World.cell?, hh]
    simpa using e

set_option maxRecDepth 100000 in
set_option maxHeartbeats 2000000 in
theorem bound_any (T : List Tok) (n : Nat) (hT : Wf T) (hE : EXP T n) (w : World) (rb g cap xb : Nat) (H : Nat → Option Obj) (s : St) (ns ks : Value) (bs : List Nat) (m : Nat) (x : Ex) (ex : Ex) (s' : St) (hs : boundS (expS T n) T x s = some (ex, s'))
    (h : RS w rb g cap T s) (hk : s.k < T.length) (hz : Fz H w) (hx : XM w xb H ns ks bs m x) (hr : rb < xb) (hrn : H rb = none) (hg : g < xb) (hnl : x.names.length ≤ 1000) (hkl : bs.length ≤ 1000) :
    Calls Tryz.prog 76 #[.pointer (some ⟨rb, 0, none⟩), .pointer (some ⟨xb, 0, none⟩)] w fun e w' => e = .returned (.tuple #[]) ∧ BPost T w w' rb g cap xb H s' ex := by
  have hl := h.len
  have c0 := h.cell0
  have c1 := h.cell1
  obtain ⟨d0, d1, d2⟩ := h.cells s.k hk
  have hk1 : (s.k : Int) < (T.length : Int) := by omega
  have HH := hid h
  have HZ := hid hz
  have HE := hid hE
  have HS := hid hs
  have HX := hid hx
  clear h hz hE hs hx d0 d1
  go_enter Tryz.func76, Tryz.ntmps76
  go_wp2_with fail
  go_quiet (fail)
  go_wp2_with fail
  refine (need_any _ rb g cap T s kName (HH.out.drewN _) hk).mono ?_
  rintro e w2 ⟨rfl, h2, hkept⟩
  have h3 := (HX.out.drewN _).kept hkept (Ext.refl _ _) hr
  have HZ2 := hid ((Fz.drewN HZ.out _).kept hkept hrn)
  have HK2 := hid (KeptTo.of (n := xb) (((Kept.refl rb w).drewN _).trans hkept) (by have := lt_of_block HX.out.blk; omega))
  have hw2 : w.heap.size ≤ w2.heap.size := hkept.size
  have hk2 : (needS T s kName).k < T.length := hT.need hk (by decide) (by decide)
  obtain ⟨s1, hs1⟩ : ∃ s1, s1 = needS T s kName := ⟨_, rfl⟩
  rw [← hs1] at h2 hk2
  have HS1 := hid hs1
  have e := HS.out
  unfold boundS at e
  rw [← hs1] at e
  have HEE := hid e
  obtain ⟨x0, x1, x2, x3, f0, f1, f2⟩ := four_cells h3.blk
  obtain ⟨ao, cp, hns, hrow⟩ := own_view h3.nrow
  have HROW := hid hrow
  have HNS := hid hns
  rw [hns] at x1
  have H2 := hid h2
  have H3 := hid h3
  clear h2 h3 hkept hs1 e HS c0 c1 d2 hrow hns
  obtain ⟨nm, hnm⟩ : ∃ nm, nm = (tk T s.k).s := ⟨_, rfl⟩
  obtain ⟨p, hp⟩ : ∃ p, p = (tk T s.k).pos := ⟨_, rfl⟩
  have hpl : p ≤ 400 := by rw [hp]; exact HH.out.pos _
  rw [← hnm, ← hp] at HEE ⊢
  have HNM := hid hnm
  clear hnm hp
  go_wp2_with fail
  go_loopg [26] (x.names.length + 1) (fun gh i wi => ∃ j : Nat, j ≤ x.names.length ∧ i = .int .i64 j ∧ gh = x.names.length - j + 1 ∧ RS wi rb g cap T (twiceTo x.names nm p s1 j) ∧ Kept rb w2 wi)
  case atStart => exact ⟨0, by omega, rfl, by omega, by rw [twice_zero]; exact H2.out, Kept.refl _ _⟩
  case round =>
    obtain ⟨j, hj, rfl, hgj, hrs, hkp⟩ := hrel
    by_cases hjl : j < x.names.length
    · obtain ⟨gn, rfl, hgn, hgl, hcell⟩ := HROW.out j hjl
      have c1 : wr.cell? ⟨gn, j, none⟩ = some (.string (B (x.names.getD j []))) := (kept_cell hkp hgl (by omega)).trans hcell
      have c2 := hrs.cell2
      have f3 := free_third hrs.r
      obtain ⟨nj, hnj⟩ : ∃ nj, nj = x.names.getD j [] := ⟨_, rfl⟩
      rw [← hnj] at c1
      obtain ⟨bj, hbj⟩ : ∃ bj, bj = (twiceTo x.names nm p s1 j).bad := ⟨_, rfl⟩
      rw [← hbj] at c2
      have HNJ := hid hnj
      have HBJ := hid hbj
      have HRS := hid hrs
      have HKP := hid hkp
      clear hnj hbj hrs hkp hcell
      by_cases hA : nj = nm
      · have h1 : ((B nj).toList == (B nm).toList) = true := by rw [hA]; exact beq_self_eq_true _
        have HA := hid hA
        clear hA
        by_cases hb : bj < 0
        · have hd : decide (bj < 0) = true := by simp [hb]
          have HB := hid hb
          clear hb
          go_wp2
          go_roundg (x.names.length - (j + 1) + 1)
          case measure => omega
          case rel => exact ⟨j + 1, by omega, by go_num, rfl, twice_yes HRS.out hjl (HNJ.out.symm.trans HA.out) (by rw [← HBJ.out]; exact HB.out) hpl, HKP.out.setCell _ _⟩
        · have hd : decide (bj < 0) = false := by simp; omega
          have HB := hid hb
          clear hb
          go_wp2
          go_roundg (x.names.length - (j + 1) + 1)
          case measure => omega
          case rel => exact ⟨j + 1, by omega, by go_num, rfl, by rw [← twice_no hjl (Or.inr (by rw [← HBJ.out]; have := HB.out; omega))]; exact HRS.out, HKP.out⟩
      · have h1 : ((B nj).toList == (B nm).toList) = false := by rw [toList_B, toList_B]; exact beq_eq_false_iff_ne.2 hA
        have HA := hid hA
        clear hA
        go_wp2
        go_roundg (x.names.length - (j + 1) + 1)
        case measure => omega
        case rel => exact ⟨j + 1, by omega, by go_num, rfl, by rw [← twice_no hjl (Or.inl (by rw [← HNJ.out]; exact HA.out))]; exact HRS.out, HKP.out⟩
    · have hje : j = x.names.length := by omega
      subst hje
      have HRS := hid hrs
      have HKP := hid hkp
      clear hrs hkp
      go_wp2_with fail
      refine (need_any _ rb g cap T (twiceTo x.names nm p s1 x.names.length) kEq HRS.out (by rw [twice_k]; exact hk2)).mono ?_
      rintro e w3 ⟨rfl, h4, hkept3⟩
      have hk4 : (needS T (twiceTo x.names nm p s1 x.names.length) kEq).k < T.length := hT.need (by rw [twice_k]; exact hk2) (by decide) (by decide)
      have hkp3 := HKP.out.trans hkept3
      have h5 := H3.out.kept hkp3 (Ext.refl _ _) hr
      have HZ3 := hid (HZ2.out.kept hkp3 hrn)
      have HK3 := hid (HK2.out.trans (KeptTo.of hkp3 (by have := lt_of_block H3.out.blk; omega)))
      have hw3 : w2.heap.size ≤ w3.heap.size := hkp3.size
      rw [twice_all] at h4 hk4
      obtain ⟨s2, hs2⟩ : ∃ s2, s2 = needS T (twiceS x.names nm p s1) kEq := ⟨_, rfl⟩
      rw [← hs2] at h4 hk4 HEE
      rw [HNS.out] at h5
      obtain ⟨y0, y1, y2, y3, v0, v1, v2⟩ := four_cells h5.blk
      have hrow := h5.nrow
      have hxl := lt_of_block h5.blk
      have H4 := hid h4
      have H5 := hid h5
      clear h4 h5 hkept3 hkp3 hs2 HRS HKP H3 H2 HZ2 HK2 x0 x1 x2 x3 f0 f1 f2 HROW
      obtain ⟨i0, hi, hz0, hz1, hz2⟩ := info_parts info_str
      go_wp2_with (at_builtin; refine wpList_append_lies _ rfl (.tmp 51) (.tmp 53) 34 rfl xb 9 i0 (.string (B [])) 1 16 Tryz.underlying34 hi hz0 hz1 hz2 rfl (by decide) _ _ _ rfl (hrow.alloc _) ⟨w3.heap.size, 0, none⟩ 1 1 [.string (B nm)] rfl rfl ?d1 ?d2 (by decide) ?d3 ?d4 ?d5 (w3.heap.size + 1) ?d6 ?_)
      case d1 => exact one_new _ _ _
      case d2 => exact one_str _
      case d3 => unfold maxLen; omega
      case d4 => omega
      case d5 => simp; omega
      case d6 => simp
      intro g2 cap2 w4 hown4 hgrow4 hat4 _
      obtain ⟨a1, a2, a3, a4⟩ := H5.out.addName HZ3.out hown4 hgrow4 hat4
      have b4 := H5.out.blkN hgrow4
      obtain ⟨z0, z1, z2, z3, u0, u1, u2⟩ := four_cells b4
      have A1 := hid a1
      have A2 := hid a2
      have A4 := hid a4
      have A3 := hid (HK3.out.trans (a3 rb))
      have hsz4 := (a3 rb).size
      clear a1 a2 a3 a4 b4 hown4 hgrow4 hat4 hrow y0 y1 y2 y3 v0 v1 v2 z0 z2 z3 u0 u2
      go_wp2_with fail
      obtain ⟨w5, hw5⟩ : ∃ w5, w5 = w4.setCell ⟨xb, 1, none⟩ (Value.slice (some ⟨g2, 0, none⟩) (x.names.length + 1) cap2) := ⟨_, rfl⟩
      rw [← hw5] at A1 A2 A3 A4 hsz4 ⊢
      clear hw5 z1 u1
      have h6 : RS w5 rb g cap T s2 := H4.out.to hg (fun k hk => A4.out k hk) hr
      have H6 := hid h6
      obtain ⟨x0, x1, x2, x3, f0, f1, f2⟩ := four_cells A1.out.blk
      clear h6 H4 HZ3 HK3 H5 x0 x1 x3 f0 f1
      have e := HEE.out
      cases hx : expS T n s2 with
      | none => rw [hx] at e; cases e
      | some pr =>
        obtain ⟨y, s4⟩ := pr
        rw [hx] at e
        dsimp only at e
        have HE2 := hid e
        have HX2 := hid hx
        clear e hx HEE
        obtain ⟨i1, hj, hy0, hy1, hy2⟩ := info_parts info_ptr
        go_region_law (first | (refine step_append_lies _ rfl (.tmp 61) (.tmp 64) 84 rfl xb 26 i1 (.pointer none) 1 8 Tryz.underlying84 hj hy0 hy1 hy2 rfl (by decide) ks bs.length (ptrs bs) rfl (hrow6.alloc _) ⟨w6.heap.size, 0, none⟩ 1 1 [.pointer (some ⟨c, 0, none⟩)] rfl rfl (one_new _ _ _) (one_ptr _) (by decide) (by unfold maxLen; omega) (by omega) (by simp; omega) (w6.heap.size + 1) (by simp) ?_; intro g3 cap3 w7 hown7 hgrow7 hat7 _; have b7 := (four_cells (X6.out.blkK hgrow7)).2.2.1; have f7 := (four_cells (X6.out.blkK hgrow7)).2.2.2.2.2.2; have R7 := hid (X6.out.addKid Z6.out R6.out hown7 hgrow7 hat7); clear hown7 hgrow7 hat7) | (go_simp; go_at_call 39; refine (HE.out _ rb g cap H s2 y s4 HX2.out ?_ hk4 ?_ hrn).mono ?_; exact RS.drew H6.out; exact A2.out.drew; rintro e6 w6 ⟨c, H7, m7, rfl, h7, hk7, hkept7, hz7, ext7, rep7⟩; have X6 := hid (A1.out.drew.kept hkept7 ext7 hr); have q6 := (four_cells X6.out.blk).2.2.1; have hrow6 := X6.out.krow; have hxl6 := lt_of_block X6.out.blk; have K6 := hid hkept7; have Z6 := hid hz7; have E6 := hid ext7; have R6 := hid rep7; have RS6 := hid h7; clear h7 hkept7 hz7 ext7 rep7))
        all_goals
          go_wp2
          go_end0
          have e := HE2.out
          cases e
          have hA := A3.out.size
          exact ⟨rfl, H7, _, _, _, _, RS6.out.to hg (fun k hk => R7.out.2.2.2 k hk) hr, hk7, (A3.out.drew.trans (KeptTo.of K6.out (by show xb ≤ w5.heap.size; omega))).trans (R7.out.2.2.1 rb), R7.out.2.1, ⟨E6.out.1, fun k hk => E6.out.2 k (by show k < w5.heap.size; omega)⟩, R7.out.1⟩
end Go.Proofs.YtcdijppegfcoaaaGreatDoor
