/-
  OUR OWN TEXT. typerref's reader: exp, where the place is wrong already, and where a function begins.
-/
import Derived.Test.YtcdijppegfcoaaaGreatDoorRefB
namespace Go.Proofs.YtcdijppegfcoaaaGreatDoor
open Go.RowKit

/-- What exp leaves. -/
def EPost (T : List Tok) (w w' : World) (rb g cap b : Nat) (H : Nat → Option Obj) (s' : St) (ex : Ex) : Prop :=
  ∃ H' m, RS w' rb g cap T s' ∧ s'.k < T.length ∧ Kept rb w w' ∧ Fz H' w' ∧ Ext w.heap.size H H' ∧ XRep m H' b ex
/-- Inside exp: the expression that is being made lies at the block that was the first new one. -/
def EIn (T : List Tok) (w0 w : World) (rb g cap : Nat) (H0 : Nat → Option Obj) (s : St) (x : Ex) : Prop :=
  ∃ H ns ks bs m, RS w rb g cap T s ∧ s.k < T.length ∧ KeptTo w0.heap.size rb w0 w ∧ Fz H w ∧ Ext w0.heap.size H0 H ∧ XM w w0.heap.size H ns ks bs m x
theorem EIn.post {T : List Tok} {w0 w : World} {rb g cap : Nat} {H0 : Nat → Option Obj} {s : St} {x : Ex} (h : EIn T w0 w rb g cap H0 s x) : EPost T w0 w rb g cap w0.heap.size H0 s x := by
  obtain ⟨H, ns, ks, bs, m, h1, h2, h3, h4, h5, h6⟩ := h
  obtain ⟨H', z1, z2, z3⟩ := h6.freeze h4
  exact ⟨H', m + 1, h1, h2, h3.toKept, z1, h5.trans z2 (Nat.le_refl _), z3⟩

set_option maxRecDepth 100000 in
set_option maxHeartbeats 1000000 in
theorem exp_bad (T : List Tok) (w : World) (rb g cap : Nat) (H : Nat → Option Obj) (s : St) (h : RS w rb g cap T s) (hk : s.k < T.length) (hz : Fz H w) (hb : 0 ≤ s.bad) :
    Calls Tryz.prog 39 #[.pointer (some ⟨rb, 0, none⟩)] w fun e w' => e = .returned (.pointer (some ⟨w.heap.size, 0, none⟩)) ∧ EPost T w w' rb g cap w.heap.size H s ⟨[], [], [], (tk T s.k).pos⟩ := by
  have hl := h.len
  have c0 := h.cell0
  have c1 := h.cell1
  have c2 := h.cell2
  obtain ⟨d0, d1, d2⟩ := h.cells s.k hk
  have hk1 : (s.k : Int) < (T.length : Int) := by omega
  have a0 := fun x => cell_past c0 x
  have a1 := fun x => cell_past c1 x
  have a2 := fun x => cell_past c2 x
  have b2 := fun x => cell_past d2 x
  have hlt := lt_of_block h.r
  have hd : decide (0 ≤ s.bad) = true := by simp [hb]
  have HP := hid (EIn.post (x := ⟨[], [], [], (tk T s.k).pos⟩) ⟨H, _, _, _, _, (h.alloc _).drew, hk, ((KeptTo.refl w.heap.size rb w).alloc (Nat.le_refl _) _).drew, (hz.alloc _).drew, Ext.refl _ _, (XM.new hz [] (tk T s.k).pos).drew⟩)
  clear h hz d0 d1
  go_enter Tryz.func39, Tryz.ntmps39
  go_wp2_with fail
  go_region
  go_wp2
  go_ret
  exact ⟨rfl, HP.out⟩

theorem is_bad {T : List Tok} {s : St} {x : List UInt8} (h : isS T s x = true) : s.bad < 0 := by
  simp only [isS, Bool.and_eq_true, decide_eq_true_eq] at h
  exact h.1
/-- A step of the reader inside exp. -/
theorem EIn.call {T : List Tok} {w0 w w' : World} {rb g cap : Nat} {H0 H : Nat → Option Obj} {ns ks : Value} {bs : List Nat} {m : Nat} {s' : St} {x : Ex} (hk : KeptTo w0.heap.size rb w0 w) (hz : Fz H w) (he : Ext w0.heap.size H0 H) (hx : XM w w0.heap.size H ns ks bs m x)
    (hr : rb < w0.heap.size) (hn : H0 rb = none) (h' : RS w' rb g cap T s') (hk' : s'.k < T.length) (kp : Kept rb w w') : EIn T w0 w' rb g cap H0 s' x := by
  have hl := lt_of_block hx.blk
  have hHr : H rb = none := by rw [he.2 rb hr]; exact hn
  exact ⟨H, ns, ks, bs, m, h', hk', hk.trans (KeptTo.of kp (by omega)), hz.kept kp hHr, he, hx.kept kp (Ext.refl _ _) hr⟩

set_option maxRecDepth 100000 in
set_option maxHeartbeats 2000000 in
theorem exp_fun (T : List Tok) (n : Nat) (hT : Wf T) (hE : EXP T n) (w : World) (rb g cap : Nat) (H : Nat → Option Obj) (s : St) (h : RS w rb g cap T s) (hk : s.k < T.length) (hz : Fz H w) (hr : H rb = none) (hi : isS T s kFun = true) (y : Ex) (s4 : St)
    (hs : expS T n (needS T (needS T s.up kName) kArrow) = some (y, s4)) :
    Calls Tryz.prog 39 #[.pointer (some ⟨rb, 0, none⟩)] w fun e w' => e = .returned (.pointer (some ⟨w.heap.size, 0, none⟩)) ∧ EPost T w w' rb g cap w.heap.size H s4 ⟨kFun, [(tk T s.up.k).s], [y], (tk T s.k).pos⟩ := by
  have hl := h.len
  have c0 := h.cell0
  have c1 := h.cell1
  have c2 := h.cell2
  obtain ⟨d0, d1, d2⟩ := h.cells s.k hk
  have hk1 : (s.k : Int) < (T.length : Int) := by omega
  have a0 := fun x => cell_past c0 x
  have a1 := fun x => cell_past c1 x
  have a2 := fun x => cell_past c2 x
  have b2 := fun x => cell_past d2 x
  have hlt := lt_of_block h.r
  obtain ⟨cur0, hcur0, _⟩ := h.t
  have hgl := lt_of_block hcur0
  have hb : s.bad < 0 := is_bad hi
  have hd : decide (0 ≤ s.bad) = false := by simp; omega
  have H1 := hid ((h.alloc (.cells #[.string (B []), .slice none 0 0, .slice none 0 0, .int .i64 ((tk T s.k).pos : Int)] 86)).drew)
  have K1 := hid (((KeptTo.refl w.heap.size rb w).alloc (Nat.le_refl _) (.cells #[.string (B []), .slice none 0 0, .slice none 0 0, .int .i64 ((tk T s.k).pos : Int)] 86)).drew)
  have Z1 := hid ((hz.alloc (.cells #[.string (B []), .slice none 0 0, .slice none 0 0, .int .i64 ((tk T s.k).pos : Int)] 86)).drew)
  have X1 := hid ((XM.new hz [] (tk T s.k).pos).drew)
  have HE := hid hE
  have HI := hid hi
  clear h hz d0 d1 hcur0 hE
  go_enter Tryz.func39, Tryz.ntmps39
  go_wp2_with fail
  go_region
  go_wp2_with fail
  refine (take_any _ rb g cap T s kFun H1.out hk).mono ?_
  rintro e w2 ⟨he, h2, kp2⟩
  rw [hi] at he
  subst he
  have hk2 : s.k + 1 < T.length := hT.up hk hi (by decide) (by decide)
  have h3 : RS w2 rb g cap T s.up := by
    unfold takeS at h2
    rw [if_pos hi] at h2
    exact h2
  have E2 := hid (EIn.call K1.out Z1.out (Ext.refl _ _) X1.out hlt hr h3 hk2 kp2)
  clear a0 a1 a2 b2 c0 c1 c2 d2 H1 K1 Z1 X1 h2 h3 kp2 hi
  obtain ⟨H2, ns2, ks2, bs2, m2, r2, k2, t2, z2, e2, x2⟩ := E2.out
  obtain ⟨y0, y1, y2, y3, v0, v1, v2⟩ := four_cells x2.blk
  have R2 := hid r2
  have T2 := hid t2
  have Z2 := hid z2
  have EX2 := hid e2
  have X2 := hid x2
  clear r2 t2 z2 e2 x2 E2
  go_upto_region 8 with fail
  obtain ⟨w3, hw3⟩ : ∃ w3, w3 = w2.setCell ⟨w.heap.size, 0, none⟩ (Value.string { data := #[102, 117, 110] }) := ⟨_, rfl⟩
  have x3 : XM w3 w.heap.size H2 ns2 ks2 bs2 m2 ⟨kFun, [], [], (tk T s.k).pos⟩ := by rw [hw3]; exact X2.out.setOp kFun
  have same3 : ∀ k, k < w.heap.size → w3.heap[k]? = w2.heap[k]? := fun k hk => by rw [hw3]; exact Below.heap_setCell _ _ _ _ (by show k ≠ w.heap.size; omega)
  have R3 := hid (R2.out.to hgl same3 hlt)
  have T3 := hid (show KeptTo w.heap.size rb w w3 by rw [hw3]; exact T2.out.setCell (Nat.le_refl _) _ _)
  have Z3 := hid (show Fz H2 w3 by rw [hw3]; exact Z2.out.set X2.out.hx _ _)
  rw [← hw3]
  obtain ⟨xx, hxx⟩ : ∃ xx : Ex, xx = ⟨kFun, [], [], (tk T s.k).pos⟩ := ⟨_, rfl⟩
  rw [← hxx] at x3
  have hnl : xx.names.length ≤ 400 := by rw [hxx]; simp
  have hkl : bs2.length ≤ 400 := by rw [x3.len, hxx]; simp
  have HXX := hid hxx
  have hxl3 := lt_of_block x3.blk
  have X3 := hid x3
  obtain ⟨p0, p1, p2, p3, o0, o1, o2⟩ := four_cells x3.blk
  have hHr : H2 rb = none := by rw [EX2.out.2 rb hlt]; exact hr
  clear hw3 x3 same3 R2 T2 Z2 X2 y0 y1 y2 y3 v0 v1 v2 hxx p0 p2 p3 o0 o2
  go_cut [3] from 51 to 61 (fun v wx => v = .pointer (some ⟨w.heap.size, 0, none⟩) ∧ EIn T w wx rb g cap H (needS T s.up kName) ⟨kFun, [(tk T s.up.k).s], [], (tk T s.k).pos⟩)
  case first =>
    obtain ⟨i0, hj, hz0, hz1, hz2⟩ := info_parts info_str
    go_region_law (first | (refine step_append_lies _ rfl (.tmp 55) (.tmp 58) 34 rfl w.heap.size 9 i0 (.string (B [])) 1 16 Tryz.underlying34 hj hz0 hz1 hz2 rfl (by decide) ns2 xx.names.length (strs xx.names) rfl (hrow6.alloc _) ⟨w6.heap.size, 0, none⟩ 1 1 [.string (B (tk T s.up.k).s)] rfl rfl (one_new _ _ _) (one_str _) (by decide) (by unfold maxLen; omega) (by omega) (by simp; omega) (w6.heap.size + 1) (by simp) ?_; intro g3 cap3 w7 hown7 hgrow7 hat7 _; have b7 := (four_cells (X6.out.blkN hgrow7)).2.1; have f7 := (four_cells (X6.out.blkN hgrow7)).2.2.2.2.2.1; have R7 := hid (X6.out.addName Z6.out hown7 hgrow7 hat7); clear hown7 hgrow7 hat7) | (go_simp; go_at_call 40; refine (need_any _ rb g cap T s.up kName ?_ hk2).mono ?_; exact RS.drew R3.out; rintro e6 w6 ⟨rfl, h7, kp7⟩; have X6 := hid (X3.out.drew.kept kp7 (Ext.refl _ _) hlt); have q6 := (four_cells X6.out.blk).2.1; have hrow6 := X6.out.nrow; have hxl6 := lt_of_block X6.out.blk; have K6 := hid kp7; have Z6 := hid (Z3.out.drew.kept kp7 hHr); have RS6 := hid h7; clear h7 kp7))
    all_goals
      go_wp2_with fail
      go_meet
      case rel =>
        have ee : (⟨xx.op, xx.names ++ [(tk T s.up.k).s], xx.kids, xx.pos⟩ : Ex) = ⟨kFun, [(tk T s.up.k).s], [], (tk T s.k).pos⟩ := by rw [HXX.out]; rfl
        exact ⟨rfl, H2, .slice (some ⟨g3, 0, none⟩) (xx.names.length + 1) cap3, ks2, bs2, m2, RS6.out.to hgl (fun k hk => R7.out.2.2.2 k hk) hlt, hT.need hk2 (by decide) (by decide), (T3.out.drew.trans (KeptTo.of K6.out (by show w.heap.size ≤ w3.heap.size; omega))).trans (R7.out.2.2.1 rb), R7.out.2.1, EX2.out, by rw [← ee]; exact R7.out.1⟩
  case rest =>
    obtain ⟨rfl, e4⟩ := hcut
    rename World => w4
    obtain ⟨H4, ns4, ks4, bs4, m4, r4, k4, t4, z4, ex4, x4⟩ := e4
    have hHr4 : H4 rb = none := by rw [ex4.2 rb hlt]; exact hr
    have R4 := hid r4
    have E4 := hid (And.intro t4 (And.intro z4 (And.intro ex4 x4)))
    clear r4 t4 z4 ex4 x4 X3 R3 T3 Z3 EX2 HXX p1 o1 hnl hkl hHr hxl3
    go_wp2_with fail
    refine (need_any _ rb g cap T (needS T s.up kName) kArrow R4.out k4).mono ?_
    rintro e w5 ⟨rfl, h5, kp5⟩
    have k5 : (needS T (needS T s.up kName) kArrow).k < T.length := hT.need k4 (by decide) (by decide)
    obtain ⟨H5, ns5, ks5, bs5, m5, r5, _, t5, z5, ex5, x5⟩ := EIn.call E4.out.1 E4.out.2.1 E4.out.2.2.1 E4.out.2.2.2 hlt hr h5 k5 kp5
    obtain ⟨s5, hs5⟩ : ∃ s5, s5 = needS T (needS T s.up kName) kArrow := ⟨_, rfl⟩
    rw [← hs5] at r5 k5 hs
    obtain ⟨xx, hxx⟩ : ∃ xx : Ex, xx = ⟨kFun, [(tk T s.up.k).s], [], (tk T s.k).pos⟩ := ⟨_, rfl⟩
    rw [← hxx] at x5
    have hkl : bs5.length ≤ 400 := by rw [x5.len, hxx]; simp
    have HXX := hid hxx
    have hxl5 := lt_of_block x5.blk
    have hHr : H5 rb = none := by rw [ex5.2 rb hlt]; exact hr
    obtain ⟨p0, p1, p2, p3, o0, o1, o2⟩ := four_cells x5.blk
    have R5 := hid r5
    have T5 := hid t5
    have Z5 := hid z5
    have EX5 := hid ex5
    have X5 := hid x5
    have HS := hid hs
    clear r5 t5 z5 ex5 x5 hs hs5 hxx kp5 h5 R4 E4 p0 p1 p3 o0 o1 hHr4
    go_wp2_with fail
    obtain ⟨i1, hj, hy0, hy1, hy2⟩ := info_parts info_ptr
    go_region_law (first | (refine step_append_lies _ rfl (.tmp 68) (.tmp 71) 84 rfl w.heap.size 26 i1 (.pointer none) 1 8 Tryz.underlying84 hj hy0 hy1 hy2 rfl (by decide) ks5 bs5.length (ptrs bs5) rfl (hrow6.alloc _) ⟨w6.heap.size, 0, none⟩ 1 1 [.pointer (some ⟨c, 0, none⟩)] rfl rfl (one_new _ _ _) (one_ptr _) (by decide) (by unfold maxLen; omega) (by omega) (by simp; omega) (w6.heap.size + 1) (by simp) ?_; intro g3 cap3 w7 hown7 hgrow7 hat7 _; have b7 := (four_cells (X6.out.blkK hgrow7)).2.2.1; have f7 := (four_cells (X6.out.blkK hgrow7)).2.2.2.2.2.2; have R7 := hid (X6.out.addKid Z6.out R6.out hown7 hgrow7 hat7); clear hown7 hgrow7 hat7) | (go_simp; go_at_call 39; refine (HE.out _ rb g cap H5 s5 y s4 HS.out ?_ k5 ?_ hHr).mono ?_; exact RS.drew R5.out; exact Z5.out.drew; rintro e6 w6 ⟨c, H7, m7, rfl, h7, hk7, hkept7, hz7, ext7, rep7⟩; have X6 := hid (X5.out.drew.kept hkept7 ext7 hlt); have q6 := (four_cells X6.out.blk).2.2.1; have hrow6 := X6.out.krow; have hxl6 := lt_of_block X6.out.blk; have K6 := hid hkept7; have Z6 := hid hz7; have E6 := hid ext7; have R6 := hid rep7; have RS6 := hid h7; clear h7 hkept7 hz7 ext7 rep7))
    all_goals
      go_wp2
      go_ret
      have ee : (⟨xx.op, xx.names, xx.kids ++ [y], xx.pos⟩ : Ex) = ⟨kFun, [(tk T s.up.k).s], [y], (tk T s.k).pos⟩ := by rw [HXX.out]; rfl
      exact ⟨rfl, EIn.post ⟨H7, ns5, .slice (some ⟨g3, 0, none⟩) (bs5.length + 1) cap3, bs5 ++ [c], max m5 m7, RS6.out.to hgl (fun k hk => R7.out.2.2.2 k hk) hlt, hk7, (T5.out.drew.trans (KeptTo.of K6.out (by show w.heap.size ≤ w5.heap.size; omega))).trans (R7.out.2.2.1 rb), R7.out.2.1, EX5.out.trans E6.out (by show w.heap.size ≤ w5.heap.size; omega), by rw [← ee]; exact R7.out.1⟩⟩
end Go.Proofs.YtcdijppegfcoaaaGreatDoor
