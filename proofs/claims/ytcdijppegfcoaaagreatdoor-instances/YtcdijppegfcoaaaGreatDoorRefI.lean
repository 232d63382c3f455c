/-
  OUR OWN TEXT (written by mkexp.py). typerref's reader: exp, where an if begins.
-/
import Derived.Test.YtcdijppegfcoaaaGreatDoorRefE
namespace Go.Proofs.YtcdijppegfcoaaaGreatDoor
open Go.RowKit

theorem EIn.setOp {T : List Tok} {w0 w : World} {rb g cap : Nat} {H0 H : Nat → Option Obj} {ns ks : Value} {bs : List Nat} {m : Nat} {s : St} {x : Ex} (hk : KeptTo w0.heap.size rb w0 w) (hz : Fz H w) (he : Ext w0.heap.size H0 H) (hx : XM w w0.heap.size H ns ks bs m x)
    (hr : rb < w0.heap.size) (hg : g < w0.heap.size) (h : RS w rb g cap T s) (hs : s.k < T.length) (op : List UInt8) : EIn T w0 (w.setCell ⟨w0.heap.size, 0, none⟩ (.string (B op))) rb g cap H0 s ⟨op, x.names, x.kids, x.pos⟩ :=
  ⟨H, ns, ks, bs, m, h.to hg (fun k hk => Below.heap_setCell _ _ _ _ (by show k ≠ w0.heap.size; omega)) hr, hs, hk.setCell (Nat.le_refl _) _ _, hz.set hx.hx _ _, he, hx.setOp op⟩

set_option maxRecDepth 100000 in
set_option maxHeartbeats 4000000 in
theorem exp_if (T : List Tok) (n : Nat) (hT : Wf T) (hE : EXP T n) (w : World) (rb g cap : Nat) (H : Nat → Option Obj) (s : St) (h : RS w rb g cap T s) (hk : s.k < T.length) (hz : Fz H w) (hr : H rb = none) (hn : isS T s kFun = false) (hi : isS T s kIf = true) (a b c0' : Ex) (s1 s2 s3 : St)
    (hs1 : expS T n s.up = some (a, s1)) (hs2 : expS T n (needS T s1 kThen) = some (b, s2)) (hs3 : expS T n (needS T s2 kElse) = some (c0', s3)) :
    Calls Tryz.prog 39 #[.pointer (some ⟨rb, 0, none⟩)] w fun e w' => e = .returned (.pointer (some ⟨w.heap.size, 0, none⟩)) ∧ EPost T w w' rb g cap w.heap.size H s3 ⟨kIf, [], [a, b, c0'], (tk T s.k).pos⟩ := by
  have hl := h.len
  have c0 := h.cell0
  have c1 := h.cell1
  have c2 := h.cell2
  obtain ⟨d0, d1, d2⟩ := h.cells s.k hk
  have hk1 : (s.k : Int) < (T.length : Int) := by omega
  have a0 := fun x => cell_past c0 x
  have a1 := fun x => cell_past c1 x
  have a2 := fun x => cell_past c2 x
  have b2 := fun x => cell_past d2 x
  have hlt := lt_of_block h.r
  obtain ⟨cur0, hcur0, _⟩ := h.t
  have hgl := lt_of_block hcur0
  have hb : s.bad < 0 := is_bad hi
  have hd : decide (0 ≤ s.bad) = false := by simp; omega
  have H1 := hid ((h.alloc (.cells #[.string (B []), .slice none 0 0, .slice none 0 0, .int .i64 ((tk T s.k).pos : Int)] 86)).drew)
  have K1 := hid (((KeptTo.refl w.heap.size rb w).alloc (Nat.le_refl _) (.cells #[.string (B []), .slice none 0 0, .slice none 0 0, .int .i64 ((tk T s.k).pos : Int)] 86)).drew)
  have Z1 := hid ((hz.alloc (.cells #[.string (B []), .slice none 0 0, .slice none 0 0, .int .i64 ((tk T s.k).pos : Int)] 86)).drew)
  have X1 := hid ((XM.new hz [] (tk T s.k).pos).drew)
  have HE := hid hE
  have HI := hid hi
  have HN := hid hn
  have HS1 := hid hs1
  have HS2 := hid hs2
  have HS3 := hid hs3
  clear h hz d0 d1 hcur0 hE hi hn hs1 hs2 hs3
  go_enter Tryz.func39, Tryz.ntmps39
  go_wp2_with fail
  go_region
  go_wp2_with fail
  have E1 := hid (show EIn T w _ rb g cap H s ⟨[], [], [], (tk T s.k).pos⟩ from ⟨H, _, _, _, _, H1.out, hk, K1.out, Z1.out, Ext.refl _ _, X1.out⟩)
  clear a0 a1 a2 b2 c0 c1 c2 d2 H1 K1 Z1 X1
  obtain ⟨H1, ns1, ks1, bs1, m1, r1, k1, t1, z1, ex1, x1⟩ := E1.out
  obtain ⟨xx1, hxx1⟩ : ∃ xx1 : Ex, xx1 = (⟨[], [], [], (tk T s.k).pos⟩ : Ex) := ⟨_, rfl⟩
  rw [← hxx1] at x1
  have hkl1 : bs1.length ≤ 400 := by rw [x1.len, hxx1]; simp
  have HXX1 := hid hxx1
  have hxl1 := lt_of_block x1.blk
  have hHr1 : H1 rb = none := by rw [ex1.2 rb hlt]; exact hr
  obtain ⟨pa1, pb1, pc1, pd1, fa1, fb1, fc1⟩ := four_cells x1.blk
  have R1 := hid r1
  have T1 := hid t1
  have Z1 := hid z1
  have EX1 := hid ex1
  have X1 := hid x1
  clear r1 t1 z1 ex1 x1 hxx1 E1
  refine (take_any _ rb g cap T s kFun R1.out k1).mono ?_
  rintro e2 w2 ⟨he2, h2, kp2⟩
  rw [HN.out] at he2
  subst he2
  have q2 : RS w2 rb g cap T s := by
    unfold takeS at h2
    rw [if_neg (by rw [HN.out]; decide)] at h2
    exact h2
  have E2 := hid (EIn.call T1.out Z1.out EX1.out X1.out hlt hr q2 k1 kp2)
  rw [HXX1.out] at E2
  clear h2 q2 kp2 R1 T1 Z1 EX1 X1 HXX1 pa1 pb1 pc1 pd1 fa1 fb1 fc1 hkl1 hHr1 hxl1
  obtain ⟨H2, ns2, ks2, bs2, m2, r2, k2, t2, z2, ex2, x2⟩ := E2.out
  obtain ⟨xx2, hxx2⟩ : ∃ xx2 : Ex, xx2 = (⟨[], [], [], (tk T s.k).pos⟩ : Ex) := ⟨_, rfl⟩
  rw [← hxx2] at x2
  have hkl2 : bs2.length ≤ 400 := by rw [x2.len, hxx2]; simp
  have HXX2 := hid hxx2
  have hxl2 := lt_of_block x2.blk
  have hHr2 : H2 rb = none := by rw [ex2.2 rb hlt]; exact hr
  obtain ⟨pa2, pb2, pc2, pd2, fa2, fb2, fc2⟩ := four_cells x2.blk
  have R2 := hid r2
  have T2 := hid t2
  have Z2 := hid z2
  have EX2 := hid ex2
  have X2 := hid x2
  clear r2 t2 z2 ex2 x2 hxx2 E2
  go_wp2_with fail
  refine (take_any _ rb g cap T s kIf R2.out k2).mono ?_
  rintro e3 w3 ⟨he3, h3, kp3⟩
  rw [HI.out] at he3
  subst he3
  have q3 : RS w3 rb g cap T (St.up s) := by
    unfold takeS at h3
    rw [if_pos HI.out] at h3
    exact h3
  have E3 := hid (EIn.call T2.out Z2.out EX2.out X2.out hlt hr q3 (hT.up k2 HI.out (by decide) (by decide)) kp3)
  rw [HXX2.out] at E3
  clear h3 q3 kp3 R2 T2 Z2 EX2 X2 HXX2 pa2 pb2 pc2 pd2 fa2 fb2 fc2 hkl2 hHr2 hxl2
  obtain ⟨H3, ns3, ks3, bs3, m3, r3, k3, t3, z3, ex3, x3⟩ := E3.out
  obtain ⟨xx3, hxx3⟩ : ∃ xx3 : Ex, xx3 = (⟨[], [], [], (tk T s.k).pos⟩ : Ex) := ⟨_, rfl⟩
  rw [← hxx3] at x3
  have hkl3 : bs3.length ≤ 400 := by rw [x3.len, hxx3]; simp
  have HXX3 := hid hxx3
  have hxl3 := lt_of_block x3.blk
  have hHr3 : H3 rb = none := by rw [ex3.2 rb hlt]; exact hr
  obtain ⟨pa3, pb3, pc3, pd3, fa3, fb3, fc3⟩ := four_cells x3.blk
  have R3 := hid r3
  have T3 := hid t3
  have Z3 := hid z3
  have EX3 := hid ex3
  have X3 := hid x3
  clear r3 t3 z3 ex3 x3 hxx3 E3
  go_upto_region 13 with fail
  obtain ⟨w4, hw4⟩ : ∃ w4, w4 = w3.setCell ⟨w.heap.size, 0, none⟩ (Value.string { data := #[105, 102] }) := ⟨_, rfl⟩
  rw [← hw4]
  have E4 := hid (EIn.setOp T3.out Z3.out EX3.out X3.out hlt hgl R3.out k3 kIf)
  rw [show w3.setCell ⟨w.heap.size, 0, none⟩ (.string (B kIf)) = w4 from hw4.symm, HXX3.out] at E4
  clear hw4 R3 T3 Z3 EX3 X3 HXX3 pa3 pb3 pc3 pd3 fa3 fb3 fc3 hkl3 hHr3 hxl3
  obtain ⟨H4, ns4, ks4, bs4, m4, r4, k4, t4, z4, ex4, x4⟩ := E4.out
  obtain ⟨xx4, hxx4⟩ : ∃ xx4 : Ex, xx4 = (⟨kIf, [], [], (tk T s.k).pos⟩ : Ex) := ⟨_, rfl⟩
  rw [← hxx4] at x4
  have hkl4 : bs4.length ≤ 400 := by rw [x4.len, hxx4]; simp
  have HXX4 := hid hxx4
  have hxl4 := lt_of_block x4.blk
  have hHr4 : H4 rb = none := by rw [ex4.2 rb hlt]; exact hr
  obtain ⟨pa4, pb4, pc4, pd4, fa4, fb4, fc4⟩ := four_cells x4.blk
  have R4 := hid r4
  have T4 := hid t4
  have Z4 := hid z4
  have EX4 := hid ex4
  have X4 := hid x4
  clear r4 t4 z4 ex4 x4 hxx4 E4
  go_cut [3] from 81 to 91 (fun v wx => v = .pointer (some ⟨w.heap.size, 0, none⟩) ∧ EIn T w wx rb g cap H s1 (⟨kIf, [], [a], (tk T s.k).pos⟩ : Ex))
  case first =>
    obtain ⟨i4, hj4, hy04, hy14, hy24⟩ := info_parts info_ptr
    go_region_law (first | (refine step_append_lies _ rfl (.tmp 85) (.tmp 88) 84 rfl w.heap.size 26 i4 (.pointer none) 1 8 Tryz.underlying84 hj4 hy04 hy14 hy24 rfl (by decide) ks4 bs4.length (ptrs bs4) rfl (hrow6.alloc _) ⟨w6.heap.size, 0, none⟩ 1 1 [.pointer (some ⟨c, 0, none⟩)] rfl rfl (one_new _ _ _) (one_ptr _) (by decide) (by unfold maxLen; omega) (by omega) (by simp; omega) (w6.heap.size + 1) (by simp) ?_; intro g3 cap3 w7 hown7 hgrow7 hat7 _; have b7 := (four_cells (X6.out.blkK hgrow7)).2.2.1; have f7 := (four_cells (X6.out.blkK hgrow7)).2.2.2.2.2.2; have R7 := hid (X6.out.addKid Z6.out R6.out hown7 hgrow7 hat7); clear hown7 hgrow7 hat7) | (go_simp; go_at_call 39; refine (HE.out _ rb g cap H4 s.up a s1 HS1.out ?_ k4 ?_ hHr4).mono ?_; exact RS.drew R4.out; exact Z4.out.drew; rintro e6 w6 ⟨c, H7, m7, rfl, h7, hk7, hkept7, hz7, ext7, rep7⟩; have X6 := hid (X4.out.drew.kept hkept7 ext7 hlt); have q6 := (four_cells X6.out.blk).2.2.1; have hrow6 := X6.out.krow; have hxl6 := lt_of_block X6.out.blk; have K6 := hid hkept7; have Z6 := hid hz7; have E6 := hid ext7; have R6 := hid rep7; have RS6 := hid h7; clear h7 hkept7 hz7 ext7 rep7))
    all_goals
      go_wp2_with fail
      go_meet
      case rel =>
        have ee : (⟨xx4.op, xx4.names, xx4.kids ++ [a], xx4.pos⟩ : Ex) = (⟨kIf, [], [a], (tk T s.k).pos⟩ : Ex) := by rw [HXX4.out]; rfl
        exact ⟨rfl, ⟨H7, ns4, .slice (some ⟨g3, 0, none⟩) (bs4.length + 1) cap3, bs4 ++ [c], max m4 m7, RS6.out.to hgl (fun k hk => R7.out.2.2.2 k hk) hlt, hk7, (T4.out.drew.trans (KeptTo.of K6.out (by show w.heap.size ≤ w4.heap.size; omega))).trans (R7.out.2.2.1 rb), R7.out.2.1, EX4.out.trans E6.out (by show w.heap.size ≤ w4.heap.size; omega), by rw [← ee]; exact R7.out.1⟩⟩
  case rest =>
    obtain ⟨rfl, e5⟩ := hcut
    rename World => w5
    obtain ⟨H5, ns5, ks5, bs5, m5, r5, k5, t5, z5, ex5, x5⟩ := e5
    obtain ⟨xx5, hxx5⟩ : ∃ xx5 : Ex, xx5 = (⟨kIf, [], [a], (tk T s.k).pos⟩ : Ex) := ⟨_, rfl⟩
    rw [← hxx5] at x5
    have hkl5 : bs5.length ≤ 400 := by rw [x5.len, hxx5]; simp
    have HXX5 := hid hxx5
    have hxl5 := lt_of_block x5.blk
    have hHr5 : H5 rb = none := by rw [ex5.2 rb hlt]; exact hr
    obtain ⟨pa5, pb5, pc5, pd5, fa5, fb5, fc5⟩ := four_cells x5.blk
    have R5 := hid r5
    have T5 := hid t5
    have Z5 := hid z5
    have EX5 := hid ex5
    have X5 := hid x5
    clear r5 t5 z5 ex5 x5 hxx5 R4 T4 Z4 EX4 X4 HXX4 pa4 pb4 pc4 pd4 fa4 fb4 fc4 hkl4 hHr4 
    go_wp2_with fail
    refine (need_any _ rb g cap T s1 kThen R5.out k5).mono ?_
    rintro e6 w9 ⟨rfl, h6, kp6⟩
    have E6 := hid (EIn.call T5.out Z5.out EX5.out X5.out hlt hr h6 (hT.need k5 (by decide) (by decide)) kp6)
    rw [HXX5.out] at E6
    clear h6 kp6 R5 T5 Z5 EX5 X5 HXX5 pa5 pb5 pc5 pd5 fa5 fb5 fc5 hkl5 hHr5 hxl5
    obtain ⟨H6, ns6, ks6, bs6, m6, r6, k6, t6, z6, ex6, x6⟩ := E6.out
    obtain ⟨xx6, hxx6⟩ : ∃ xx6 : Ex, xx6 = (⟨kIf, [], [a], (tk T s.k).pos⟩ : Ex) := ⟨_, rfl⟩
    rw [← hxx6] at x6
    have hkl6 : bs6.length ≤ 400 := by rw [x6.len, hxx6]; simp
    have HXX6 := hid hxx6
    have hxl6 := lt_of_block x6.blk
    have hHr6 : H6 rb = none := by rw [ex6.2 rb hlt]; exact hr
    obtain ⟨pa6, pb6, pc6, pd6, fa6, fb6, fc6⟩ := four_cells x6.blk
    have R6 := hid r6
    have T6 := hid t6
    have Z6 := hid z6
    have EX6 := hid ex6
    have X6 := hid x6
    clear r6 t6 z6 ex6 x6 hxx6 E6
    go_upto_region 15 with fail
    go_cut [3] from 94 to 104 (fun v wx => v = .pointer (some ⟨w.heap.size, 0, none⟩) ∧ EIn T w wx rb g cap H s2 (⟨kIf, [], [a, b], (tk T s.k).pos⟩ : Ex))
    case first =>
      obtain ⟨i6, hj6, hy06, hy16, hy26⟩ := info_parts info_ptr
      go_region_law (first | (refine step_append_lies _ rfl (.tmp 98) (.tmp 101) 84 rfl w.heap.size 26 i6 (.pointer none) 1 8 Tryz.underlying84 hj6 hy06 hy16 hy26 rfl (by decide) ks6 bs6.length (ptrs bs6) rfl (hrow6.alloc _) ⟨w6.heap.size, 0, none⟩ 1 1 [.pointer (some ⟨c, 0, none⟩)] rfl rfl (one_new _ _ _) (one_ptr _) (by decide) (by unfold maxLen; omega) (by omega) (by simp; omega) (w6.heap.size + 1) (by simp) ?_; intro g3 cap3 w7 hown7 hgrow7 hat7 _; have b7 := (four_cells (X6.out.blkK hgrow7)).2.2.1; have f7 := (four_cells (X6.out.blkK hgrow7)).2.2.2.2.2.2; have R7 := hid (X6.out.addKid Z6.out R6.out hown7 hgrow7 hat7); clear hown7 hgrow7 hat7) | (go_simp; go_at_call 39; refine (HE.out _ rb g cap H6 (needS T s1 kThen) b s2 HS2.out ?_ k6 ?_ hHr6).mono ?_; exact RS.drew R6.out; exact Z6.out.drew; rintro e6 w6 ⟨c, H7, m7, rfl, h7, hk7, hkept7, hz7, ext7, rep7⟩; have X6 := hid (X6.out.drew.kept hkept7 ext7 hlt); have q6 := (four_cells X6.out.blk).2.2.1; have hrow6 := X6.out.krow; have hxl6 := lt_of_block X6.out.blk; have K6 := hid hkept7; have Z6 := hid hz7; have E6 := hid ext7; have R6 := hid rep7; have RS6 := hid h7; clear h7 hkept7 hz7 ext7 rep7))
      all_goals
        go_wp2_with fail
        go_meet
        case rel =>
          have ee : (⟨xx6.op, xx6.names, xx6.kids ++ [b], xx6.pos⟩ : Ex) = (⟨kIf, [], [a, b], (tk T s.k).pos⟩ : Ex) := by rw [HXX6.out]; rfl
          exact ⟨rfl, ⟨H7, ns6, .slice (some ⟨g3, 0, none⟩) (bs6.length + 1) cap3, bs6 ++ [c], max m6 m7, RS6.out.to hgl (fun k hk => R7.out.2.2.2 k hk) hlt, hk7, (T6.out.drew.trans (KeptTo.of K6.out (by show w.heap.size ≤ w9.heap.size; omega))).trans (R7.out.2.2.1 rb), R7.out.2.1, EX6.out.trans E6.out (by show w.heap.size ≤ w9.heap.size; omega), by rw [← ee]; exact R7.out.1⟩⟩
    case rest =>
      obtain ⟨rfl, e7⟩ := hcut
      rename World => w10
      obtain ⟨H7, ns7, ks7, bs7, m7, r7, k7, t7, z7, ex7, x7⟩ := e7
      obtain ⟨xx7, hxx7⟩ : ∃ xx7 : Ex, xx7 = (⟨kIf, [], [a, b], (tk T s.k).pos⟩ : Ex) := ⟨_, rfl⟩
      rw [← hxx7] at x7
      have hkl7 : bs7.length ≤ 400 := by rw [x7.len, hxx7]; simp
      have HXX7 := hid hxx7
      have hxl7 := lt_of_block x7.blk
      have hHr7 : H7 rb = none := by rw [ex7.2 rb hlt]; exact hr
      obtain ⟨pa7, pb7, pc7, pd7, fa7, fb7, fc7⟩ := four_cells x7.blk
      have R7 := hid r7
      have T7 := hid t7
      have Z7 := hid z7
      have EX7 := hid ex7
      have X7 := hid x7
      clear r7 t7 z7 ex7 x7 hxx7 R6 T6 Z6 EX6 X6 HXX6 pa6 pb6 pc6 pd6 fa6 fb6 fc6 hkl6 hHr6 
      go_wp2_with fail
      refine (need_any _ rb g cap T s2 kElse R7.out k7).mono ?_
      rintro e8 w11 ⟨rfl, h8, kp8⟩
      have E8 := hid (EIn.call T7.out Z7.out EX7.out X7.out hlt hr h8 (hT.need k7 (by decide) (by decide)) kp8)
      rw [HXX7.out] at E8
      clear h8 kp8 R7 T7 Z7 EX7 X7 HXX7 pa7 pb7 pc7 pd7 fa7 fb7 fc7 hkl7 hHr7 hxl7
      obtain ⟨H8, ns8, ks8, bs8, m8, r8, k8, t8, z8, ex8, x8⟩ := E8.out
      obtain ⟨xx8, hxx8⟩ : ∃ xx8 : Ex, xx8 = (⟨kIf, [], [a, b], (tk T s.k).pos⟩ : Ex) := ⟨_, rfl⟩
      rw [← hxx8] at x8
      have hkl8 : bs8.length ≤ 400 := by rw [x8.len, hxx8]; simp
      have HXX8 := hid hxx8
      have hxl8 := lt_of_block x8.blk
      have hHr8 : H8 rb = none := by rw [ex8.2 rb hlt]; exact hr
      obtain ⟨pa8, pb8, pc8, pd8, fa8, fb8, fc8⟩ := four_cells x8.blk
      have R8 := hid r8
      have T8 := hid t8
      have Z8 := hid z8
      have EX8 := hid ex8
      have X8 := hid x8
      clear r8 t8 z8 ex8 x8 hxx8 E8
      go_upto_region 17 with fail
      obtain ⟨i8, hj8, hy08, hy18, hy28⟩ := info_parts info_ptr
      go_region_law (first | (refine step_append_lies _ rfl (.tmp 111) (.tmp 114) 84 rfl w.heap.size 26 i8 (.pointer none) 1 8 Tryz.underlying84 hj8 hy08 hy18 hy28 rfl (by decide) ks8 bs8.length (ptrs bs8) rfl (hrow6.alloc _) ⟨w6.heap.size, 0, none⟩ 1 1 [.pointer (some ⟨c, 0, none⟩)] rfl rfl (one_new _ _ _) (one_ptr _) (by decide) (by unfold maxLen; omega) (by omega) (by simp; omega) (w6.heap.size + 1) (by simp) ?_; intro g3 cap3 w7 hown7 hgrow7 hat7 _; have b7 := (four_cells (X6.out.blkK hgrow7)).2.2.1; have f7 := (four_cells (X6.out.blkK hgrow7)).2.2.2.2.2.2; have R7 := hid (X6.out.addKid Z6.out R6.out hown7 hgrow7 hat7); clear hown7 hgrow7 hat7) | (go_simp; go_at_call 39; refine (HE.out _ rb g cap H8 (needS T s2 kElse) c0' s3 HS3.out ?_ k8 ?_ hHr8).mono ?_; exact RS.drew R8.out; exact Z8.out.drew; rintro e6 w6 ⟨c, H7, m7, rfl, h7, hk7, hkept7, hz7, ext7, rep7⟩; have X6 := hid (X8.out.drew.kept hkept7 ext7 hlt); have q6 := (four_cells X6.out.blk).2.2.1; have hrow6 := X6.out.krow; have hxl6 := lt_of_block X6.out.blk; have K6 := hid hkept7; have Z6 := hid hz7; have E6 := hid ext7; have R6 := hid rep7; have RS6 := hid h7; clear h7 hkept7 hz7 ext7 rep7))
      all_goals
        go_wp2
        go_ret
        have ee : (⟨xx8.op, xx8.names, xx8.kids ++ [c0'], xx8.pos⟩ : Ex) = (⟨kIf, [], [a, b, c0'], (tk T s.k).pos⟩ : Ex) := by rw [HXX8.out]; rfl
        exact ⟨rfl, EIn.post ⟨H7, ns8, .slice (some ⟨g3, 0, none⟩) (bs8.length + 1) cap3, bs8 ++ [c], max m8 m7, RS6.out.to hgl (fun k hk => R7.out.2.2.2 k hk) hlt, hk7, (T8.out.drew.trans (KeptTo.of K6.out (by show w.heap.size ≤ w11.heap.size; omega))).trans (R7.out.2.2.1 rb), R7.out.2.1, EX8.out.trans E6.out (by show w.heap.size ≤ w11.heap.size; omega), by rw [← ee]; exact R7.out.1⟩⟩
end Go.Proofs.YtcdijppegfcoaaaGreatDoor
