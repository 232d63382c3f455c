/-
  OUR OWN TEXT (written by mkexp.py). typerref's reader: exp, where a let rec begins.
-/
import Derived.Test.YtcdijppegfcoaaaGreatDoorRefL
namespace Go.Proofs.YtcdijppegfcoaaaGreatDoor
open Go.RowKit

theorem bound_parts {E : St → Option (Ex × St)} {T : List Tok} {x y : Ex} {s s' : St} (h : boundS E T x s = some (y, s')) : y.op = x.op ∧ y.names.length = x.names.length + 1 ∧ y.kids.length = x.kids.length + 1 ∧ y.pos = x.pos := by
  unfold boundS at h
  split at h
  · cases h
  · cases h
    simp
set_option maxRecDepth 100000 in
set_option maxHeartbeats 4000000 in
theorem exp_rec (T : List Tok) (n : Nat) (hT : Wf T) (hE : EXP T n) (w : World) (rb g cap : Nat) (H : Nat → Option Obj) (s : St) (h : RS w rb g cap T s) (hk : s.k < T.length) (hz : Fz H w) (hr : H rb = none) (hn : isS T s kFun = false) (hn2 : isS T s kIf = false) (hi : isS T s kLet = true) (hi3 : isS T s.up kRec = true)
    (x y b : Ex) (s1 s2 s3 : St) (hs1 : boundS (expS T n) T (⟨kRec, [], [], (tk T s.k).pos⟩ : Ex) s.up.up = some (x, s1)) (hs2 : bindsS (expS T n) T (T.length + 1) x s1 = some (y, s2)) (hs3 : expS T n (needS T s2 kIn) = some (b, s3)) :
    Calls Tryz.prog 39 #[.pointer (some ⟨rb, 0, none⟩)] w fun e w' => e = .returned (.pointer (some ⟨w.heap.size, 0, none⟩)) ∧ EPost T w w' rb g cap w.heap.size H s3 ⟨y.op, y.names, y.kids ++ [b], y.pos⟩ := by
  have hp1 := bound_parts hs1
  have hl := h.len
  have c0 := h.cell0
  have c1 := h.cell1
  have c2 := h.cell2
  obtain ⟨d0, d1, d2⟩ := h.cells s.k hk
  have hk1 : (s.k : Int) < (T.length : Int) := by omega
  have a0 := fun x => cell_past c0 x
  have a1 := fun x => cell_past c1 x
  have a2 := fun x => cell_past c2 x
  have b2 := fun x => cell_past d2 x
  have hlt := lt_of_block h.r
  obtain ⟨cur0, hcur0, _⟩ := h.t
  have hgl := lt_of_block hcur0
  have hb : s.bad < 0 := is_bad hi
  have hd : decide (0 ≤ s.bad) = false := by simp; omega
  have H1 := hid ((h.alloc (.cells #[.string (B []), .slice none 0 0, .slice none 0 0, .int .i64 ((tk T s.k).pos : Int)] 86)).drew)
  have K1 := hid (((KeptTo.refl w.heap.size rb w).alloc (Nat.le_refl _) (.cells #[.string (B []), .slice none 0 0, .slice none 0 0, .int .i64 ((tk T s.k).pos : Int)] 86)).drew)
  have Z1 := hid ((hz.alloc (.cells #[.string (B []), .slice none 0 0, .slice none 0 0, .int .i64 ((tk T s.k).pos : Int)] 86)).drew)
  have X1 := hid ((XM.new hz [] (tk T s.k).pos).drew)
  have HE := hid hE
  have HI := hid hi
  have HN := hid hn
  have HN2 := hid hn2
  have HI3 := hid hi3
  have HS1 := hid hs1
  have HS2 := hid hs2
  have HS3 := hid hs3
  clear h hz d0 d1 hcur0 hE hi hn hn2 hi3 hs1 hs2 hs3
  go_enter Tryz.func39, Tryz.ntmps39
  go_wp2_with fail
  go_region
  go_wp2_with fail
  have E1 := hid (show EIn T w _ rb g cap H s ⟨[], [], [], (tk T s.k).pos⟩ from ⟨H, _, _, _, _, H1.out, hk, K1.out, Z1.out, Ext.refl _ _, X1.out⟩)
  clear a0 a1 a2 b2 c0 c1 c2 d2 H1 K1 Z1 X1
  obtain ⟨H1, ns1, ks1, bs1, m1, r1, k1, t1, z1, ex1, x1⟩ := E1.out
  obtain ⟨xx1, hxx1⟩ : ∃ xx1 : Ex, xx1 = (⟨[], [], [], (tk T s.k).pos⟩ : Ex) := ⟨_, rfl⟩
  rw [← hxx1] at x1
  have hkl1 : bs1.length ≤ 400 := by rw [x1.len, hxx1]; simp
  have HXX1 := hid hxx1
  have hxl1 := lt_of_block x1.blk
  have hHr1 : H1 rb = none := by rw [ex1.2 rb hlt]; exact hr
  obtain ⟨pa1, pb1, pc1, pd1, fa1, fb1, fc1⟩ := four_cells x1.blk
  have R1 := hid r1
  have T1 := hid t1
  have Z1 := hid z1
  have EX1 := hid ex1
  have X1 := hid x1
  clear r1 t1 z1 ex1 x1 hxx1 E1
  refine (take_any _ rb g cap T s kFun R1.out k1).mono ?_
  rintro e2 w2 ⟨he2, h2, kp2⟩
  rw [HN.out] at he2
  subst he2
  have q2 : RS w2 rb g cap T s := by
    unfold takeS at h2
    rw [if_neg (by rw [HN.out]; decide)] at h2
    exact h2
  have E2 := hid (EIn.call T1.out Z1.out EX1.out X1.out hlt hr q2 k1 kp2)
  rw [HXX1.out] at E2
  clear h2 q2 kp2 R1 T1 Z1 EX1 X1 HXX1 pa1 pb1 pc1 pd1 fa1 fb1 fc1 hkl1 hHr1 hxl1
  obtain ⟨H2, ns2, ks2, bs2, m2, r2, k2, t2, z2, ex2, x2⟩ := E2.out
  obtain ⟨xx2, hxx2⟩ : ∃ xx2 : Ex, xx2 = (⟨[], [], [], (tk T s.k).pos⟩ : Ex) := ⟨_, rfl⟩
  rw [← hxx2] at x2
  have hkl2 : bs2.length ≤ 400 := by rw [x2.len, hxx2]; simp
  have HXX2 := hid hxx2
  have hxl2 := lt_of_block x2.blk
  have hHr2 : H2 rb = none := by rw [ex2.2 rb hlt]; exact hr
  obtain ⟨pa2, pb2, pc2, pd2, fa2, fb2, fc2⟩ := four_cells x2.blk
  have R2 := hid r2
  have T2 := hid t2
  have Z2 := hid z2
  have EX2 := hid ex2
  have X2 := hid x2
  clear r2 t2 z2 ex2 x2 hxx2 E2
  go_wp2_with fail
  refine (take_any _ rb g cap T s kIf R2.out k2).mono ?_
  rintro e3 w3 ⟨he3, h3, kp3⟩
  rw [HN2.out] at he3
  subst he3
  have q3 : RS w3 rb g cap T s := by
    unfold takeS at h3
    rw [if_neg (by rw [HN2.out]; decide)] at h3
    exact h3
  have E3 := hid (EIn.call T2.out Z2.out EX2.out X2.out hlt hr q3 k2 kp3)
  rw [HXX2.out] at E3
  clear h3 q3 kp3 R2 T2 Z2 EX2 X2 HXX2 pa2 pb2 pc2 pd2 fa2 fb2 fc2 hkl2 hHr2 hxl2
  obtain ⟨H3, ns3, ks3, bs3, m3, r3, k3, t3, z3, ex3, x3⟩ := E3.out
  obtain ⟨xx3, hxx3⟩ : ∃ xx3 : Ex, xx3 = (⟨[], [], [], (tk T s.k).pos⟩ : Ex) := ⟨_, rfl⟩
  rw [← hxx3] at x3
  have hkl3 : bs3.length ≤ 400 := by rw [x3.len, hxx3]; simp
  have HXX3 := hid hxx3
  have hxl3 := lt_of_block x3.blk
  have hHr3 : H3 rb = none := by rw [ex3.2 rb hlt]; exact hr
  obtain ⟨pa3, pb3, pc3, pd3, fa3, fb3, fc3⟩ := four_cells x3.blk
  have R3 := hid r3
  have T3 := hid t3
  have Z3 := hid z3
  have EX3 := hid ex3
  have X3 := hid x3
  clear r3 t3 z3 ex3 x3 hxx3 E3
  go_wp2_with fail
  refine (take_any _ rb g cap T s kLet R3.out k3).mono ?_
  rintro e4 w4 ⟨he4, h4, kp4⟩
  rw [HI.out] at he4
  subst he4
  have q4 : RS w4 rb g cap T (St.up s) := by
    unfold takeS at h4
    rw [if_pos HI.out] at h4
    exact h4
  have E4 := hid (EIn.call T3.out Z3.out EX3.out X3.out hlt hr q4 (hT.up k3 HI.out (by decide) (by decide)) kp4)
  rw [HXX3.out] at E4
  clear h4 q4 kp4 R3 T3 Z3 EX3 X3 HXX3 pa3 pb3 pc3 pd3 fa3 fb3 fc3 hkl3 hHr3 hxl3
  obtain ⟨H4, ns4, ks4, bs4, m4, r4, k4, t4, z4, ex4, x4⟩ := E4.out
  obtain ⟨xx4, hxx4⟩ : ∃ xx4 : Ex, xx4 = (⟨[], [], [], (tk T s.k).pos⟩ : Ex) := ⟨_, rfl⟩
  rw [← hxx4] at x4
  have hkl4 : bs4.length ≤ 400 := by rw [x4.len, hxx4]; simp
  have HXX4 := hid hxx4
  have hxl4 := lt_of_block x4.blk
  have hHr4 : H4 rb = none := by rw [ex4.2 rb hlt]; exact hr
  obtain ⟨pa4, pb4, pc4, pd4, fa4, fb4, fc4⟩ := four_cells x4.blk
  have R4 := hid r4
  have T4 := hid t4
  have Z4 := hid z4
  have EX4 := hid ex4
  have X4 := hid x4
  clear r4 t4 z4 ex4 x4 hxx4 E4
  go_wp2_with fail
  obtain ⟨w5, hw5⟩ : ∃ w5, w5 = w4.setCell ⟨w.heap.size, 0, none⟩ (Value.string { data := #[108, 101, 116] }) := ⟨_, rfl⟩
  rw [← hw5]
  have E5 := hid (EIn.setOp T4.out Z4.out EX4.out X4.out hlt hgl R4.out k4 kLet)
  rw [show w4.setCell ⟨w.heap.size, 0, none⟩ (.string (B kLet)) = w5 from hw5.symm, HXX4.out] at E5
  clear hw5 R4 T4 Z4 EX4 X4 HXX4 pa4 pb4 pc4 pd4 fa4 fb4 fc4 hkl4 hHr4 hxl4
  obtain ⟨H5, ns5, ks5, bs5, m5, r5, k5, t5, z5, ex5, x5⟩ := E5.out
  obtain ⟨xx5, hxx5⟩ : ∃ xx5 : Ex, xx5 = (⟨kLet, [], [], (tk T s.k).pos⟩ : Ex) := ⟨_, rfl⟩
  rw [← hxx5] at x5
  have hkl5 : bs5.length ≤ 400 := by rw [x5.len, hxx5]; simp
  have HXX5 := hid hxx5
  have hxl5 := lt_of_block x5.blk
  have hHr5 : H5 rb = none := by rw [ex5.2 rb hlt]; exact hr
  obtain ⟨pa5, pb5, pc5, pd5, fa5, fb5, fc5⟩ := four_cells x5.blk
  have R5 := hid r5
  have T5 := hid t5
  have Z5 := hid z5
  have EX5 := hid ex5
  have X5 := hid x5
  clear r5 t5 z5 ex5 x5 hxx5 E5
  refine (take_any _ rb g cap T s.up kRec R5.out k5).mono ?_
  rintro e6 w8 ⟨he6, h6, kp6⟩
  rw [HI3.out] at he6
  subst he6
  have q6 : RS w8 rb g cap T (St.up s.up) := by
    unfold takeS at h6
    rw [if_pos HI3.out] at h6
    exact h6
  have E6 := hid (EIn.call T5.out Z5.out EX5.out X5.out hlt hr q6 (hT.up k5 HI3.out (by decide) (by decide)) kp6)
  rw [HXX5.out] at E6
  clear h6 q6 kp6 R5 T5 Z5 EX5 X5 HXX5 pa5 pb5 pc5 pd5 fa5 fb5 fc5 hkl5 hHr5 hxl5
  obtain ⟨H6, ns6, ks6, bs6, m6, r6, k6, t6, z6, ex6, x6⟩ := E6.out
  obtain ⟨xx6, hxx6⟩ : ∃ xx6 : Ex, xx6 = (⟨kLet, [], [], (tk T s.k).pos⟩ : Ex) := ⟨_, rfl⟩
  rw [← hxx6] at x6
  have hkl6 : bs6.length ≤ 400 := by rw [x6.len, hxx6]; simp
  have HXX6 := hid hxx6
  have hxl6 := lt_of_block x6.blk
  have hHr6 : H6 rb = none := by rw [ex6.2 rb hlt]; exact hr
  obtain ⟨pa6, pb6, pc6, pd6, fa6, fb6, fc6⟩ := four_cells x6.blk
  have R6 := hid r6
  have T6 := hid t6
  have Z6 := hid z6
  have EX6 := hid ex6
  have X6 := hid x6
  clear r6 t6 z6 ex6 x6 hxx6 E6
  go_wp2_with fail
  obtain ⟨w9, hw7⟩ : ∃ w9, w9 = w8.setCell ⟨w.heap.size, 0, none⟩ (Value.string { data := #[114, 101, 99] }) := ⟨_, rfl⟩
  rw [← hw7]
  have E7 := hid (EIn.setOp T6.out Z6.out EX6.out X6.out hlt hgl R6.out k6 kRec)
  rw [show w8.setCell ⟨w.heap.size, 0, none⟩ (.string (B kRec)) = w9 from hw7.symm, HXX6.out] at E7
  clear hw7 R6 T6 Z6 EX6 X6 HXX6 pa6 pb6 pc6 pd6 fa6 fb6 fc6 hkl6 hHr6 hxl6
  obtain ⟨H7, ns7, ks7, bs7, m7, r7, k7, t7, z7, ex7, x7⟩ := E7.out
  obtain ⟨xx7, hxx7⟩ : ∃ xx7 : Ex, xx7 = (⟨kRec, [], [], (tk T s.k).pos⟩ : Ex) := ⟨_, rfl⟩
  rw [← hxx7] at x7
  have hkl7 : bs7.length ≤ 400 := by rw [x7.len, hxx7]; simp
  have HXX7 := hid hxx7
  have hxl7 := lt_of_block x7.blk
  have hHr7 : H7 rb = none := by rw [ex7.2 rb hlt]; exact hr
  obtain ⟨pa7, pb7, pc7, pd7, fa7, fb7, fc7⟩ := four_cells x7.blk
  have R7 := hid r7
  have T7 := hid t7
  have Z7 := hid z7
  have EX7 := hid ex7
  have X7 := hid x7
  clear r7 t7 z7 ex7 x7 hxx7 E7
  have hnl7 : xx7.names.length ≤ 1000 := by rw [HXX7.out]; simp
  refine (bound_any T n hT HE.out _ rb g cap w.heap.size H7 s.up.up ns7 ks7 bs7 m7 xx7 _ s1 (by rw [HXX7.out]; exact HS1.out) R7.out k7 Z7.out X7.out hlt hHr7 hgl hnl7 (by omega)).mono ?_
  rintro e8 w10 ⟨rfl, bp8⟩
  have E8 := hid (EIn.bound T7.out EX7.out (by omega) bp8)
  clear bp8 R7 T7 Z7 EX7 X7 HXX7 pa7 pb7 pc7 pd7 fa7 fb7 fc7 hkl7 hHr7 hxl7
  obtain ⟨hop1, hnn1, hkk1, _⟩ := hp1
  have HP1 := hid (show x.op = kRec ∧ x.names.length = 1 ∧ x.kids.length = 1 from ⟨hop1, by simpa using hnn1, by simpa using hkk1⟩)
  clear hop1 hnn1 hkk1
  go_wp2_with fail
  go_loopg [140] (T.length + 1) (fun gh _ wi => ∃ z t, EIn T w wi rb g cap H t z ∧ Hid (bindsS (expS T n) T gh z t = some (y, s2)) ∧ Hid (z.op = kRec ∧ z.names.length + gh ≤ T.length + 2 ∧ z.kids.length + gh ≤ T.length + 2))
  case atStart => exact ⟨x, s1, E8.out, HS2, ⟨HP1.out.1, by rw [HP1.out.2.1]; omega, by rw [HP1.out.2.2]; omega⟩⟩
  case round =>
    obtain ⟨z, t, ein, HB, HZZ⟩ := hrel
    clear E8 HS2 HP1
    cases gk with
    | zero => exact absurd HB.out (by simp [bindsS])
    | succ F =>
      obtain ⟨H9, ns9, ks9, bs9, m9, r9, k9, t9, z9, ex9, x9⟩ := ein
      obtain ⟨xx9, hxx9⟩ : ∃ xx9 : Ex, xx9 = z := ⟨_, rfl⟩
      rw [← hxx9] at x9
      have hkl9 : bs9.length ≤ 1000 := by rw [x9.len, hxx9]; have := HZZ.out.2.2; omega
      have HXX9 := hid hxx9
      have hxl9 := lt_of_block x9.blk
      have hHr9 : H9 rb = none := by rw [ex9.2 rb hlt]; exact hr
      obtain ⟨pa9, pb9, pc9, pd9, fa9, fb9, fc9⟩ := four_cells x9.blk
      have R9 := hid r9
      have T9 := hid t9
      have Z9 := hid z9
      have EX9 := hid ex9
      have X9 := hid x9
      clear r9 t9 z9 ex9 x9 hxx9 
      have ho9 : ((B xx9.op).toList == [114, 101, 99]) = true := by rw [toList_B, HXX9.out, HZZ.out.1]; decide
      have hnl9 : xx9.names.length ≤ 1000 := by rw [HXX9.out]; have := HZZ.out.2.1; omega
      cases hand : isS T t kAnd with
      | true =>
        have HAND := hid hand
        have e := HB.out
        rw [bindsS, if_pos ⟨HZZ.out.1, hand⟩] at e
        cases hx : boundS (expS T n) T z t.up with
        | none => rw [hx] at e; cases e
        | some pr =>
          obtain ⟨z2, t2⟩ := pr
          rw [hx] at e
          dsimp only at e
          have HB2 := hid e
          have HX := hid hx
          have HBP := hid (bound_parts hx)
          clear e hx HB hand
          go_wp2_with fail
          refine (take_any _ rb g cap T t kAnd R9.out k9).mono ?_
          rintro e10 w11 ⟨he10, h10, kp10⟩
          rw [HAND.out] at he10
          subst he10
          have q10 : RS w11 rb g cap T (St.up t) := by
            unfold takeS at h10
            rw [if_pos HAND.out] at h10
            exact h10
          have E10 := hid (EIn.call T9.out Z9.out EX9.out X9.out hlt hr q10 (hT.up k9 HAND.out (by decide) (by decide)) kp10)
          rw [HXX9.out] at E10
          clear h10 q10 kp10 ho9 R9 T9 Z9 EX9 X9  pa9 pb9 pc9 pd9 fa9 fb9 fc9 hkl9 hHr9 hxl9
          obtain ⟨H10, ns10, ks10, bs10, m10, r10, k10, t10, z10, ex10, x10⟩ := E10.out
          obtain ⟨xx10, hxx10⟩ : ∃ xx10 : Ex, xx10 = z := ⟨_, rfl⟩
          rw [← hxx10] at x10
          have hkl10 : bs10.length ≤ 1000 := by rw [x10.len, hxx10]; have := HZZ.out.2.2; omega
          have HXX10 := hid hxx10
          have hxl10 := lt_of_block x10.blk
          have hHr10 : H10 rb = none := by rw [ex10.2 rb hlt]; exact hr
          obtain ⟨pa10, pb10, pc10, pd10, fa10, fb10, fc10⟩ := four_cells x10.blk
          have R10 := hid r10
          have T10 := hid t10
          have Z10 := hid z10
          have EX10 := hid ex10
          have X10 := hid x10
          clear r10 t10 z10 ex10 x10 hxx10 E10
          have hnl10 : xx10.names.length ≤ 1000 := by rw [HXX10.out]; have := HZZ.out.2.1; omega
          go_wp2_with fail
          refine (bound_any T n hT HE.out _ rb g cap w.heap.size H10 t.up ns10 ks10 bs10 m10 xx10 _ t2 (by rw [HXX10.out]; exact HX.out) R10.out k10 Z10.out X10.out hlt hHr10 hgl hnl10 hkl10).mono ?_
          rintro e12 w12 ⟨rfl, bp12⟩
          have E12 := hid (EIn.bound T10.out EX10.out (by omega) bp12)
          clear bp12
          go_wp2_with fail
          go_roundg F
          case measure => omega
          case rel => exact ⟨z2, t2, E12.out, HB2, ⟨by rw [HBP.out.1]; exact HZZ.out.1, by rw [HBP.out.2.1]; have := HZZ.out.2.1; omega, by rw [HBP.out.2.2.1]; have := HZZ.out.2.2; omega⟩⟩
      | false =>
        have HAND := hid hand
        have e := HB.out
        rw [bindsS, if_neg (fun h => by rw [hand] at h; cases h.2)] at e
        cases e
        clear HB hand
        go_wp2_with fail
        refine (take_any _ rb g cap T s2 kAnd R9.out k9).mono ?_
        rintro e10 w11 ⟨he10, h10, kp10⟩
        rw [HAND.out] at he10
        subst he10
        have q10 : RS w11 rb g cap T s2 := by
          unfold takeS at h10
          rw [if_neg (by rw [HAND.out]; decide)] at h10
          exact h10
        have E10 := hid (EIn.call T9.out Z9.out EX9.out X9.out hlt hr q10 k9 kp10)
        rw [HXX9.out] at E10
        clear h10 q10 kp10 ho9 R9 T9 Z9 EX9 X9 HXX9 pa9 pb9 pc9 pd9 fa9 fb9 fc9 hkl9 hHr9 hxl9
        obtain ⟨H10, ns10, ks10, bs10, m10, r10, k10, t10, z10, ex10, x10⟩ := E10.out
        obtain ⟨xx10, hxx10⟩ : ∃ xx10 : Ex, xx10 = y := ⟨_, rfl⟩
        rw [← hxx10] at x10
        have hkl10 : bs10.length ≤ 1000 := by rw [x10.len, hxx10]; have := HZZ.out.2.2; omega
        have HXX10 := hid hxx10
        have hxl10 := lt_of_block x10.blk
        have hHr10 : H10 rb = none := by rw [ex10.2 rb hlt]; exact hr
        obtain ⟨pa10, pb10, pc10, pd10, fa10, fb10, fc10⟩ := four_cells x10.blk
        have R10 := hid r10
        have T10 := hid t10
        have Z10 := hid z10
        have EX10 := hid ex10
        have X10 := hid x10
        clear r10 t10 z10 ex10 x10 hxx10 E10
        go_wp2_with fail
        refine (need_any _ rb g cap T s2 kIn R10.out k10).mono ?_
        rintro e11 w12 ⟨rfl, h11, kp11⟩
        have E11 := hid (EIn.call T10.out Z10.out EX10.out X10.out hlt hr h11 (hT.need k10 (by decide) (by decide)) kp11)
        rw [HXX10.out] at E11
        clear h11 kp11 R10 T10 Z10 EX10 X10 HXX10 pa10 pb10 pc10 pd10 fa10 fb10 fc10 hkl10 hHr10 hxl10
        obtain ⟨H11, ns11, ks11, bs11, m11, r11, k11, t11, z11, ex11, x11⟩ := E11.out
        obtain ⟨xx11, hxx11⟩ : ∃ xx11 : Ex, xx11 = y := ⟨_, rfl⟩
        rw [← hxx11] at x11
        have hkl11 : bs11.length ≤ 1000 := by rw [x11.len, hxx11]; have := HZZ.out.2.2; omega
        have HXX11 := hid hxx11
        have hxl11 := lt_of_block x11.blk
        have hHr11 : H11 rb = none := by rw [ex11.2 rb hlt]; exact hr
        obtain ⟨pa11, pb11, pc11, pd11, fa11, fb11, fc11⟩ := four_cells x11.blk
        have R11 := hid r11
        have T11 := hid t11
        have Z11 := hid z11
        have EX11 := hid ex11
        have X11 := hid x11
        clear r11 t11 z11 ex11 x11 hxx11 E11
        go_upto_region 26 with fail
        obtain ⟨i11, hj11, hy011, hy111, hy211⟩ := info_parts info_ptr
        go_region_law (first | (refine step_append_lies _ rfl (.tmp 150) (.tmp 153) 84 rfl w.heap.size 26 i11 (.pointer none) 1 8 Tryz.underlying84 hj11 hy011 hy111 hy211 rfl (by decide) ks11 bs11.length (ptrs bs11) rfl (hrow6.alloc _) ⟨w6.heap.size, 0, none⟩ 1 1 [.pointer (some ⟨c, 0, none⟩)] rfl rfl (one_new _ _ _) (one_ptr _) (by decide) (by unfold maxLen; omega) (by omega) (by simp; omega) (w6.heap.size + 1) (by simp) ?_; intro g3 cap3 w7 hown7 hgrow7 hat7 _; have b7 := (four_cells (X6.out.blkK hgrow7)).2.2.1; have f7 := (four_cells (X6.out.blkK hgrow7)).2.2.2.2.2.2; have R7 := hid (X6.out.addKid Z6.out R6.out hown7 hgrow7 hat7); clear hown7 hgrow7 hat7) | (go_simp; go_at_call 39; refine (HE.out _ rb g cap H11 (needS T s2 kIn) b s3 HS3.out ?_ k11 ?_ hHr11).mono ?_; exact RS.drew R11.out; exact Z11.out.drew; rintro e6 w6 ⟨c, H7, m7, rfl, h7, hk7, hkept7, hz7, ext7, rep7⟩; have X6 := hid (X11.out.drew.kept hkept7 ext7 hlt); have q6 := (four_cells X6.out.blk).2.2.1; have hrow6 := X6.out.krow; have hxl6 := lt_of_block X6.out.blk; have K6 := hid hkept7; have Z6 := hid hz7; have E6 := hid ext7; have R6 := hid rep7; have RS6 := hid h7; clear h7 hkept7 hz7 ext7 rep7))
        all_goals
          go_wp2
          go_ret
          have ee : (⟨xx11.op, xx11.names, xx11.kids ++ [b], xx11.pos⟩ : Ex) = (⟨y.op, y.names, y.kids ++ [b], y.pos⟩ : Ex) := by rw [HXX11.out]
          exact ⟨rfl, EIn.post ⟨H7, ns11, .slice (some ⟨g3, 0, none⟩) (bs11.length + 1) cap3, bs11 ++ [c], max m11 m7, RS6.out.to hgl (fun k hk => R7.out.2.2.2 k hk) hlt, hk7, (T11.out.drew.trans (KeptTo.of K6.out (by show w.heap.size ≤ w12.heap.size; omega))).trans (R7.out.2.2.1 rb), R7.out.2.1, EX11.out.trans E6.out (by show w.heap.size ≤ w12.heap.size; omega), by rw [← ee]; exact R7.out.1⟩⟩
end Go.Proofs.YtcdijppegfcoaaaGreatDoor
