import Derived.Test.YtcdijppegfcoaabGreatDoorNP
import Derived.Test.YtcdijppegfcoaabGreatDoorCom
import Derived.Test.YtcdijppegfcoaabGreatDoorXMut
import Derived.Test.YtcdijppegfcoaabGreatDoorRefB
import Derived.Defers
import Derived.Recover
import Derived.Test.YtcdijppegfcoaabGreatDoorRefRd
import Derived.Test.YtcdijppegfcoaabGreatDoorNE
import Derived.Test.YtcdijppegfcoaabGreatDoorRefT5
import Derived.Test.YtcdijppegfcoaabGreatDoorShelfJ
/-
  OUR OWN TEXT. The program's reader: atoms, and what is applied.
-/
namespace Go.Proofs.YtcdijppegfcoaabGreatDoor
open Go.RowKit

set_option maxRecDepth 100000 in
set_option maxHeartbeats 4000000 in
theorem atom_p (T : List Tok) (n : Nat) (hl : T.length ≤ 400) (hE : EXPP T n) (w : World) (rb : Nat) (s : ByteArray) (H : Nat → Option Obj) (st : St) (ex : Ex) (st' : St)
    (hs : atomS (expS T n) T st = some (ex, st')) (h : PSt exKw w rb s T st) (hz : Fz H w) (hr : H rb = none) :
    Calls Tryz.prog 146 #[rdV rb] w fun e w' => EOut w w' rb s T H st.k st' e ex := by
  have hlt := h.lt
  have hss := h.size
  have hneg := h.neg
  have hsl : s.data.toList.length = s.size := by rw [Array.length_toList]; rfl
  have HP := hid (h.alloc (.cells #[.pointer (some ⟨rb, 0, none⟩)] 153))
  have HZ := hid (hz.alloc (.cells #[.pointer (some ⟨rb, 0, none⟩)] 153))
  have HE := hid hE
  have HS := hid hs
  have K0 := hid ((Kept.refl rb w).alloc (.cells #[.pointer (some ⟨rb, 0, none⟩)] 153))
  clear h hz hE hs
  unfold rdV
  go_enter Tryz.func146, Tryz.ntmps146
  go_wp2_with fail
  refine (isName_p _ rb s T st HP.out).mono ?_
  rintro e w1 ⟨rfl, g1⟩
  have bx1 : w1.cell? ⟨w.heap.size, 0, none⟩ = some (.pointer (some ⟨rb, 0, none⟩)) := by
    rw [World.cell?_of_block (a := ⟨w.heap.size, 0, none⟩) (g1.block w.heap.size (by simp) (by simp))]
    simp [go_sem]
  have hw1 : w.heap.size < w1.heap.size := by have := g1.size; simp at this; omega
  have p1 := HP.out.grown g1
  have K1 := hid (K0.out.trans (Kept.of0 rb g1))
  have Z1 := hid (HZ.out.grown g1)
  clear g1 HP HZ K0
  obtain ⟨J, hat, hrd⟩ := p1.place
  have ha := asked exKw exKw_ok s.data.toList J hat.1
  have P1 := hid p1
  have hlt1 := p1.lt
  clear p1
  cases hi : isS T st kName with
  | true =>
    have hk := isS_is hi
    have hnx := hat.next exKw_ok (by rw [hk]; decide) (by rw [hk]; decide)
    have hre := ha.real (by rw [← hat.tk, hk]; decide) (by rw [← hat.tk, hk]; decide)
    have HN := hid hnx.1
    have HJ := hid (show J + (nxT s.data.toList J).length ≤ s.size by rw [← hsl]; exact hnx.2)
    have HT := hid (show nxT s.data.toList J = (tk T st.k).s by rw [hat.tk]; exact hre.1)
    have HO := hid (show (tk T st.k).pos = J by rw [hat.tk, ha.pos])
    have RD := hid hrd
    obtain ⟨_, _, _, c3, _, _, _⟩ := four_p hrd
    have e4 := HS.out
    unfold atomS at e4
    rw [if_pos (Or.inl hi)] at e4
    cases e4
    have HK := hid hk
    clear hat hrd ha hi hk hnx hre
    go_wp2_with fail
    go_region_with (first | (go_at_call 143; refine (above_0 _).mono ?_; rintro e wA ⟨rfl, gA⟩; have GA := hid gA; have bxA := (World.cell?_of_block (a := ⟨w.heap.size, 0, none⟩) (gA.block w.heap.size (by show _ < _; first | (show w.heap.size < w1.heap.size; omega) | omega) (by simp))).trans (by first | exact bx1 | assumption); clear gA) | (go_at_call 125; refine (take_p _ rb s J hss (by first | exact RD.out | exact Rdr.grown (w := w1.drew) RD.out GA.out) HJ.out).mono ?_; rintro e wT ⟨rfl, rT, kT⟩; have hwT : w1.heap.size ≤ wT.heap.size := (by first | exact kT.size | exact Nat.le_trans GA.out.size kT.size); have bxT := (kept_cell kT (b := w.heap.size) (o := 0) (by first | (show w.heap.size < w1.heap.size; omega) | (exact Nat.lt_of_lt_of_le hw1 GA.out.size)) (by omega)).trans (by first | exact bx1 | assumption); have RT := hid rT; have KT := hid kT; clear rT kT))
    all_goals
      go_wp2
      go_ret
      rw [HK.out, ← HT.out, HO.out]
      exact leaf_out ((K1.out.drew.trans (Kept.of0 rb GA.out)).trans KT.out) ⟨hneg, ⟨_, HN.out, RT.out⟩, hss⟩ ((Z1.out.drew.grown GA.out).kept KT.out hr) kName _ _ _ (Or.inl ⟨rfl, rfl⟩)
  | false =>
    have hn := ha.num
    rw [← hat.tk] at hn
    obtain ⟨c0, c1, c2, c3, f1, f2, f3⟩ := four_p hrd
    clear c0 c2 c3 f1 f2 f3
    by_cases hk3 : nxK s.data.toList J = 3
    · have hk := hn.1 hk3
      rw [hk3] at c1
      have hnx := hat.next exKw_ok (by rw [hk]; decide) (by rw [hk]; decide)
      have hre := ha.real (by rw [← hat.tk, hk]; decide) (by rw [← hat.tk, hk]; decide)
      have HN := hid hnx.1
      have HJ := hid (show J + (nxT s.data.toList J).length ≤ s.size by rw [← hsl]; exact hnx.2)
      have HT := hid (show nxT s.data.toList J = (tk T st.k).s by rw [hat.tk]; exact hre.1)
      have RD := hid hrd
      have e4 := HS.out
      unfold atomS at e4
      rw [if_pos (Or.inr (by simp [isS, hneg, hk]))] at e4
      cases e4
      have HK := hid hk
      clear hat hrd ha hi hk hnx hre hn hk3
      go_wp2_with fail
      go_region_with (first | (go_at_call 143; refine (above_0 _).mono ?_; rintro e wA ⟨rfl, gA⟩; have GA := hid gA; have bxA := (World.cell?_of_block (a := ⟨w.heap.size, 0, none⟩) (gA.block w.heap.size (by show _ < _; first | (show w.heap.size < w1.heap.size; omega) | omega) (by simp))).trans (by first | exact bx1 | assumption); clear gA) | (go_at_call 125; refine (take_p _ rb s J hss (by first | exact RD.out | exact Rdr.grown (w := w1.drew) RD.out GA.out) HJ.out).mono ?_; rintro e wT ⟨rfl, rT, kT⟩; have hwT : w1.heap.size ≤ wT.heap.size := (by first | exact kT.size | exact Nat.le_trans GA.out.size kT.size); have bxT := (kept_cell kT (b := w.heap.size) (o := 0) (by first | (show w.heap.size < w1.heap.size; omega) | (exact Nat.lt_of_lt_of_le hw1 GA.out.size)) (by omega)).trans (by first | exact bx1 | assumption); have RT := hid rT; have KT := hid kT; clear rT kT))
      all_goals
        go_wp2
        go_ret
        rw [HK.out, ← HT.out]
        exact leaf_out ((K1.out.drew.trans (Kept.of0 rb GA.out)).trans KT.out) ⟨hneg, ⟨_, HN.out, RT.out⟩, hss⟩ ((Z1.out.drew.grown GA.out).kept KT.out hr) kNum _ _ _ (Or.inr ⟨rfl, rfl⟩)
    · have hq : (((nxK s.data.toList J : Nat) : Int) == 3) = false := by simp; omega
      have hkn : isS T st kNum = false := by
        have : ¬ (tk T st.k).is = kNum := fun e => hk3 (hn.2 e)
        simp [isS, this]
      have e4 := HS.out
      unfold atomS at e4
      rw [if_neg (by rw [hi, hkn]; decide)] at e4
      have HA := hid e4
      clear hat hrd ha hi hn hk3 hkn e4
      generalize nxK s.data.toList J = kk at *
      go_wp2_with fail
      refine (must_p exKw exKw_ok _ rb s T st kOpen P1.out (Or.inr (by decide))).mono ?_
      rintro e w2 ⟨k2, (⟨rfl, p2⟩ | ⟨hb, b, rfl, hrf⟩)⟩
      case inr =>
        have e4 := HA.out
        cases hx : expS T n (needS T st kOpen) with
        | none => rw [hx] at e4; cases e4
        | some q =>
        obtain ⟨x, s1⟩ := q
        rw [hx] at e4
        have e5 := exp_bad_st hb hx
        rw [e5] at e4
        dsimp only at e4
        rw [if_neg (by rw [isS_bad hb]; decide), need_bad hb] at e4
        cases e4
        unfold refusal
        go_wp2
        exact ⟨rfl, K1.out.trans k2, Or.inr ⟨hb, b, rfl, hrf⟩⟩
      case inl =>
      have bx2 : w2.cell? ⟨w.heap.size, 0, none⟩ = some (.pointer (some ⟨rb, 0, none⟩)) := by
        rw [kept_cell k2 hw1 (by omega)]
        exact bx1
      have hw2 : w1.heap.size ≤ w2.heap.size := k2.size
      have hn := need_good p2.neg
      have P2 := hid p2
      have K2 := hid (K1.out.trans k2)
      have Z2 := hid (Z1.out.kept k2 hr)
      clear p2 k2 bx1
      have e4 := HA.out
      cases hx : expS T n (needS T st kOpen) with
      | none => rw [hx] at e4; cases e4
      | some q =>
      obtain ⟨x, s1⟩ := q
      rw [hx] at e4
      have HX := hid hx
      have HY := hid e4
      clear e4 hx c1
      go_wp2_with fail
      refine (bracketed_p T n hl HE.out _ rb s H _ x s1 ex st' (tk T st.k).pos HX.out HY.out P2.out Z2.out hr).mono ?_
      rintro e w3 ⟨k3, (⟨v2, H3, m2, rfl, p3, z3, e3, r3, d3⟩ | ⟨hb, b, rfl, hrf⟩)⟩
      case inr =>
        unfold refusal
        go_wp2
        exact ⟨rfl, K2.out.trans k3, Or.inr ⟨hb, b, rfl, hrf⟩⟩
      case inl =>
      have Q := hid (And.intro p3 (And.intro (K2.out.trans k3) (And.intro z3 (And.intro (e3.from (n := w.heap.size) (by omega)) (And.intro r3 d3)))))
      clear p3 k3 z3 e3 r3 d3
      go_wp2
      go_ret
      obtain ⟨p3, k3, z3, e3, r3, d3⟩ := Q.out
      exact ⟨k3, Or.inl ⟨_, H3, m2, rfl, p3, z3, e3, r3, by omega⟩⟩
end Go.Proofs.YtcdijppegfcoaabGreatDoor

/-
  OUR OWN TEXT. The program's reader: what is applied.
-/
namespace Go.Proofs.YtcdijppegfcoaabGreatDoor
open Go.RowKit

theorem app_bad {A : St → Option (Ex × St)} {T : List Tok} {f : Nat} {x : Ex} {st : St} {ex : Ex} {st' : St} (hb : 0 ≤ st.bad) (h : appS A T f x st = some (ex, st')) : st' = st := by
  cases f with
  | zero => simp [appS] at h
  | succ f =>
    rw [appS, if_neg (by rw [isS_bad hb, isS_bad hb, isS_bad hb]; decide)] at h
    cases h
    rfl

set_option maxRecDepth 100000 in
set_option maxHeartbeats 4000000 in
theorem applied_p (T : List Tok) (n : Nat) (hl : T.length ≤ 400) (hE : EXPP T n) (w : World) (rb : Nat) (s : ByteArray) (H : Nat → Option Obj) (st : St) (x : Ex) (s1 : St) (ex : Ex) (st' : St)
    (hs : atomS (expS T n) T st = some (x, s1)) (ha : appS (atomS (expS T n) T) T (T.length + 1) x s1 = some (ex, st')) (h : PSt exKw w rb s T st) (hz : Fz H w) (hr : H rb = none) :
    Calls Tryz.prog 114 #[rdV rb] w fun e w' => EOut w w' rb s T H st.k st' e ex := by
  have hlt := h.lt
  have HP := hid (h.alloc (.cells #[.pointer (some ⟨rb, 0, none⟩)] 153))
  have HZ := hid (hz.alloc (.cells #[.pointer (some ⟨rb, 0, none⟩)] 153))
  have HE := hid hE
  have HS := hid hs
  have HA := hid ha
  have K0 := hid ((Kept.refl rb w).alloc (.cells #[.pointer (some ⟨rb, 0, none⟩)] 153))
  clear h hz hE hs ha
  unfold rdV
  go_enter Tryz.func114, Tryz.ntmps114
  go_wp2_with fail
  refine (atom_p T n hl HE.out _ rb s H st x s1 HS.out HP.out HZ.out hr).mono ?_
  rintro e w1 ⟨k1, (⟨v1, H1, m1, rfl, p1, z1, e1, r1, d1⟩ | ⟨hb, b, rfl, hrf⟩)⟩
  case inr =>
    have e4 := app_bad hb HA.out
    unfold refusal
    go_wp2
    exact ⟨rfl, K0.out.trans k1, Or.inr ⟨by rw [e4]; exact hb, b, rfl, by rw [e4]; exact hrf⟩⟩
  case inl =>
  obtain ⟨t1, b1, ht1, rfl, hb1, hc1⟩ := r1.dat z1
  have bx1 : w1.cell? ⟨w.heap.size, 0, none⟩ = some (.pointer (some ⟨rb, 0, none⟩)) := by
    rw [kept_cell k1 (by simp) (by omega)]
    simp [go_sem]
  have hw1 : w.heap.size < w1.heap.size := by have := k1.size; simp at this; omega
  have P1 := hid p1
  have K1 := hid (K0.out.trans k1)
  have Z1 := hid z1
  have E1 := hid (e1.from (n := w.heap.size) (by simp))
  have R1 := hid r1
  have D1 := hid d1
  clear p1 k1 z1 e1 r1 d1 hb1 hc1
  go_wp2_with fail
  go_loopg [3] (T.length + 1) (fun g v wi => ∃ t b Hi m y sy, v = (.iface t (.pointer (some ⟨b, 0, none⟩))) ∧ Hid (appS (atomS (expS T n) T) T g y sy = some (ex, st')) ∧ Hid (PSt exKw wi rb s T sy) ∧ Hid (Kept rb w wi) ∧ Hid (Fz Hi wi) ∧ Hid (Ext w.heap.size H Hi) ∧ Hid (PRep m Hi (.iface t (.pointer (some ⟨b, 0, none⟩))) y) ∧ Hid (exDeep m y + st.k ≤ sy.k) ∧ wi.cell? ⟨w.heap.size, 0, none⟩ = some (.pointer (some ⟨rb, 0, none⟩)) ∧ w.heap.size < wi.heap.size)
  case atStart => exact ⟨t1, b1, H1, m1, x, s1, rfl, HA, P1, K1, Z1, E1, R1, D1, bx1, hw1⟩
  case round =>
    obtain ⟨t2, b2, H2, m2, y, sy, rfl, AA, P2, K2, Z2, E2, R2, D2, bx2, hw2⟩ := hrel
    rename World => w2
    obtain ⟨F, rfl⟩ : ∃ F, gk = F + 1 := by
      cases gk with
      | zero => have := AA.out; simp [appS] at this
      | succ F => exact ⟨F, rfl⟩
    go_wp2_with fail
    refine (isAtom_p _ rb s T sy P2.out).mono ?_
    rintro e w3 ⟨rfl, g3⟩
    have bx3 : w3.cell? ⟨w.heap.size, 0, none⟩ = some (.pointer (some ⟨rb, 0, none⟩)) := by
      rw [World.cell?_of_block (a := ⟨w.heap.size, 0, none⟩) (g3.block w.heap.size hw2 (by simp))]
      exact bx2
    have hw3 : w2.heap.size ≤ w3.heap.size := g3.size
    have P3 := hid (P2.out.grown g3)
    have K3 := hid (K2.out.trans (Kept.of0 rb g3))
    have Z3 := hid (Z2.out.grown g3)
    have hr2 : H2 rb = none := by rw [E2.out.2 rb hlt]; exact hr
    have e4 := AA.out
    rw [appS] at e4
    clear g3 bx2 P2 K2 Z2 AA
    cases hm : moreT T sy with
    | false =>
      have hm' : ¬ (isS T sy kName = true ∨ isS T sy kNum = true ∨ isS T sy kOpen = true) := by
        simp only [moreT, Bool.or_eq_false_iff] at hm
        rw [hm.1, hm.2.1, hm.2.2]
        decide
      rw [if_neg hm'] at e4
      cases e4
      clear hm hm'
      go_wp2
      go_ret
      exact ⟨K3.out, Or.inl ⟨_, H2, m2, rfl, P3.out, Z3.out, E2.out, R2.out, D2.out⟩⟩
    | true =>
      have hm' : isS T sy kName = true ∨ isS T sy kNum = true ∨ isS T sy kOpen = true := by simpa [moreT] using hm
      rw [if_pos hm'] at e4
      cases hx : atomS (expS T n) T sy with
      | none => rw [hx] at e4; cases e4
      | some q =>
      obtain ⟨z, s4⟩ := q
      rw [hx] at e4
      have HX := hid hx
      have AA := hid e4
      clear hm hm' hx e4
      go_wp2_with fail
      refine (atom_p T n hl HE.out _ rb s H2 sy z s4 HX.out P3.out Z3.out hr2).mono ?_
      rintro e w4 ⟨k4, (⟨v2, H3, m3, rfl, p4, z4, e4, r4, d4⟩ | ⟨hb, b, rfl, hrf⟩)⟩
      case inr =>
        have e4 := app_bad hb AA.out
        unfold refusal
        go_wp2
        exact ⟨rfl, K3.out.trans k4, Or.inr ⟨by rw [e4]; exact hb, b, rfl, by rw [e4]; exact hrf⟩⟩
      case inl =>
      obtain ⟨t3, b3, ht3, rfl, hb3, hc3⟩ := r4.dat z4
      have bx4 : w4.cell? ⟨w.heap.size, 0, none⟩ = some (.pointer (some ⟨rb, 0, none⟩)) := by
        rw [kept_cell k4 (by omega) (by omega)]
        exact bx3
      have hw4 : w3.heap.size ≤ w4.heap.size := k4.size
      have hkk := p4.klt
      obtain ⟨M, hM⟩ : ∃ M, M = max m2 m3 := ⟨_, rfl⟩
      have RA : Hid (PRep M H3 (.iface t2 (.pointer (some ⟨b2, 0, none⟩))) y) := (PRep.ext e4 _ _ _ R2.out).le (by omega)
      have RB : Hid (PRep M H3 (.iface t3 (.pointer (some ⟨b3, 0, none⟩))) z) := r4.le (by omega)
      have q1 : exDeep M y = exDeep m2 y := deep_le (PRep.shape _ _ _ R2.out) (by omega)
      have q2 : exDeep M z = exDeep m3 z := deep_le (PRep.shape _ _ _ r4) (by omega)
      have D5 := hid (show max (exDeep M y) (exDeep M z) + 1 + st.k ≤ s4.k ∧ s4.k < T.length by
        have := D2.out
        have := deep_pos R2.out
        have := deep_pos r4
        omega)
      have ZA := hid (z4.alloc (.cells #[(.iface t2 (.pointer (some ⟨b2, 0, none⟩))), (.iface t3 (.pointer (some ⟨b3, 0, none⟩)))] 101))
      have P5 := hid p4
      have K5 := hid (K3.out.trans k4)
      have E5 := hid (E2.out.trans (e4.from (n := w.heap.size) (by omega)) (Nat.le_refl _))
      clear p4 k4 z4 e4 r4 d4 hb3 hc3 bx3 hM q1 q2
      have AB : Hid (Calls Tryz.prog 143 #[.slice (some ⟨w4.heap.size, 0, none⟩) 2 2] (w4.alloc (.cells #[(.iface t2 (.pointer (some ⟨b2, 0, none⟩))), (.iface t3 (.pointer (some ⟨b3, 0, none⟩)))] 101)) fun e w' => e = .returned (.agg #[.int .i64 ((maxl [exDeep M y, exDeep M z] + 1 : Nat) : Int)]) ∧ (w4.alloc (.cells #[(.iface t2 (.pointer (some ⟨b2, 0, none⟩))), (.iface t3 (.pointer (some ⟨b3, 0, none⟩)))] 101)).grownBy w' none) :=
        above_p _ (some ⟨w4.heap.size, 0, none⟩) 2 [(.iface t2 (.pointer (some ⟨b2, 0, none⟩))), (.iface t3 (.pointer (some ⟨b3, 0, none⟩)))] [exDeep M y, exDeep M z] rfl (by simp) (row2 (w := w4) (t := 101)) (all2 (p := fun u d => DAt _ u d) (RA.out.dat ZA.out) (RB.out.dat ZA.out)) (by have := D5.out; simp [maxl]; omega)
      go_wp2_with fail
      refine AB.out.mono ?_
      rintro e w6 ⟨rfl, g6⟩
      have bx6 : w6.cell? ⟨w.heap.size, 0, none⟩ = some (.pointer (some ⟨rb, 0, none⟩)) := by
        rw [World.cell?_of_block (a := ⟨w.heap.size, 0, none⟩) (g6.block w.heap.size (by simp; omega) (by simp))]
        exact cell_past bx4 _
      have hw6 : w4.heap.size ≤ w6.heap.size := by have := g6.size; simp at this; omega
      have G6 := hid g6
      clear g6 bx4
      go_wp2_with fail
      go_roundg F
      case measure => omega
      case rel =>
        obtain ⟨H7, z7, x7, r7⟩ := node_rep (w := w6) (H := H3) (ZA.out.grown G6.out) ⟨oApp, [], [y, z], y.pos⟩ [(.iface t2 (.pointer (some ⟨b2, 0, none⟩))), (.iface t3 (.pointer (some ⟨b3, 0, none⟩)))] M (.cells #[.int .i64 ((exDeep (M + 1) ⟨oApp, [], [y, z], y.pos⟩ : Nat) : Int), (.iface t2 (.pointer (some ⟨b2, 0, none⟩))), (.iface t3 (.pointer (some ⟨b3, 0, none⟩)))] 197) rfl
          (kids2 (p := fun u q => PRep M H3 u q) RA.out RB.out)
          (fun H' _ h2 => Or.inr (Or.inr (Or.inr (Or.inr (Or.inr (Or.inr (Or.inl ⟨rfl, _, _, rfl, rfl, h2⟩)))))))
        refine ⟨_, _, H7, M + 1, ⟨oApp, [], [y, z], y.pos⟩, s4, rfl, AA, ((P5.out.alloc _).grown G6.out).alloc _, ((K5.out.alloc _).trans (Kept.of0 rb G6.out)).alloc _, z7, E5.out.trans x7 (by omega), r7, ?_, cell_past bx6 _, by simp; omega⟩
        have hd : exDeep (M + 1) ⟨oApp, [], [y, z], y.pos⟩ = max (exDeep M y) (exDeep M z) + 1 := by simp [exDeep, maxl]
        have := D5.out
        show exDeep (M + 1) _ + st.k ≤ s4.k
        omega
end Go.Proofs.YtcdijppegfcoaabGreatDoor

/-
  OUR OWN TEXT. The program's reader: is the next token a name of the group?
-/
namespace Go.Proofs.YtcdijppegfcoaabGreatDoor
open Go.RowKit

theorem str_beq (a b : List UInt8) : ((B a).toList == (B b).toList) = (a == b) := by rw [toList_B, toList_B]

set_option maxRecDepth 100000 in
theorem nofClosure (nm tt : List UInt8) (u : Value) (bx rb : Nat) (w : World) (hbx : w.cell? ⟨bx, 0, none⟩ = some (.pointer (some ⟨rb, 0, none⟩))) (hc2 : w.cell? ⟨rb, 2, none⟩ = some (.string (B tt))) :
    Calls Tryz.prog 178 #[.agg #[.string (B nm), u], .pointer (some ⟨bx, 0, none⟩)] w fun e w' => e = .returned (.bool (nm == tt)) ∧ w.grownBy w' none := by
  have a0 := fun x => cell_past hbx x
  have a2 := fun x => cell_past hc2 x
  go_enter Tryz.func178, Tryz.ntmps178
  go_wp2_with fail
  go_region
  go_wp2
  go_ret
  exact ⟨congrArg (fun b => Ending.returned (.bool b)) (str_beq nm tt), grown_drew (World.grownBy_alloc _ _ _)⟩

/-- A group that lies in a row of memory. -/
def GAt (w : World) (g : Nat) (ns : List (List UInt8)) (us : List Value) : Prop :=
  us.length = ns.length ∧ g < w.heap.size ∧ ∀ (i : Nat) (nm : List UInt8) (u : Value), ns[i]? = some nm → us[i]? = some u → w.cell? ⟨g, i * 2, none⟩ = some (.string (B nm)) ∧ w.cell? ⟨g, i * 2 + 1, none⟩ = some u ∧ u.oneCell' = true
theorem GAt.grown {w w' : World} {g : Nat} {ns : List (List UInt8)} {us : List Value} (h : GAt w g ns us) (hg : w.grownBy w' none) : GAt w' g ns us := by
  obtain ⟨h1, h2, h3⟩ := h
  refine ⟨h1, Nat.lt_of_lt_of_le h2 hg.size, fun i nm u e1 e2 => ?_⟩
  obtain ⟨q1, q2, q3⟩ := h3 i nm u e1 e2
  have hb := hg.block g h2 (by simp)
  exact ⟨by rw [World.cell?_of_block (a := ⟨g, i * 2, none⟩) hb]; exact q1, by rw [World.cell?_of_block (a := ⟨g, i * 2 + 1, none⟩) hb]; exact q2, q3⟩

theorem mem_step {l : List (List UInt8)} {j : Nat} {a x : List UInt8} (h : l[j]? = some a) : x ∈ l.take (j + 1) ↔ x ∈ l.take j ∨ x = a := by
  rw [List.take_add_one, h]
  simp

set_option maxRecDepth 100000 in
set_option maxHeartbeats 1000000 in
theorem nofIndex (tt : List UInt8) (g cap bx rb : Nat) (ns : List (List UInt8)) (us : List Value) (w : World) (hn : ns.length ≤ 400) (hg : GAt w g ns us) (hbx : w.cell? ⟨bx, 0, none⟩ = some (.pointer (some ⟨rb, 0, none⟩))) (hbl : bx < w.heap.size) (hc2 : w.cell? ⟨rb, 2, none⟩ = some (.string (B tt))) (hrl : rb < w.heap.size) :
    Calls Tryz.prog 192 #[.slice (some ⟨g, 0, none⟩) ns.length cap, .func (.func 178) #[] #[.pointer (some ⟨bx, 0, none⟩)]] w fun e w' => (∃ k : Int, e = .returned (.int .i64 k) ∧ (0 ≤ k ↔ tt ∈ ns)) ∧ w.grownBy w' none := by
  have HG := hid hg
  clear hg
  go_enter Tryz.func192, Tryz.ntmps192
  go_wp2_with fail
  go_loopg [8] (ns.length + 1) (fun q i wi => ∃ j : Nat, j ≤ ns.length ∧ i = .int .i64 j ∧ q = ns.length - j + 1 ∧ tt ∉ ns.take j ∧ w.grownBy wi none)
  case atStart => exact ⟨0, by omega, rfl, by omega, by simp, World.grownBy.refl _ _⟩
  case round =>
    obtain ⟨j, hj, rfl, hq, hnot, hgr⟩ := hrel
    rename World => wi
    by_cases hlt : j < ns.length
    · obtain ⟨nm, hnm⟩ : ∃ nm, ns[j]? = some nm := ⟨ns[j], List.getElem?_eq_getElem _⟩
      have hul := HG.out.1
      obtain ⟨u, hu⟩ : ∃ u, us[j]? = some u := ⟨us[j]'(by omega), List.getElem?_eq_getElem _⟩
      obtain ⟨c0, c1, hone⟩ := (HG.out.grown hgr).2.2 j nm u hnm hu
      have d0 := hbx
      rw [← World.cell?_of_block (a := ⟨bx, 0, none⟩) (hgr.block bx hbl (by simp))] at d0
      have d2 := hc2
      rw [← World.cell?_of_block (a := ⟨rb, 2, none⟩) (hgr.block rb hrl (by simp))] at d2
      have hj2 : (j : Int) < (ns.length : Int) := by omega
      have HGR := hid hgr
      have HM := hid (mem_step (x := tt) hnm)
      clear hgr
      by_cases he : nm = tt
      · have hb : (nm == tt) = true := by simp [he]
        have hmem : tt ∈ ns := by rw [← he]; exact List.mem_of_getElem? hnm
        clear he
        go_wp2_with (go_at_call 178; refine (nofClosure nm tt u bx rb _ d0 d2).mono ?_; rintro e w' ⟨rfl, g7⟩; rw [hb]; have G7 := hid g7; clear g7)
        go_ret
        exact ⟨⟨(j : Int), rfl, fun _ => hmem, fun _ => Int.natCast_nonneg j⟩, HGR.out.trans G7.out⟩
      · have hb : (nm == tt) = false := by simp [he]
        go_wp2_with (go_at_call 178; refine (nofClosure nm tt u bx rb _ d0 d2).mono ?_; rintro e w' ⟨rfl, g7⟩; rw [hb]; have G7 := hid g7; clear g7)
        go_roundg (ns.length - (j + 1) + 1)
        case measure => omega
        case rel => exact ⟨j + 1, by omega, by go_num, rfl, fun h => ((HM.out).1 h).elim hnot (fun e => he e.symm), HGR.out.trans G7.out⟩
    · have hj3 : j = ns.length := by omega
      subst hj3
      rw [List.take_of_length_le (Nat.le_refl _)] at hnot
      go_wp2
      go_ret
      exact ⟨⟨-1, rfl, by simp [hnot]⟩, hgr⟩

set_option maxRecDepth 100000 in
theorem nameOf_p (w : World) (rb : Nat) (s : ByteArray) (J : Nat) (g cap : Nat) (ns : List (List UInt8)) (us : List Value) (hn : ns.length ≤ 400) (hrd : Rdr w rb s J) (hg : GAt w g ns us) :
    Calls Tryz.prog 145 #[rdV rb, .slice (some ⟨g, 0, none⟩) ns.length cap] w fun e w' => e = .returned (.bool (decide (nxT s.data.toList J ∈ ns))) ∧ w.grownBy w' none := by
  have hmf : ∀ (fn : Fn) (first cap : Array Value) (w : World), (Instr.makeFunc fn first cap).run Tryz.prog w = .ok (.func fn first cap) w := fun _ _ _ _ => rfl
  have hlt := lt_of_block hrd
  obtain ⟨c0, c1, c2, c3, f1, f2, f3⟩ := four_p hrd
  generalize nxT s.data.toList J = tt at *
  have HIX := hid (nofIndex tt g cap w.heap.size rb ns us (w.alloc (.cells #[.pointer (some ⟨rb, 0, none⟩)] 153)) hn (hg.grown (World.grownBy_alloc _ _ _)) (by simp [go_sem]) (by simp) (cell_past c2 _) (by simp; omega))
  clear c0 c1 c2 c3 f1 f2 f3 hrd hg
  unfold rdV
  by_cases hm : tt ∈ ns
  · have hd : decide (tt ∈ ns) = true := by simp [hm]
    rw [hd]
    go_enter Tryz.func145, Tryz.ntmps145
    go_wp2_with (first | (go_at_call 192; refine HIX.out.mono ?_; rintro e w' ⟨⟨k, rfl, hk⟩, g7⟩; have G7 := hid g7; have hk2 := hk.2 hm; clear g7) | go_in)
    go_ret
    exact ⟨rfl, (World.grownBy_alloc _ _ _).trans G7.out⟩
  · have hd : decide (tt ∈ ns) = false := by simp [hm]
    rw [hd]
    go_enter Tryz.func145, Tryz.ntmps145
    go_wp2_with (first | (go_at_call 192; refine HIX.out.mono ?_; rintro e w' ⟨⟨k, rfl, hk⟩, g7⟩; have G7 := hid g7; have hk2 : ¬ 0 ≤ k := fun h => hm (hk.1 h); clear g7) | go_in)
    go_ret
    exact ⟨rfl, (World.grownBy_alloc _ _ _).trans G7.out⟩
end Go.Proofs.YtcdijppegfcoaabGreatDoor

/-
  OUR OWN TEXT. The program's reader: what let rec wants.
-/
namespace Go.Proofs.YtcdijppegfcoaabGreatDoor
open Go.RowKit

theorem binds_bad {E : St → Option (Ex × St)} {T : List Tok} {f : Nat} {x : Ex} {st : St} {y : Ex} {s2 : St} (hb : 0 ≤ st.bad) (h : bindsS E T f x st = some (y, s2)) : s2 = st := by
  cases f with
  | zero => simp [bindsS] at h
  | succ f =>
    rw [bindsS, if_neg (by rw [isS_bad hb]; simp)] at h
    cases h
    rfl
theorem bindCells_len : ∀ (ns : List (List UInt8)) (us : List Value), us.length = ns.length → (bindCells ns us).length = ns.length * 2
  | [], _, _ => rfl
  | _ :: _, [], h => by simp at h
  | n :: ns, u :: us, h => by
    have := bindCells_len ns us (by simpa using h)
    simp [bindCells, this]; omega
theorem bindCells_snoc : ∀ (ns : List (List UInt8)) (us : List Value) (n : List UInt8) (u : Value), us.length = ns.length → bindCells (ns ++ [n]) (us ++ [u]) = bindCells ns us ++ [.string (B n), u]
  | [], [], _, _, _ => rfl
  | [], _ :: _, _, _, h => by simp at h
  | _ :: _, [], _, _, h => by simp at h
  | a :: ns, b :: us, n, u, h => by
    have := bindCells_snoc ns us n u (by simpa using h)
    simp [bindCells, this]
theorem bindCells_get : ∀ (ns : List (List UInt8)) (us : List Value) (i : Nat) (nm : List UInt8) (u : Value), us.length = ns.length → ns[i]? = some nm → us[i]? = some u → (bindCells ns us)[i * 2]? = some (.string (B nm)) ∧ (bindCells ns us)[i * 2 + 1]? = some u
  | [], _, _, _, _, _, h, _ => by simp at h
  | _ :: _, [], _, _, _, h, _, _ => by simp at h
  | a :: ns, b :: us, 0, nm, u, _, h1, h2 => by
    simp at h1 h2
    subst h1 h2
    exact ⟨rfl, rfl⟩
  | a :: ns, b :: us, i + 1, nm, u, h, h1, h2 => by
    have := bindCells_get ns us i nm u (by simpa using h) (by simpa using h1) (by simpa using h2)
    rw [show (i + 1) * 2 = i * 2 + 2 from by omega, show i * 2 + 2 + 1 = i * 2 + 1 + 2 from by omega]
    simpa [bindCells] using this
/-- The values of a group are expressions. -/
def AllX (us : List Value) : Prop := ∀ u, u ∈ us → ∃ t b, u = (.iface t (.pointer (some ⟨b, 0, none⟩)))
theorem own_gat {w : World} {base : Nat} {gv : Value} {ns : List (List UInt8)} {us : List Value} (h : w.ownsRow base 187 2 gv ns.length (bindCells ns us)) (hl : us.length = ns.length) (h0 : 0 < ns.length) (hx : AllX us) :
    ∃ g cap, gv = .slice (some ⟨g, 0, none⟩) ns.length cap ∧ base ≤ g ∧ g < w.heap.size ∧ GAt w g ns us := by
  obtain ⟨_, h2⟩ := h
  rcases h2 with ⟨_, h3⟩ | ⟨g, cap, cur, h1, h2, h3, h4, h5, h6, h7⟩
  · omega
  · refine ⟨g, cap, h1, h2, lt_of_block h3, hl, lt_of_block h3, fun i nm u e1 e2 => ?_⟩
    have hi : i < ns.length := by
      rcases Nat.lt_or_ge i ns.length with h | h
      · exact h
      · rw [List.getElem?_eq_none h] at e1; cases e1
    obtain ⟨q1, q2⟩ := bindCells_get ns us i nm u hl e1 e2
    rw [← h7, List.getElem?_take, if_pos (by omega)] at q1 q2
    obtain ⟨t, b, rfl⟩ := hx u (List.mem_of_getElem? e2)
    refine ⟨?_, ?_, rfl⟩
    · simp only [World.cell?, h3]
      simpa using q1
    · simp only [World.cell?, h3]
      simpa using q2
/-- A name is told from all other tokens. -/
def NmOK (nm : List UInt8) : Prop := (∃ c r, nm = c :: r ∧ low c = true) ∧ nm ∉ exKw
theorem name_ok {l : List UInt8} {T : List Tok} {k J : Nat} (h : At exKw l T k J) (hk : (tk T k).is = kName) : NmOK (tk T k).s := by
  have ha := asked exKw exKw_ok l J h.1
  rw [h.tk] at hk ⊢
  have h1 := ha.name.2 hk
  have h2 := ha.real (by rw [hk]; decide) (by rw [hk]; decide)
  rw [← h2.1]
  exact ⟨ha.isWord h1.1, h1.2⟩
theorem ok_name {l : List UInt8} {T : List Tok} {k J : Nat} (h : At exKw l T k J) (hn : NmOK (nxT l J)) : (tk T k).is = kName := by
  have ha := asked exKw exKw_ok l J h.1
  rw [h.tk]
  obtain ⟨⟨c, r, h1, h2⟩, h3⟩ := hn
  by_cases hk : nxK l J = 2
  · exact ha.name.1 ⟨hk, h3⟩
  · have := ha.notWord hk _ rfl c r h1
    rw [h2] at this
    cases this
theorem info_bind : (Tryz.prog.info? 187).map (fun i => (i.zero, i.size, i.bytes)) = some (some (.agg #[.string (B []), .nilIface]), 2, 32) := by kernel_rfl
theorem info_exp : (Tryz.prog.info? 101).map (fun i => (i.zero, i.size, i.bytes)) = some (some .nilIface, 1, 16) := by kernel_rfl
theorem two_new (w : World) (a b : Value) (t : TypeId) : ∀ (j : Nat) (u : Value), [a, b][j]? = some u → (w.alloc (.cells #[a, b] t)).cell? (Addr.add ⟨w.heap.size, 0, none⟩ j) = some u := by
  intro j u h
  match j, h with
  | 0, h => simp at h; subst h; simp [go_sem]
  | 1, h => simp at h; subst h; simp [go_sem]
  | j + 2, h => simp at h
theorem bind_one (nm : List UInt8) (t b : Nat) : ∀ u, u ∈ [Value.string (B nm), (.iface t (.pointer (some ⟨b, 0, none⟩)))] → u.oneCell' = true := by
  intro u hu
  simp at hu
  rcases hu with rfl | rfl <;> rfl
theorem exp_one (t b : Nat) : ∀ u, u ∈ [((.iface t (.pointer (some ⟨b, 0, none⟩))) : Value)] → u.oneCell' = true := by
  intro u hu
  simp at hu
  subst hu
  rfl
theorem own_first (w : World) (base : Nat) (hb : base ≤ w.heap.size) (nm : List UInt8) (u : Value) : (w.alloc (.cells #[.string (B nm), u] 187)).ownsRow base 187 2 (.slice (some ⟨w.heap.size, 0, none⟩) 1 1) 1 (bindCells [nm] [u]) :=
  ⟨rfl, Or.inr ⟨w.heap.size, 1, #[.string (B nm), u], rfl, hb, heap_alloc_new _ _, by omega, by unfold maxLen; omega, rfl, rfl⟩⟩
theorem own_kept {w w' : World} {rb base e size n : Nat} {v : Value} {xs : List Value} (h : w.ownsRow base e size v n xs) (hk : Kept rb w w') (hr : rb < base) : w'.ownsRow base e size v n xs :=
  own_at h fun k hk' => hk.block k (own_lt h hk').2 (by have := (own_lt h hk').1; simp; omega)
theorem own_grown {w w' : World} {base e size n : Nat} {v : Value} {xs : List Value} (h : w.ownsRow base e size v n xs) (hk : w.grownBy w' none) : w'.ownsRow base e size v n xs :=
  own_at h fun k hk' => hk.block k (own_lt h hk').2 (by simp)
end Go.Proofs.YtcdijppegfcoaabGreatDoor

/-
  OUR OWN TEXT. The program's reader: a group that is being read.
-/
namespace Go.Proofs.YtcdijppegfcoaabGreatDoor
open Go.RowKit

/-- The group so far: gv is its row; us: the values in it. -/
structure RI (T : List Tok) (w wi : World) (rb : Nat) (s : ByteArray) (H : Nat → Option Obj) (k0 : Nat) (gv : Value) (y : Ex) (sy : St) (us : List Value) (Hi : Nat → Option Obj) (m : Nat) : Prop where
  own : wi.ownsRow (w.heap.size + 1) 187 2 gv y.names.length (bindCells y.names us)
  ulen : us.length = y.names.length
  some' : 0 < y.names.length
  allx : AllX us
  free : ∀ k, some k = gv.ownBlock → Hi k = none
  op : y.op = kRec
  klen : y.kids.length = y.names.length
  reps : ∀ (i : Nat) (k : Ex) (u : Value), us[i]? = some u → y.kids[i]? = some k → PRep m Hi u k
  nms : ∀ nm, nm ∈ y.names → NmOK nm
  st : PSt exKw wi rb s T sy
  kept : Kept rb w wi
  fz : Fz Hi wi
  ext : Ext w.heap.size H Hi
  deep : ∀ k, k ∈ y.kids → exDeep m k + k0 + 1 ≤ sy.k
  count : y.names.length + k0 ≤ sy.k
  box : wi.cell? ⟨w.heap.size, 0, none⟩ = some (.pointer (some ⟨rb, 0, none⟩))
  more : w.heap.size < wi.heap.size

theorem RI.rb {T : List Tok} {w wi : World} {rb : Nat} {s : ByteArray} {H : Nat → Option Obj} {k0 : Nat} {gv : Value} {y : Ex} {sy : St} {us : List Value} {Hi : Nat → Option Obj} {m : Nat} (h : RI T w wi rb s H k0 gv y sy us Hi m) (hrb : rb < w.heap.size) (hr : H rb = none) : Hi rb = none := by
  rw [h.ext.2 rb hrb]
  exact hr
theorem RI.step {T : List Tok} {w wi w' : World} {rb : Nat} {s : ByteArray} {H : Nat → Option Obj} {k0 : Nat} {gv : Value} {y : Ex} {sy sy' : St} {us : List Value} {Hi : Nat → Option Obj} {m : Nat} (h : RI T w wi rb s H k0 gv y sy us Hi m)
    (hk : Kept rb wi w') (hp : PSt exKw w' rb s T sy') (hle : sy.k ≤ sy'.k) (hrb : rb < w.heap.size) (hr : H rb = none) : RI T w w' rb s H k0 gv y sy' us Hi m :=
  ⟨own_kept h.own hk (by omega), h.ulen, h.some', h.allx, h.free, h.op, h.klen, h.reps, h.nms, hp, h.kept.trans hk, h.fz.kept hk (h.rb hrb hr), h.ext, fun k hk' => by have := h.deep k hk'; omega, by have := h.count; omega,
    by rw [kept_cell hk h.more (by omega)]; exact h.box, Nat.lt_of_lt_of_le h.more hk.size⟩
theorem RI.grown {T : List Tok} {w wi w' : World} {rb : Nat} {s : ByteArray} {H : Nat → Option Obj} {k0 : Nat} {gv : Value} {y : Ex} {sy : St} {us : List Value} {Hi : Nat → Option Obj} {m : Nat} (h : RI T w wi rb s H k0 gv y sy us Hi m)
    (hg : wi.grownBy w' none) (hrb : rb < w.heap.size) (hr : H rb = none) : RI T w w' rb s H k0 gv y sy us Hi m :=
  h.step (Kept.of0 rb hg) (h.st.grown hg) (Nat.le_refl _) hrb hr

/-- The first of the group. -/
theorem RI.start {T : List Tok} {w w1 : World} {rb : Nat} {s : ByteArray} {H : Nat → Option Obj} {st s1 : St} {t b : TypeId} {H1 : Nat → Option Obj} {m : Nat} {x : Ex} (p : Nat) (hrb : rb < w.heap.size) (hnm : NmOK (tk T st.k).s)
    (hk : Kept rb (w.alloc (.cells #[.pointer (some ⟨rb, 0, none⟩)] 153)) w1) (hp : PSt exKw w1 rb s T s1) (hz : Fz H1 w1) (he : Ext (w.alloc (.cells #[.pointer (some ⟨rb, 0, none⟩)] 153)).heap.size H H1) (hx : PRep m H1 (.iface t (.pointer (some ⟨b, 0, none⟩))) x) (hd : exDeep m x + st.k + 2 ≤ s1.k) :
    RI T w (w1.alloc (.cells #[.string (B (tk T st.k).s), (.iface t (.pointer (some ⟨b, 0, none⟩)))] 187)) rb s H st.k (.slice (some ⟨w1.heap.size, 0, none⟩) 1 1) ⟨kRec, [(tk T st.k).s], [x], p⟩ s1 [(.iface t (.pointer (some ⟨b, 0, none⟩)))] H1 m := by
  have hs : w.heap.size + 1 ≤ w1.heap.size := by have := hk.size; simp at this; omega
  refine ⟨own_first w1 _ hs _ _, rfl, by simp, fun u hu => by simp at hu; exact ⟨t, b, hu⟩, fun k hk' => ?_, rfl, rfl, fun i k u h1 h2 => ?_, fun nm hn => by simp at hn; rw [hn]; exact hnm, hp.alloc _, (((Kept.refl rb w).alloc (.cells #[.pointer (some ⟨rb, 0, none⟩)] 153)).trans hk).alloc _, hz.alloc _, he.from (by simp), fun k hk' => ?_, ?_, ?_, by simp; omega⟩
  · simp [Value.ownBlock] at hk'
    subst hk'
    exact hz.none (Nat.le_refl _)
  · cases i with
    | zero => simp at h1 h2; subst h1 h2; exact hx
    | succ i => simp at h1
  · simp at hk'
    subst hk'
    omega
  · have := deep_pos hx
    simp
    omega
  · refine cell_past ?_ _
    rw [kept_cell hk (by simp) (by omega)]
    simp [go_sem]

/-- One more of the group. -/
theorem RI.add {T : List Tok} {w wi w5 w6 : World} {rb : Nat} {s : ByteArray} {H : Nat → Option Obj} {k0 : Nat} {gv : Value} {y : Ex} {sy s4 : St} {us : List Value} {Hi : Nat → Option Obj} {m : Nat} (h : RI T w wi rb s H k0 gv y sy us Hi m) (hrb : rb < w.heap.size)
    {t b : TypeId} {H' : Nat → Option Obj} {m' : Nat} {x : Ex} {nm : List UInt8} (hnm : NmOK nm) (hk : Kept rb wi w5) (hp : PSt exKw w5 rb s T s4) (hz : Fz H' w5) (he : Ext wi.heap.size Hi H') (hx : PRep m' H' (.iface t (.pointer (some ⟨b, 0, none⟩))) x) (hd : exDeep m' x + sy.k + 2 ≤ s4.k)
    {g cap : Nat} (hown : w6.ownsRow (w.heap.size + 1) 187 2 (.slice (some ⟨g, 0, none⟩) (y.names.length + 1) cap) (y.names.length + 1) (bindCells y.names us ++ [.string (B nm), (.iface t (.pointer (some ⟨b, 0, none⟩)))]))
    (hg : (w5.alloc (.cells #[.string (B nm), (.iface t (.pointer (some ⟨b, 0, none⟩)))] 187)).grownBy w6 gv.ownBlock) (hat : gv.ownBlock = some g ∨ g = w5.heap.size + 1) :
    RI T w w6 rb s H k0 (.slice (some ⟨g, 0, none⟩) (y.names.length + 1) cap) ⟨y.op, y.names ++ [nm], y.kids ++ [x], y.pos⟩ s4 (us ++ [(.iface t (.pointer (some ⟨b, 0, none⟩)))]) H' (max m m') := by
  have hsz : wi.heap.size ≤ w5.heap.size := hk.size
  have hmore := h.more
  have glt : ∀ k, some k = gv.ownBlock → w.heap.size + 1 ≤ k ∧ k < wi.heap.size := fun k e => own_lt h.own e
  have same : ∀ k, k < w5.heap.size → some k ≠ gv.ownBlock → w6.heap[k]? = w5.heap[k]? := fun k h1 h2 => by
    rw [hg.block k (by simp; omega) h2, Below.heap_alloc _ _ _ h1]
  have hfree' : ∀ k, some k = gv.ownBlock → H' k = none := fun k e => by
    rw [he.2 k (glt k e).2]
    exact h.free k e
  have hs6 : w5.heap.size ≤ w6.heap.size := by have := hg.size; simp at this; omega
  refine ⟨?_, by simp [h.ulen], by simp, ?_, ?_, h.op, by simp [h.klen], ?_, ?_, ?_, ?_, ?_, h.ext.trans he (Nat.le_of_lt hmore), ?_, ?_, ?_, by omega⟩
  · rw [List.length_append, bindCells_snoc _ _ _ _ h.ulen]
    exact hown
  · intro u hu
    rcases List.mem_append.1 hu with hu | hu
    · exact h.allx u hu
    · simp at hu; exact ⟨t, b, hu⟩
  · intro k e
    simp [Value.ownBlock] at e
    subst e
    rcases hat with hat | hat
    · exact hfree' _ hat.symm
    · exact hz.none (by omega)
  · intro i k u h1 h2
    rcases Nat.lt_or_ge i us.length with hi | hi
    · rw [List.getElem?_append_left hi] at h1
      rw [List.getElem?_append_left (by rw [h.klen, ← h.ulen]; exact hi)] at h2
      exact (PRep.ext he _ _ _ (h.reps i k u h1 h2)).le (by omega)
    · rw [List.getElem?_append_right hi] at h1
      rw [List.getElem?_append_right (by rw [h.klen, ← h.ulen]; exact hi)] at h2
      rw [h.klen, ← h.ulen] at h2
      cases e : i - us.length with
      | zero =>
        rw [e] at h1 h2
        simp at h1 h2
        subst h1 h2
        exact hx.le (by omega)
      | succ j => rw [e] at h1; simp at h1
  · intro n hn
    rcases List.mem_append.1 hn with hn | hn
    · exact h.nms n hn
    · simp at hn; rw [hn]; exact hnm
  · obtain ⟨q1, ⟨J, q2, q3⟩, q4⟩ := hp
    exact ⟨q1, ⟨J, q2, by unfold Rdr; rw [same rb (lt_of_block q3) (fun e => by have := (glt rb e).1; omega)]; exact q3⟩, q4⟩
  · have k1 := h.kept.trans hk
    exact ⟨hg.os.trans k1.os, hg.tape.trans k1.tape, hg.output.trans k1.output, by have := k1.size; omega, fun k hk' hn => by
      rw [same k (by omega) (fun e => by have := (glt k e).1; omega)]
      exact k1.block k hk' hn⟩
  · intro k o e
    rw [same k (hz.lt e) (fun e' => by rw [hfree' k e'] at e; cases e)]
    exact hz k o e
  · intro k hk'
    rcases List.mem_append.1 hk' with hk' | hk'
    · obtain ⟨i, hi, rfl⟩ := List.mem_iff_getElem.1 hk'
      have hui : i < us.length := by rw [h.ulen, ← h.klen]; exact hi
      have hr := h.reps i (y.kids[i]) (us[i]) (List.getElem?_eq_getElem hui) (List.getElem?_eq_getElem hi)
      rw [deep_le (PRep.shape _ _ _ hr) (show m ≤ max m m' by omega)]
      have := h.deep _ hk'
      omega
    · simp at hk'
      subst hk'
      rw [deep_le (PRep.shape _ _ _ hx) (show m' ≤ max m m' by omega)]
      have := h.count
      have := h.some'
      omega
  · have := h.count
    have := deep_pos hx
    simp
    omega
  · rw [World.cell?_of_block (a := ⟨w.heap.size, 0, none⟩) (same w.heap.size (by omega) (fun e => by have := (glt _ e).1; omega)), kept_cell hk hmore (by omega)]
    exact h.box
end Go.Proofs.YtcdijppegfcoaabGreatDoor

/-
  OUR OWN TEXT. The program's reader: let rec.
-/
namespace Go.Proofs.YtcdijppegfcoaabGreatDoor
open Go.RowKit

theorem twice_same {names : List (List UInt8)} {nm : List UInt8} {p : Nat} {st : St} (h : ¬ (nm ∈ names ∧ st.bad < 0)) : twiceS names nm p st = st := by
  unfold twiceS
  rw [if_neg h]

theorem own_exp1 (w : World) (u : Value) : (w.alloc (.cells #[u] 101)).ownsRow w.heap.size 101 1 (.slice (some ⟨w.heap.size, 0, none⟩) 1 1) 1 [u] :=
  ⟨rfl, Or.inr ⟨w.heap.size, 1, #[u], rfl, Nat.le_refl _, heap_alloc_new _ _, by omega, by unfold maxLen; omega, rfl, rfl⟩⟩
theorem grown_own {a b c : World} {row : Option Nat} (h : a.grownBy b none) (hg : b.grownBy c row) (hr : ∀ k, some k = row → a.heap.size ≤ k) : a.grownBy c none :=
  ⟨hg.os.trans h.os, hg.tape.trans h.tape, hg.output.trans h.output, Nat.le_trans h.size hg.size, fun k hk hn => by
    rw [hg.block k (Nat.lt_of_lt_of_le hk h.size) (fun e => by have := hr k e; omega)]
    exact h.block k hk hn⟩
theorem own_row {w : World} {base n : Nat} {v : Value} {xs : List Value} (h : w.ownsRow base 101 1 v n xs) (h0 : 0 < n) : ∃ g cap, v = .slice (some ⟨g, 0, none⟩) n cap ∧ g < w.heap.size ∧ ∀ (i : Nat) (u : Value), xs[i]? = some u → w.cell? ⟨g, i, none⟩ = some u := by
  obtain ⟨h1, h2⟩ := h
  rcases h2 with ⟨_, h3⟩ | ⟨g, cap, cur, e1, e2, e3, e4, e5, e6, e7⟩
  · omega
  · refine ⟨g, cap, e1, lt_of_block e3, fun i u hu => ?_⟩
    rw [← e7, List.getElem?_take] at hu
    split at hu
    · simp only [World.cell?, e3]
      simpa using hu
    · cases hu
theorem maxl_cons (a : Nat) (l : List Nat) : maxl (a :: l) = maxl (l ++ [a]) := by
  rw [maxl_snoc]
  unfold maxl
  rw [List.foldl_cons, foldl_max]
  omega
theorem maxl_le {l : List Nat} {b : Nat} (h : ∀ a, a ∈ l → a ≤ b) : maxl l ≤ b := by
  induction l with
  | nil => simp [maxl]
  | cons a l ih =>
    rw [maxl_cons, maxl_snoc]
    have := ih (fun x hx => h x (List.mem_cons_of_mem _ hx))
    have := h a (List.mem_cons_self ..)
    omega

set_option maxRecDepth 100000 in
set_option maxHeartbeats 8000000 in
theorem letRec_p (T : List Tok) (n : Nat) (hl : T.length ≤ 400) (hE : EXPP T n) (w : World) (rb : Nat) (s : ByteArray) (H : Nat → Option Obj) (st : St) (x y b : Ex) (s1 s2 s3 : St) (p : Nat)
    (hx : boundS (expS T n) T ⟨kRec, [], [], p⟩ st = some (x, s1)) (hy : bindsS (expS T n) T (T.length + 1) x s1 = some (y, s2)) (hw : expS T n (needS T s2 kIn) = some (b, s3)) (h : PSt exKw w rb s T st) (hz : Fz H w) (hr : H rb = none) :
    Calls Tryz.prog 112 #[rdV rb] w fun e w' => EOut w w' rb s T H st.k s3 e ⟨y.op, y.names, y.kids ++ [b], y.pos⟩ := by
  have hlt := h.lt
  have HP := hid (h.alloc (.cells #[.pointer (some ⟨rb, 0, none⟩)] 153))
  have HZ := hid (hz.alloc (.cells #[.pointer (some ⟨rb, 0, none⟩)] 153))
  have HE := hid hE
  have K0 := hid ((Kept.refl rb w).alloc (.cells #[.pointer (some ⟨rb, 0, none⟩)] 153))
  have F2 := hid (show 0 ≤ s2.bad → s3 = s2 from fun hb => by
    have e := exp_bad_st (by rw [need_bad hb]; exact hb) hw
    rw [e, need_bad hb])
  have F3 := hid (show 0 ≤ (needS T s2 kIn).bad → s3 = needS T s2 kIn from fun hb => exp_bad_st hb hw)
  unfold boundS at hx
  rw [twice_same (by simp)] at hx
  dsimp only at hx
  cases hex : expS T n (needS T (needS T st kName) kEq) with
  | none => rw [hex] at hx; cases hx
  | some q =>
  obtain ⟨a, s1'⟩ := q
  rw [hex] at hx
  cases hx
  have HX := hid hex
  have HY := hid hy
  have HW := hid hw
  obtain ⟨J0, hat0, _⟩ := h.place
  have HNM := hid (show (tk T st.k).is = kName → NmOK (tk T st.k).s from fun e => name_ok hat0 e)
  have hnegs := h.neg
  clear h hz hE hex hy hw hat0
  unfold rdV
  go_enter Tryz.func112, Tryz.ntmps112
  go_wp2_with fail
  refine (bind_p T n HE.out _ rb s H st a s1 HX.out HP.out HZ.out hr).mono ?_
  rintro e w1 ⟨k1, (⟨t1, b1, H1, m1, ht1, rfl, p1, z1, e1, r1, d1⟩ | ⟨hb, bb, rfl, hrf⟩)⟩
  case inr =>
    have e4 := binds_bad hb HY.out
    have e5 := F2.out (by rw [e4]; exact hb)
    rw [e4] at e5
    unfold refusal
    go_wp2
    exact ⟨rfl, K0.out.trans k1, Or.inr ⟨by rw [e5]; exact hb, bb, rfl, by rw [e5]; exact hrf⟩⟩
  case inl =>
  have hnm0 : (needS T st kName).bad < 0 := by
    rcases Int.lt_or_le (needS T st kName).bad 0 with h | h
    · exact h
    · have e3 : needS T (needS T st kName) kEq = needS T st kName := need_bad h
      have e4 := exp_bad_st (by rw [e3]; exact h) HX.out
      have := p1.neg
      rw [e4, e3] at this
      omega
  have hnmk : (tk T st.k).is = kName := by
    cases hi : isS T st kName with
    | true => exact isS_is hi
    | false =>
      rw [need_no hnegs hi] at hnm0
      simp at hnm0
      omega
  have RI0 := hid (RI.start (T := T) (st := st) p hlt (HNM.out hnmk) k1 p1 z1 e1 r1 d1)
  have hw1 : w.heap.size < w1.heap.size := by have := k1.size; simp at this; omega
  have bx1 : w1.cell? ⟨w.heap.size, 0, none⟩ = some (.pointer (some ⟨rb, 0, none⟩)) := by
    rw [kept_cell k1 (by simp) (by omega)]
    simp [go_sem]
  clear k1 p1 z1 e1 r1 d1 hnm0 hnmk HNM HP HZ K0
  go_wp2_with fail
  go_loopg [3] (T.length + 1) (fun g v wi => ∃ yy sy us Hi m, Hid (bindsS (expS T n) T g yy sy = some (y, s2)) ∧ Hid (RI T w wi rb s H st.k v yy sy us Hi m))
  case atStart => exact ⟨_, _, _, _, _, HY, RI0⟩
  case round =>
    obtain ⟨yy, sy, us, Hi, m, BB, RR⟩ := hrel
    rename World => w2
    obtain ⟨F, rfl⟩ : ∃ F, gk = F + 1 := by
      cases gk with
      | zero => have := BB.out; simp [bindsS] at this
      | succ F => exact ⟨F, rfl⟩
    have bx2 := RR.out.box
    go_wp2_with fail
    refine (skips_p exKw exKw_ok _ rb s T sy kAnd RR.out.st (Or.inl (by decide))).mono ?_
    rintro e w3 ⟨rfl, p3, k3⟩
    have e4 := BB.out
    rw [bindsS] at e4
    cases hi : isS T sy kAnd with
    | false =>
      rw [if_neg (by rw [hi]; simp)] at e4
      cases e4
      rw [take_no hi] at p3
      have R3 := hid (RR.out.step k3 p3 (Nat.le_refl _) hlt hr)
      have bx3 := R3.out.box
      clear hi p3 k3 BB RR RI0 HY bx2
      go_wp2_with fail
      refine (must_p exKw exKw_ok _ rb s T s2 kIn R3.out.st (Or.inl (by decide))).mono ?_
      rintro e w4 ⟨k4, (⟨rfl, p4⟩ | ⟨hb, bb, rfl, hrf⟩)⟩
      case inr =>
        have e5 := F3.out hb
        unfold refusal
        go_wp2
        exact ⟨rfl, R3.out.kept.trans k4, Or.inr ⟨by rw [e5]; exact hb, bb, rfl, by rw [e5]; exact hrf⟩⟩
      case inl =>
      have R4 := hid (R3.out.step k4 p4 need_k hlt hr)
      have bx4 := R4.out.box
      clear R3 bx3 k4 p4
      go_wp2_with fail
      refine (HE.out _ rb s Hi _ b s3 HW.out R4.out.st R4.out.fz (R4.out.rb hlt hr)).mono ?_
      rintro e w5 ⟨k5, (⟨v5, H5, m5, rfl, p5, z5, e5, r5, d5⟩ | ⟨hb, bb, rfl, hrf⟩)⟩
      case inr =>
        unfold refusal
        go_wp2
        exact ⟨rfl, R4.out.kept.trans k5, Or.inr ⟨hb, bb, rfl, hrf⟩⟩
      case inl =>
      obtain ⟨t5, b5, ht5, rfl, hb5, hc5⟩ := r5.dat z5
      have own5 := own_kept R4.out.own k5 (by omega)
      obtain ⟨g, cap, rfl, hg1, hg2, hga⟩ := own_gat own5 R4.out.ulen R4.out.some' R4.out.allx
      have hnl : y.names.length ≤ 400 := by have := R4.out.count; have := R4.out.st.klt; omega
      have hul := R4.out.ulen
      have hs5 : w.heap.size < w5.heap.size := Nat.lt_of_lt_of_le R4.out.more k5.size
      have Q5 := hid (And.intro k5 (And.intro p5 (And.intro z5 (And.intro e5 (And.intro r5 d5)))))
      have GA := hid hga
      have O5 := hid own5
      obtain ⟨i1, hi, hz0, hz1, hz2⟩ := info_parts info_exp
      clear k5 p5 z5 e5 r5 d5 hb5 hc5 own5 hga bx4
      go_wp2_with fail
      go_loopg [5, 34] (y.names.length + 1) (fun q bv i wi => ∃ j : Nat, j ≤ y.names.length ∧ i = .int .i64 j ∧ q = y.names.length - j + 1 ∧ Hid (wi.ownsRow w5.heap.size 101 1 bv (j + 1) ((.iface t5 (.pointer (some ⟨b5, 0, none⟩))) :: us.take j)) ∧ Hid (w5.grownBy wi none))
      case atStart => exact ⟨0, by omega, rfl, by omega, own_exp1 _ _, World.grownBy_alloc _ _ _⟩
      case round =>
        obtain ⟨j, hj, rfl, hq, OW, GR⟩ := hrel
        rename World => w6
        by_cases hlt6 : j < y.names.length
        · obtain ⟨nm, hnm⟩ : ∃ nm, y.names[j]? = some nm := ⟨y.names[j], List.getElem?_eq_getElem _⟩
          obtain ⟨u, hu⟩ : ∃ u, us[j]? = some u := ⟨us[j]'(by omega), List.getElem?_eq_getElem _⟩
          obtain ⟨c0, c1, _⟩ := (GA.out.grown GR.out).2.2 j nm u hnm hu
          obtain ⟨t6, b6, rfl⟩ := R4.out.allx u (List.mem_of_getElem? hu)
          have hj2 : (j : Int) < (y.names.length : Int) := by omega
          have own6 := OW.out
          have HU := hid hu
          have hs6 : w5.heap.size ≤ w6.heap.size := GR.out.size
          clear hu
          go_wp2_with (at_builtin; refine wpList_append_lies _ rfl (.tmp 38) (.tmp 41) 303 rfl w5.heap.size 101 i1 .nilIface 1 16 Tryz.underlying303 hi hz0 hz1 hz2 rfl (by decide) _ _ _ rfl ((own6.alloc _).alloc _) ⟨w6.heap.size + 1, 0, none⟩ 1 1 [(.iface t6 (.pointer (some ⟨b6, 0, none⟩)))] rfl rfl ?d1 ?d2 (by decide) ?d3 ?d4 ?d5 (w6.heap.size + 2) ?d6 ?_)
          case d1 =>
            intro q uu hq'
            have := one_new (w6.alloc (.cells #[.string (B nm), (.iface t6 (.pointer (some ⟨b6, 0, none⟩)))] 187)) (.iface t6 (.pointer (some ⟨b6, 0, none⟩))) 101 q uu hq'
            simpa using this
          case d2 => exact exp_one _ _
          case d3 => unfold maxLen; omega
          case d4 => omega
          case d5 => simp; omega
          case d6 => simp
          intro g7 cap7 w7 hown7 hgrow7 _ _
          have ON := hid hown7
          have GN := hid (grown_own ((GR.out.trans (World.grownBy_alloc _ _ _)).trans (World.grownBy_alloc _ _ _)) hgrow7 (fun k e => (own_lt own6 e).1))
          clear hown7 hgrow7 own6 c0 c1
          go_wp2_with fail
          go_roundg (y.names.length - (j + 1) + 1)
          case measure => omega
          case rel =>
            refine ⟨j + 1, by omega, by go_num, rfl, ?_, GN⟩
            have e : us.take (j + 1) = us.take j ++ [(.iface t6 (.pointer (some ⟨b6, 0, none⟩)))] := by rw [List.take_add_one, HU.out]; rfl
            rw [e]
            exact ON
        · have hj3 : j = y.names.length := by omega
          subst hj3
          have own6 := OW.out
          rw [List.take_of_length_le (by omega)] at own6
          obtain ⟨g6, cap6, rfl, hg6, hrow6⟩ := own_row own6 (by omega)
          have ulen := R4.out.ulen
          have klen := R4.out.klen
          have hs6 : w5.heap.size ≤ w6.heap.size := GR.out.size
          obtain ⟨M, hM⟩ : ∃ M, M = max m m5 := ⟨_, rfl⟩
          obtain ⟨k5, p5, z5, e5, r5, d5⟩ := Q5.out
          have hs3 := p5.klt
          have RB : Hid (PRep M H5 (.iface t5 (.pointer (some ⟨b5, 0, none⟩))) b) := r5.le (by omega)
          have RK : Hid (∀ (i : Nat) (k : Ex) (u : Value), us[i]? = some u → y.kids[i]? = some k → PRep M H5 u k) := fun i k u h1 h2 => (PRep.ext e5 _ _ _ (R4.out.reps i k u h1 h2)).le (by omega)
          have Z6 := hid (z5.grown GR.out)
          have hnk : (needS T s2 kIn).k = s2.k + 1 := need_good R4.out.st.neg
          have DK : Hid (∀ k, k ∈ y.kids → exDeep M k + st.k + 1 ≤ s3.k) := fun k hk => by
            obtain ⟨i, hi, rfl⟩ := List.mem_iff_getElem.1 hk
            have hui : i < us.length := by omega
            have hr' := R4.out.reps i (y.kids[i]) (us[i]) (List.getElem?_eq_getElem hui) (List.getElem?_eq_getElem hi)
            rw [deep_le (PRep.shape _ _ _ hr') (show m ≤ M by omega)]
            have := R4.out.deep _ hk
            have := deep_pos r5
            omega
          have DB : Hid (exDeep M b + st.k + 1 ≤ s3.k) := by
            show exDeep M b + st.k + 1 ≤ s3.k
            rw [deep_le (PRep.shape _ _ _ r5) (show m5 ≤ M by omega)]
            have := R4.out.count
            have := R4.out.some'
            omega
          have hml : maxl (exDeep M b :: y.kids.map (exDeep M)) + 1 + st.k ≤ s3.k := by
            have : maxl (exDeep M b :: y.kids.map (exDeep M)) ≤ s3.k - st.k - 1 := maxl_le fun a ha => by
              rcases List.mem_cons.1 ha with rfl | ha
              · have := DB.out; omega
              · obtain ⟨k, hk, rfl⟩ := List.mem_map.1 ha
                have := DK.out k hk
                omega
            have := DB.out
            omega
          have AB := above_p w6 (some ⟨g6, 0, none⟩) cap6 ((.iface t5 (.pointer (some ⟨b5, 0, none⟩))) :: us) (exDeep M b :: y.kids.map (exDeep M)) (by simp; omega) (by simp; omega) (fun i u hu => ⟨g6, rfl, hg6, hrow6 i u hu⟩)
            (fun i u d h1 h2 => by
              cases i with
              | zero => simp at h1 h2; subst h1 h2; exact RB.out.dat Z6.out
              | succ i =>
                simp only [List.getElem?_cons_succ, List.getElem?_map, Option.map_eq_some_iff] at h1 h2
                obtain ⟨k, hk, rfl⟩ := h2
                exact (RK.out i k u h1 hk).dat Z6.out) (by omega)
          have hln : ((.iface t5 (.pointer (some ⟨b5, 0, none⟩))) :: us).length = y.names.length + 1 := by simp [ulen]
          rw [hln] at AB
          obtain ⟨_, hO⟩ := O5.out
          rcases hO with ⟨hO, _⟩ | ⟨gg, cc, cur, hO1, hO2, hO3, hO4, hO5, hO6, hO7⟩
          · cases hO
          cases hO1
          have hfree : H5 g = none := by
            rw [e5.2 g (own_lt R4.out.own (k := g) rfl).2]
            exact R4.out.free g rfl
          have CUR := hid (And.intro hO3 (And.intro hO7 hfree))
          have ABH := hid AB
          have HML := hid hml
          have K5 := hid (R4.out.kept.trans k5)
          have P5 := hid p5
          have E5 := hid (R4.out.ext.trans (e5.from (n := w.heap.size) (Nat.le_of_lt R4.out.more)) (Nat.le_refl _))
          have hop := hid R4.out.op
          have hsm := hid R4.out.some'
          clear AB hO3 hO7 hfree hml own6 hrow6 k5 p5 z5 e5 r5 d5 hM hO2 hO4 hO5 hO6
          go_wp2_with fail
          refine ABH.out.mono ?_
          rintro e w8 ⟨rfl, g8⟩
          have G8 := hid g8
          have hs8 : w6.heap.size ≤ w8.heap.size := g8.size
          clear g8
          go_wp2
          go_ret
          obtain ⟨hO3, hO7, hfree⟩ := CUR.out
          have hgl : g < w5.heap.size := lt_of_block hO3
          have blk : w8.heap[g]? = some (.cells cur 187 (0, 0)) := by
            rw [G8.out.block g (by omega) (by simp), GR.out.block g hgl (by simp)]
            exact hO3
          have ext6 : Ext w.heap.size H5 (Fz.more H5 g (.cells cur 187 (0, 0))) := (Ext.refl _ _).add (by omega) hfree
          have z8 : Fz (Fz.more H5 g (.cells cur 187 (0, 0))) w8 := (Z6.out.grown G8.out).add blk
          have hdep : exDeep (M + 1) ⟨kRec, y.names, y.kids ++ [b], y.pos⟩ = maxl (exDeep M b :: y.kids.map (exDeep M)) + 1 := by
            show maxl ((y.kids ++ [b]).map (exDeep M)) + 1 = _
            rw [List.map_append, maxl_cons]
            rfl
          rw [hop.out]
          obtain ⟨H9, z9, x9, r9⟩ := node_rep (w := w8) z8 ⟨kRec, y.names, y.kids ++ [b], y.pos⟩ (us ++ [(.iface t5 (.pointer (some ⟨b5, 0, none⟩)))]) M (.cells #[.int .i64 ((maxl (exDeep M b :: y.kids.map (exDeep M)) + 1 : Nat) : Int), .slice (some ⟨g, 0, none⟩) y.names.length cap, (.iface t5 (.pointer (some ⟨b5, 0, none⟩)))] 194) (by simp; omega)
            (fun i k u h1 h2 => by
              rcases Nat.lt_or_ge i us.length with hi | hi
              · rw [List.getElem?_append_left hi] at h1
                rw [List.getElem?_append_left (by omega)] at h2
                exact PRep.ext ext6 _ _ _ (RK.out i k u h1 h2)
              · rw [List.getElem?_append_right hi] at h1
                rw [List.getElem?_append_right (by omega), klen, ← ulen] at h2
                cases e : i - us.length with
                | zero =>
                  rw [e] at h1 h2
                  simp at h1 h2
                  subst h1 h2
                  exact PRep.ext ext6 _ _ _ RB.out
                | succ q => rw [e] at h1; simp at h1)
            (fun H' hx h2 => by
              rw [hdep]
              exact Or.inr (Or.inr (Or.inr (Or.inr (Or.inr (Or.inl ⟨rfl, us, (.iface t5 (.pointer (some ⟨b5, 0, none⟩))), _, hsm.out, ulen, by simp [klen], rfl, ⟨g, cap, cur, rfl, hx.1 _ _ (Fz.more_same _ _ _), hO7⟩, h2⟩))))))
          refine ⟨((K5.out.trans (Kept.of0 rb GR.out)).trans (Kept.of0 rb G8.out)).alloc _, Or.inl ⟨_, H9, M + 1, rfl, ((P5.out.grown GR.out).grown G8.out).alloc _, z9, (E5.out.trans ext6 (Nat.le_refl _)).trans x9 (by omega), r9, ?_⟩⟩
          rw [hdep]
          exact HML.out
    | true =>
      rw [if_pos ⟨RR.out.op, hi⟩] at e4
      rw [take_yes hi] at p3
      have hupk : sy.up.k = sy.k + 1 := rfl
      have R3 := hid (RR.out.step k3 p3 (by rw [hupk]; omega) hlt hr)
      clear hi p3 k3 BB RR RI0 HY bx2
      obtain ⟨g, cap, rfl, hg1, hg2, hga⟩ := own_gat R3.out.own R3.out.ulen R3.out.some' R3.out.allx
      obtain ⟨J, hat, hrd⟩ := R3.out.st.place
      have bx3 := R3.out.box
      have hcnt := R3.out.count
      have hklt := R3.out.st.klt
      have hpos := (asked exKw exKw_ok s.data.toList J hat.1).pos
      rw [← hat.tk] at hpos
      have NO := hid (nameOf_p w3 rb s J g cap yy.names us (by omega) hrd hga)
      unfold boundS at e4
      go_wp2_with fail
      refine NO.out.mono ?_
      rintro e w4 ⟨rfl, g4⟩
      by_cases hm : nxT s.data.toList J ∈ yy.names
      · have hd : decide (nxT s.data.toList J ∈ yy.names) = true := by simp [hm]
        have hk := ok_name hat (R3.out.nms _ hm)
        have hre := (asked exKw exKw_ok s.data.toList J hat.1).real (by rw [← hat.tk, hk]; decide) (by rw [← hat.tk, hk]; decide)
        rw [← hat.tk] at hre
        have hys : isS T sy.up kName = true := by simp [isS, R3.out.st.neg, hk]
        have htw : twiceS yy.names (tk T sy.up.k).s (tk T sy.up.k).pos (needS T sy.up kName) = ⟨sy.up.k + 1, ((tk T sy.up.k).pos : Int)⟩ := by
          unfold twiceS
          rw [need_yes hys, take_yes hys, if_pos ⟨by rw [← hre.1]; exact hm, R3.out.st.neg⟩]
          rfl
        rw [htw] at e4
        have hbad : (0 : Int) ≤ (⟨sy.up.k + 1, ((tk T sy.up.k).pos : Int)⟩ : St).bad := by simp
        rw [need_bad hbad] at e4
        have S3 : Hid (s3.bad = (J : Int)) := by
          cases hq : expS T n ⟨sy.up.k + 1, ((tk T sy.up.k).pos : Int)⟩ with
          | none => rw [hq] at e4; cases e4
          | some q =>
            obtain ⟨c, s4⟩ := q
            rw [hq] at e4
            have e5 := exp_bad_st hbad hq
            rw [e5] at e4
            dsimp only at e4
            have e6 := binds_bad hbad e4
            have e7 := F2.out (by rw [e6]; exact hbad)
            show s3.bad = (J : Int)
            rw [e7, e6]
            show ((tk T sy.up.k).pos : Int) = (J : Int)
            rw [hpos]
        have K4 := hid (R3.out.kept.trans (Kept.of0 rb g4))
        have bx4 : w4.cell? ⟨w.heap.size, 0, none⟩ = some (.pointer (some ⟨rb, 0, none⟩)) := by
          rw [World.cell?_of_block (a := ⟨w.heap.size, 0, none⟩) (g4.block w.heap.size R3.out.more (by simp))]
          exact bx3
        have RF := hid (refuse_p w4 rb s J (hrd.grown g4))
        rw [hd]
        clear g4 hm hd hk hre hys htw hbad e4 hpos hga hat hrd NO bx3
        go_wp2_with fail
        refine RF.out.mono ?_
        rintro e w5 ⟨⟨bb, rfl, hbb⟩, g5⟩
        have HB := hid hbb
        have G5 := hid g5
        clear hbb g5
        unfold refusal
        go_wp2
        exact ⟨rfl, K4.out.trans (Kept.of0 rb G5.out), Or.inr ⟨by rw [S3.out]; simp, bb, rfl, by rw [S3.out]; exact HB.out⟩⟩
      · have hd : decide (nxT s.data.toList J ∈ yy.names) = false := by simp [hm]
        have hgood : (needS T sy.up kName).bad < 0 → (tk T sy.up.k).is = kName := by
          intro hh
          cases hi : isS T sy.up kName with
          | true => exact isS_is hi
          | false =>
            rw [need_no R3.out.st.neg hi] at hh
            simp at hh
            omega
        have hno : ¬ ((tk T sy.up.k).s ∈ yy.names ∧ (needS T sy.up kName).bad < 0) := by
          rintro ⟨h1, h2⟩
          have hk := hgood h2
          have hre := (asked exKw exKw_ok s.data.toList J hat.1).real (by rw [← hat.tk, hk]; decide) (by rw [← hat.tk, hk]; decide)
          rw [← hat.tk] at hre
          rw [← hre.1] at h1
          exact hm h1
        rw [twice_same hno] at e4
        have R4 := hid (R3.out.grown g4 hlt hr)
        have bx4 := R4.out.box
        have HNM := hid (show (needS T sy.up kName).bad < 0 → NmOK (tk T sy.up.k).s from fun h => name_ok hat (hgood h))
        cases hq : expS T n (needS T (needS T sy.up kName) kEq) with
        | none => rw [hq] at e4; cases e4
        | some q =>
        obtain ⟨c, s4⟩ := q
        rw [hq] at e4
        dsimp only at e4
        have HQ := hid hq
        have AA := hid e4
        rw [hd]
        clear g4 hm hd hgood hno e4 hpos hga hat hrd NO bx3 R3 hq
        go_wp2_with fail
        refine (bind_p T n HE.out _ rb s Hi sy.up c s4 HQ.out R4.out.st R4.out.fz (R4.out.rb hlt hr)).mono ?_
        rintro e w5 ⟨k5, (⟨t5, b5, H5, m5, ht5, rfl, p5, z5, e5, r5, d5⟩ | ⟨hb, bb, rfl, hrf⟩)⟩
        case inr =>
          have e5 := binds_bad hb AA.out
          have e6 := F2.out (by rw [e5]; exact hb)
          rw [e5] at e6
          unfold refusal
          go_wp2
          exact ⟨rfl, R4.out.kept.trans k5, Or.inr ⟨by rw [e6]; exact hb, bb, rfl, by rw [e6]; exact hrf⟩⟩
        case inl =>
        have hnb : (needS T sy.up kName).bad < 0 := by
          rcases Int.lt_or_le (needS T sy.up kName).bad 0 with h | h
          · exact h
          · have e3 : needS T (needS T sy.up kName) kEq = needS T sy.up kName := need_bad h
            have e4 := exp_bad_st (by rw [e3]; exact h) HQ.out
            have := p5.neg
            rw [e4, e3] at this
            omega
        have hown5 := own_kept R4.out.own k5 (by omega)
        have hs5 : w.heap.size + 1 ≤ w5.heap.size := by have := R4.out.more; have := k5.size; omega
        have Q5 := hid (And.intro k5 (And.intro p5 (And.intro z5 (And.intro e5 (And.intro r5 d5)))))
        have HNB := hid hnb
        obtain ⟨i0, hi, hz0, hz1, hz2⟩ := info_parts info_bind
        clear k5 p5 z5 e5 r5 d5 hnb bx4
        go_wp2_with (at_builtin; refine wpList_append_lies _ rfl (.tmp 20) (.tmp 23) 192 rfl (w.heap.size + 1) 187 i0 (.agg #[.string (B []), .nilIface]) 2 32 Tryz.underlying192 hi hz0 hz1 hz2 rfl (by decide) _ _ _ rfl (hown5.alloc _) ⟨w5.heap.size, 0, none⟩ 1 1 [.string (B (tk T sy.up.k).s), (.iface t5 (.pointer (some ⟨b5, 0, none⟩)))] rfl rfl ?d1 ?d2 (by decide) ?d3 ?d4 ?d5 (w5.heap.size + 1) ?d6 ?_)
        case d1 => exact two_new _ _ _ _
        case d2 => exact bind_one _ _ _
        case d3 => unfold maxLen; omega
        case d4 => omega
        case d5 => simp; omega
        case d6 => simp
        intro g7 cap7 w7 hown7 hgrow7 hat7 _
        obtain ⟨k5, p5, z5, e5, r5, d5⟩ := Q5.out
        have R7 := hid (R4.out.add hlt (HNM.out HNB.out) k5 p5 z5 e5 r5 d5 hown7 hgrow7 hat7)
        clear hown7 hgrow7 hat7 k5 p5 z5 e5 r5 d5 hown5
        go_wp2_with fail
        go_roundg F
        case measure => omega
        case rel => exact ⟨_, s4, _, _, _, AA, R7⟩
end Go.Proofs.YtcdijppegfcoaabGreatDoor

/-
  OUR OWN TEXT. The program's reader: exp, whole, by induction.
-/
namespace Go.Proofs.YtcdijppegfcoaabGreatDoor
open Go.RowKit

/-- The last call of exp hands on what it has. -/
theorem EOut.via {w w1 w' : World} {rb : Nat} {s : ByteArray} {T : List Tok} {H : Nat → Option Obj} {k0 k1 : Nat} {st' : St} {e : Ending} {ex : Ex} (hk : Kept rb w w1) (h : EOut w1 w' rb s T H k1 st' e ex) (hk0 : k0 ≤ k1) : EOut w w' rb s T H k0 st' e ex := by
  obtain ⟨h1, h2⟩ := h
  refine ⟨hk.trans h1, ?_⟩
  rcases h2 with ⟨v, H', m, q1, q2, q3, q4, q5, q6⟩ | h2
  · exact Or.inl ⟨v, H', m, q1, q2, q3, q4.from hk.size, q5, by omega⟩
  · exact Or.inr h2
theorem Kept.le {rb : Nat} {w w' : World} (h : Kept rb w w') : w.heap.size ≤ w'.heap.size := h.size

set_option maxRecDepth 100000 in
set_option maxHeartbeats 2000000 in
theorem exp_p (T : List Tok) (hl : T.length ≤ 400) : ∀ n, EXPP T n
  | 0 => fun w rb s H st ex st' hs => by simp [expS] at hs
  | n + 1 => fun w rb s H st ex st' hs h hz hr => by
    have hE := exp_p T hl n
    have hlt := h.lt
    have hneg := h.neg
    rw [expS, if_neg (by omega)] at hs
    have HP := hid (h.alloc (.cells #[.pointer (some ⟨rb, 0, none⟩)] 153))
    have HZ := hid (hz.alloc (.cells #[.pointer (some ⟨rb, 0, none⟩)] 153))
    have HE := hid hE
    have HS := hid hs
    have K0 := hid ((Kept.refl rb w).alloc (.cells #[.pointer (some ⟨rb, 0, none⟩)] 153))
    clear h hz hE hs
    unfold rdV
    go_enter Tryz.func69, Tryz.ntmps69
    go_wp2_with fail
    refine (skips_p exKw exKw_ok _ rb s T st kFun HP.out (Or.inl (by decide))).mono ?_
    rintro e w1 ⟨rfl, p1, k1⟩
    have bx1 : w1.cell? ⟨w.heap.size, 0, none⟩ = some (.pointer (some ⟨rb, 0, none⟩)) := by
      rw [kept_cell k1 (by simp) (by omega)]
      simp [go_sem]
    have hw1 : w.heap.size < w1.heap.size := by have := k1.size; simp at this; omega
    have K1 := hid (K0.out.trans k1)
    have Z1 := hid (HZ.out.kept k1 hr)
    clear HP HZ K0 k1
    cases h1 : isS T st kFun with
    | true =>
      rw [take_yes h1] at p1
      have e4 := HS.out
      rw [if_pos h1] at e4
      cases hx : expS T n (needS T (needS T st.up kName) kArrow) with
      | none => rw [hx] at e4; cases e4
      | some q =>
      obtain ⟨y, s4⟩ := q
      rw [hx] at e4
      cases e4
      have P1 := hid p1
      have HX := hid hx
      clear h1 hx p1
      go_wp2_with fail
      refine (fun_p T n hl HE.out _ rb s H st.up y st' (tk T st.k).pos HX.out P1.out Z1.out hr).mono ?_
      rintro e w2 ho
      have HO := hid (EOut.via (k0 := st.k) K1.out ho (by show st.k ≤ st.k + 1; omega))
      rcases ho with ⟨_, (⟨v, H', m, rfl, _⟩ | ⟨_, bb, rfl, _⟩)⟩
      · go_wp2
        go_ret
        exact HO.out
      · unfold refusal at HO ⊢
        go_wp2
        exact ⟨rfl, HO.out⟩
    | false =>
    rw [take_no h1] at p1
    have e4 := HS.out
    rw [if_neg (by rw [h1]; decide)] at e4
    have HS1 := hid e4
    have P1 := hid p1
    clear HS h1 p1 e4
    go_wp2_with fail
    refine (skips_p exKw exKw_ok _ rb s T st kIf P1.out (Or.inl (by decide))).mono ?_
    rintro e w2 ⟨rfl, p2, k2⟩
    have bx2 : w2.cell? ⟨w.heap.size, 0, none⟩ = some (.pointer (some ⟨rb, 0, none⟩)) := by
      rw [kept_cell k2 (by omega) (by omega)]
      exact bx1
    have hw2 : w1.heap.size ≤ w2.heap.size := k2.size
    have K2 := hid (K1.out.trans k2)
    have Z2 := hid (Z1.out.kept k2 hr)
    clear P1 K1 Z1 k2 bx1
    cases h1 : isS T st kIf with
    | true =>
      rw [take_yes h1] at p2
      have e4 := HS1.out
      rw [if_pos h1] at e4
      cases hx : expS T n st.up with
      | none => rw [hx] at e4; cases e4
      | some q =>
      obtain ⟨x, s1⟩ := q
      rw [hx] at e4
      dsimp only at e4
      cases hy : expS T n (needS T s1 kThen) with
      | none => rw [hy] at e4; cases e4
      | some q =>
      obtain ⟨y, s2⟩ := q
      rw [hy] at e4
      dsimp only at e4
      cases hw : expS T n (needS T s2 kElse) with
      | none => rw [hw] at e4; cases e4
      | some q =>
      obtain ⟨z, s3⟩ := q
      rw [hw] at e4
      cases e4
      have P2 := hid p2
      have HX := hid hx
      have HY := hid hy
      have HW := hid hw
      clear h1 hx hy hw p2
      go_wp2_with fail
      refine (choice_p T n hl HE.out _ rb s H st.up x y z s1 s2 st' (tk T st.k).pos HX.out HY.out HW.out P2.out Z2.out hr).mono ?_
      rintro e w3 ho
      have HO := hid (EOut.via (k0 := st.k) K2.out ho (by show st.k ≤ st.k + 1; omega))
      rcases ho with ⟨_, (⟨v, H', m, rfl, _⟩ | ⟨_, bb, rfl, _⟩)⟩
      · go_wp2
        go_ret
        exact HO.out
      · unfold refusal at HO ⊢
        go_wp2
        exact ⟨rfl, HO.out⟩
    | false =>
    rw [take_no h1] at p2
    have e4 := HS1.out
    rw [if_neg (by rw [h1]; decide)] at e4
    have HS2 := hid e4
    have P2 := hid p2
    clear HS1 h1 p2 e4
    go_wp2_with fail
    refine (skips_p exKw exKw_ok _ rb s T st kLet P2.out (Or.inl (by decide))).mono ?_
    rintro e w3 ⟨rfl, p3, k3⟩
    have bx3 : w3.cell? ⟨w.heap.size, 0, none⟩ = some (.pointer (some ⟨rb, 0, none⟩)) := by
      rw [kept_cell k3 (by omega) (by omega)]
      exact bx2
    have hw3 : w2.heap.size ≤ w3.heap.size := k3.size
    have K3 := hid (K2.out.trans k3)
    have Z3 := hid (Z2.out.kept k3 hr)
    clear P2 K2 Z2 k3 bx2
    cases h1 : isS T st kLet with
    | true =>
      rw [take_yes h1] at p3
      have e4 := HS2.out
      rw [if_pos h1] at e4
      have HS3 := hid e4
      have P3 := hid p3
      clear HS2 h1 p3 e4
      go_wp2_with fail
      refine (skips_p exKw exKw_ok _ rb s T st.up kRec P3.out (Or.inl (by decide))).mono ?_
      rintro e w4 ⟨rfl, p4, k4⟩
      have bx4 : w4.cell? ⟨w.heap.size, 0, none⟩ = some (.pointer (some ⟨rb, 0, none⟩)) := by
        rw [kept_cell k4 (by omega) (by omega)]
        exact bx3
      have hw4 : w3.heap.size ≤ w4.heap.size := k4.size
      have K4 := hid (K3.out.trans k4)
      have Z4 := hid (Z3.out.kept k4 hr)
      clear P3 K3 Z3 k4 bx3
      cases h1 : isS T st.up kRec with
      | true =>
        have e4 := HS3.out
        rw [if_pos h1] at e4
        cases hx : boundS (expS T n) T ⟨kRec, [], [], (tk T st.k).pos⟩ (takeS T st.up kRec) with
        | none => rw [hx] at e4; cases e4
        | some q =>
        obtain ⟨x, s1⟩ := q
        rw [hx] at e4
        dsimp only at e4
        cases hy : bindsS (expS T n) T (T.length + 1) x s1 with
        | none => rw [hy] at e4; cases e4
        | some q =>
        obtain ⟨y, s2⟩ := q
        rw [hy] at e4
        dsimp only at e4
        cases hw : expS T n (needS T s2 kIn) with
        | none => rw [hw] at e4; cases e4
        | some q =>
        obtain ⟨z, s3⟩ := q
        rw [hw] at e4
        cases e4
        rw [take_yes h1] at p4 hx
        have P4 := hid p4
        have HX := hid hx
        have HY := hid hy
        have HW := hid hw
        clear h1 hx hy hw p4
        go_wp2_with fail
        refine (letRec_p T n hl HE.out _ rb s H st.up.up x y z s1 s2 st' (tk T st.k).pos HX.out HY.out HW.out P4.out Z4.out hr).mono ?_
        rintro e w5 ho
        have HO := hid (EOut.via (k0 := st.k) K4.out ho (by show st.k ≤ st.k + 1 + 1; omega))
        rcases ho with ⟨_, (⟨v, H', m, rfl, _⟩ | ⟨_, bb, rfl, _⟩)⟩
        · go_wp2
          go_ret
          exact HO.out
        · unfold refusal at HO ⊢
          go_wp2
          exact ⟨rfl, HO.out⟩
      | false =>
        have e4 := HS3.out
        rw [if_neg (by rw [h1]; decide), take_no h1] at e4
        rw [take_no h1] at p4
        unfold boundS at e4
        rw [twice_same (by simp)] at e4
        dsimp only at e4
        cases hx : expS T n (needS T (needS T st.up kName) kEq) with
        | none => rw [hx] at e4; cases e4
        | some q =>
        obtain ⟨x, s1⟩ := q
        rw [hx] at e4
        dsimp only at e4
        have e2 : bindsS (expS T n) T (T.length + 1) ⟨kLet, [] ++ [(tk T st.up.k).s], [] ++ [x], (tk T st.k).pos⟩ s1 = some (⟨kLet, [] ++ [(tk T st.up.k).s], [] ++ [x], (tk T st.k).pos⟩, s1) := by
          rw [bindsS, if_neg]
          rintro ⟨e, _⟩
          exact absurd e (by show ¬ kLet = kRec; decide)
        rw [e2] at e4
        dsimp only at e4
        cases hw : expS T n (needS T s1 kIn) with
        | none => rw [hw] at e4; cases e4
        | some q =>
        obtain ⟨z, s3⟩ := q
        rw [hw] at e4
        cases e4
        have P4 := hid p4
        have HX := hid hx
        have HW := hid hw
        clear h1 hx hw p4 e2
        go_wp2_with fail
        refine (let_p T n hl HE.out _ rb s H st.up x z s1 st' (tk T st.k).pos HX.out HW.out P4.out Z4.out hr).mono ?_
        rintro e w5 ho
        have HO := hid (EOut.via (k0 := st.k) K4.out ho (by show st.k ≤ st.k + 1; omega))
        rcases ho with ⟨_, (⟨v, H', m, rfl, _⟩ | ⟨_, bb, rfl, _⟩)⟩
        · go_wp2
          go_ret
          exact HO.out
        · unfold refusal at HO ⊢
          go_wp2
          exact ⟨rfl, HO.out⟩
    | false =>
    rw [take_no h1] at p3
    have e4 := HS2.out
    rw [if_neg (by rw [h1]; decide)] at e4
    cases hx : atomS (expS T n) T st with
    | none => rw [hx] at e4; cases e4
    | some q =>
    obtain ⟨x, s1⟩ := q
    rw [hx] at e4
    have P3 := hid p3
    have HX := hid hx
    have HA := hid e4
    clear h1 hx p3 e4 HS2
    go_wp2_with fail
    refine (applied_p T n hl HE.out _ rb s H st x s1 ex st' HX.out HA.out P3.out Z3.out hr).mono ?_
    rintro e w5 ho
    have HO := hid (EOut.via (k0 := st.k) K3.out ho (Nat.le_refl _))
    rcases ho with ⟨_, (⟨v, H', m, rfl, _⟩ | ⟨_, bb, rfl, _⟩)⟩
    · go_wp2
      go_ret
      exact HO.out
    · unfold refusal at HO ⊢
      go_wp2
      exact ⟨rfl, HO.out⟩
end Go.Proofs.YtcdijppegfcoaabGreatDoor

/-
  OUR OWN TEXT. The program's reader: the way out at a refusal.
-/
namespace Go.Proofs.YtcdijppegfcoaabGreatDoor
open Go.RowKit

theorem catch_idle (p q : Addr) (w : World) :
    CallsD Tryz.prog 109 #[.pointer (some p), .pointer (some q)] .returning w fun e u' w' => e = .returned (.tuple #[]) ∧ u' = .returning ∧ w' = w := by
  refine callsD_of_wpS Tryz.func109 rfl fun c₀ cs hu => ?_
  apply wpS_seq
  apply wpS_region
  simp [wpOpsS, go_sem, recoverD, hu, Tryz.ntmps109, Exit.thenS]
  refine wpS_of_wp ?_
  go_wp2
  cases c₀
  simp_all [bodyPostS, results, Tryz.results109]

theorem frozen_past {w : World} {b o : Nat} {v : Value} (h : w.cell? ⟨b, o, none⟩ = some v) (hf : w.frozen? ⟨b, o, none⟩ = false) (x : Obj) : (w.alloc x).frozen? ⟨b, o, none⟩ = false := by
  have hl : b < w.heap.size := by
    rcases Nat.lt_or_ge b w.heap.size with h' | h'
    · exact h'
    · simp [World.cell?, Array.getElem?_eq_none h'] at h
  rw [World.frozen?_of_block (a := ⟨b, o, none⟩) (Below.heap_alloc _ _ _ hl)]
  exact hf
theorem assert_refusal (v : Value) (w : World) : (Instr.typeAssert (.iface 202 v) 20 202 true).run Tryz.prog w = .ok (.tuple #[v, .bool true]) w := by kernel_rfl

set_option maxRecDepth 100000 in
theorem catch_refusal (p q : Nat) (t b : TypeId) (v0 v1 : Value) (w : World) (h0 : w.cell? ⟨p, 0, none⟩ = some v0) (f0 : w.frozen? ⟨p, 0, none⟩ = false) (h1 : w.cell? ⟨q, 0, none⟩ = some v1) (f1 : w.frozen? ⟨q, 0, none⟩ = false) (hpq : p ≠ q) (hpl : p < w.heap.size) (hql : q < w.heap.size) :
    CallsD Tryz.prog 109 #[.pointer (some ⟨p, 0, none⟩), .pointer (some ⟨q, 0, none⟩)] (.panicking [{ v := .iface 202 (.agg #[(.iface t (.pointer (some ⟨b, 0, none⟩)))]), recovered := false }]) w fun e u' w' =>
      e = .returned (.tuple #[]) ∧ u' = .panicking [{ v := .iface 202 (.agg #[(.iface t (.pointer (some ⟨b, 0, none⟩)))]), recovered := true }] ∧ w' = (((w.setCell ⟨p, 0, none⟩ .nilIface).setCell ⟨q, 0, none⟩ (.iface t (.pointer (some ⟨b, 0, none⟩)))).alloc (.cells #[(.iface t (.pointer (some ⟨b, 0, none⟩)))] 202)).drew := by
  have a0 := fun x => cell_past h0 x
  have a1 := fun x => cell_past h1 x
  have g0 := fun x => frozen_past h0 f0 x
  have g1 := fun x => frozen_past h1 f1 x
  have hqp : q ≠ p := fun e => hpq e.symm
  have hp1 : p ≠ w.heap.size := by omega
  have hp2 : w.heap.size ≠ p := by omega
  have hq1 : q ≠ w.heap.size := by omega
  have hq2 : w.heap.size ≠ q := by omega
  refine callsD_of_wpS Tryz.func109 rfl fun c₀ cs hu => ?_
  have e0 : (#[Value.pointer (some ⟨p, 0, none⟩), .pointer (some ⟨q, 0, none⟩)] ++ Array.replicate (Tryz.f109.ntmps - (#[Value.pointer (some ⟨p, 0, none⟩), .pointer (some ⟨q, 0, none⟩)] : Array Value).size) undef) = #[Value.pointer (some ⟨p, 0, none⟩), .pointer (some ⟨q, 0, none⟩), undef, undef, undef, undef, undef, undef, undef, undef, undef, undef, undef, undef, undef] := rfl
  rw [e0]
  clear e0
  apply wpS_seq
  apply wpS_region
  simp [wpOpsS, go_sem, recoverD, hu, Exit.thenS]
  refine wpS_of_wp ?_
  have hta := assert_refusal
  go_wp2_with fail
  go_region
  refine ⟨rfl, _, rfl, .tuple #[], ?_, rfl, rfl, rfl⟩
  simp [results, Tryz.results109]

set_option maxRecDepth 100000 in
set_option maxHeartbeats 2000000 in
theorem read1_p (T : List Tok) (hl : T.length ≤ 400) (n : Nat) (w : World) (rb : Nat) (s : ByteArray) (H : Nat → Option Obj) (st : St) (ex : Ex) (st' : St) (hs : expS T n st = some (ex, st')) (h : PSt exKw w rb s T st) (hz : Fz H w) (hr : H rb = none) :
    Calls Tryz.prog 68 #[.pointer (some ⟨rb, 0, none⟩)] w fun e w' => EOut w w' rb s T H st.k st' e ex := by
  have HC := hid (exp_p T hl n w rb s H st ex st' hs h hz hr)
  unfold rdV at HC
  clear hs h hz
  go_enter Tryz.func68, Tryz.ntmps68
  go_wp2_with fail
  refine HC.out.mono ?_
  rintro e w5 ho
  have HO := hid ho
  rcases ho with ⟨_, (⟨v, H', m, rfl, _⟩ | ⟨_, bb, rfl, _⟩)⟩
  · go_wp2
    go_ret
    exact HO.out
  · unfold refusal at HO ⊢
    go_wp2
    exact ⟨rfl, HO.out⟩
end Go.Proofs.YtcdijppegfcoaabGreatDoor

/-
  OUR OWN TEXT. The program's reader: tokens.Whole.
-/
namespace Go.Proofs.YtcdijppegfcoaabGreatDoor
open Go.RowKit

/-- What Whole leaves. -/
def WOut (w w' : World) (s2 : St) (e : Ending) (ex : Ex) : Prop :=
  w.grownBy w' none ∧ ((s2.bad < 0 ∧ ∃ v H' m, e = .returned (.tuple #[v, .nilIface]) ∧ Fz H' w' ∧ PRep m H' v ex ∧ exDeep m ex ≤ 400) ∨
    (0 ≤ s2.bad ∧ ∃ b, e = .returned (.tuple #[.nilIface, .iface 81 (.pointer (some ⟨b, 0, none⟩))]) ∧ w'.heap[b]? = some (.cells #[.int .i64 s2.bad] 92 (0, 0))))

/-- What the way out leaves in memory. -/
theorem caught {w2 w'' : World} {N bb : Nat} {x : Int} {tx te ts : TypeId} (hw : w'' = (((w2.setCell ⟨N, 0, none⟩ .nilIface).setCell ⟨N + 1, 0, none⟩ (.iface ts (.pointer (some ⟨bb, 0, none⟩)))).alloc (.cells #[.iface ts (.pointer (some ⟨bb, 0, none⟩))] 202)).drew)
    {v0 v1 : Value} (h0 : w2.heap[N]? = some (.cells #[v0] tx (0, 0))) (h1 : w2.heap[N + 1]? = some (.cells #[v1] te (0, 0))) (hb : w2.heap[bb]? = some (.cells #[.int .i64 x] 92 (0, 0))) (hx : tx ≠ 92 := by decide) (he : te ≠ 92 := by decide) :
    w''.cell? ⟨N, 0, none⟩ = some .nilIface ∧ w''.cell? ⟨N + 1, 0, none⟩ = some (.iface ts (.pointer (some ⟨bb, 0, none⟩))) ∧ w''.heap[bb]? = some (.cells #[.int .i64 x] 92 (0, 0)) ∧
      (w2.heap.size ≤ w''.heap.size ∧ w''.os = w2.os ∧ w''.tape = w2.tape ∧ w''.output = w2.output ∧ ∀ k, k < N → w''.heap[k]? = w2.heap[k]?) := by
  have n0 : bb ≠ N := fun e => by rw [e, h0] at hb; simp at hb; exact hx hb.2
  have n1 : bb ≠ N + 1 := fun e => by rw [e, h1] at hb; simp at hb; exact he hb.2
  have l0 := lt_of_block h0
  have l1 := lt_of_block h1
  have lb := lt_of_block hb
  obtain ⟨w3, hw3⟩ : ∃ w3, w3 = (w2.setCell ⟨N, 0, none⟩ .nilIface).setCell ⟨N + 1, 0, none⟩ (.iface ts (.pointer (some ⟨bb, 0, none⟩))) := ⟨_, rfl⟩
  rw [← hw3] at hw
  have s3 : w3.heap.size = w2.heap.size := by rw [hw3]; simp [World.setCell]
  have old : ∀ k, k ≠ N → k ≠ N + 1 → w3.heap[k]? = w2.heap[k]? := fun k e1 e2 => by
    rw [hw3, Below.heap_setCell _ _ _ _ (by show k ≠ N + 1; exact e2), Below.heap_setCell _ _ _ _ (by show k ≠ N; exact e1)]
  have b0 : w3.heap[N]? = some (.cells #[.nilIface] tx (0, 0)) := by
    rw [hw3, Below.heap_setCell _ _ _ _ (by show N ≠ N + 1; omega)]
    simp [World.setCell, Array.getElem?_modify, h0]
  have b1 : w3.heap[N + 1]? = some (.cells #[.iface ts (.pointer (some ⟨bb, 0, none⟩))] te (0, 0)) := by
    have h1' : (w2.setCell ⟨N, 0, none⟩ .nilIface).heap[N + 1]? = some (.cells #[v1] te (0, 0)) := by
      rw [Below.heap_setCell _ _ _ _ (by show N + 1 ≠ N; omega)]
      exact h1
    rw [hw3]
    generalize w2.setCell ⟨N, 0, none⟩ .nilIface = w4 at h1'
    simp [World.setCell, Array.getElem?_modify, h1']
  have up : ∀ k, k < w3.heap.size → w''.heap[k]? = w3.heap[k]? := fun k hk => by rw [hw]; exact Below.heap_alloc _ _ _ hk
  refine ⟨?_, ?_, ?_, ?_, by rw [hw, hw3]; rfl, by rw [hw, hw3]; rfl, by rw [hw, hw3]; rfl, fun k hk => ?_⟩
  · simp [World.cell?, up N (by omega), b0]
  · simp [World.cell?, up (N + 1) (by omega), b1]
  · rw [up bb (by omega), old bb n0 n1]; exact hb
  · rw [hw]; simp; omega
  · rw [up k (by omega), old k (by omega) (by omega)]
theorem stored {w2 w'' : World} {N : Nat} {v u v0 v1 : Value} {tx te : TypeId} (hw : w'' = ((w2.setCell ⟨N, 0, none⟩ v).setCell ⟨N, 0, none⟩ v).setCell ⟨N + 1, 0, none⟩ u) (h0 : w2.heap[N]? = some (.cells #[v0] tx (0, 0))) (h1 : w2.heap[N + 1]? = some (.cells #[v1] te (0, 0))) :
    w''.cell? ⟨N, 0, none⟩ = some v ∧ w''.cell? ⟨N + 1, 0, none⟩ = some u ∧ (w2.heap.size ≤ w''.heap.size ∧ w''.os = w2.os ∧ w''.tape = w2.tape ∧ w''.output = w2.output ∧ ∀ k, k < N → w''.heap[k]? = w2.heap[k]?) := by
  have b0 : w''.heap[N]? = some (.cells #[v] tx (0, 0)) := by
    rw [hw, Below.heap_setCell _ _ _ _ (by show N ≠ N + 1; omega)]
    simp [World.setCell, Array.getElem?_modify, h0]
  have b1 : w''.heap[N + 1]? = some (.cells #[u] te (0, 0)) := by
    have h1' : ((w2.setCell ⟨N, 0, none⟩ v).setCell ⟨N, 0, none⟩ v).heap[N + 1]? = some (.cells #[v1] te (0, 0)) := by
      rw [Below.heap_setCell _ _ _ _ (by show N + 1 ≠ N; omega), Below.heap_setCell _ _ _ _ (by show N + 1 ≠ N; omega)]
      exact h1
    rw [hw]
    generalize (w2.setCell ⟨N, 0, none⟩ v).setCell ⟨N, 0, none⟩ v = w4 at h1'
    simp [World.setCell, Array.getElem?_modify, h1']
  refine ⟨by simp [World.cell?, b0], by simp [World.cell?, b1], by rw [hw]; simp [World.setCell], by rw [hw]; rfl, by rw [hw]; rfl, by rw [hw]; rfl, fun k hk => ?_⟩
  rw [hw, Below.heap_setCell _ _ _ _ (by show k ≠ N + 1; omega), Below.heap_setCell _ _ _ _ (by show k ≠ N; omega), Below.heap_setCell _ _ _ _ (by show k ≠ N; omega)]
theorem whole_grown {w w1 w2 w'' : World} {o : Obj} (h1 : w.grownBy w1 none) (hl : w.heap.size ≤ w1.heap.size) (h2 : Kept w1.heap.size (w1.alloc o) w2) (h3 : w2.heap.size ≤ w''.heap.size ∧ w''.os = w2.os ∧ w''.tape = w2.tape ∧ w''.output = w2.output ∧ ∀ k, k < w.heap.size → w''.heap[k]? = w2.heap[k]?) : w.grownBy w'' none := by
  obtain ⟨q1, q2, q3, q4, q5⟩ := h3
  refine ⟨q2.trans (h2.os.trans h1.os), q3.trans (h2.tape.trans h1.tape), q4.trans (h2.output.trans h1.output), ?_, fun k hk _ => ?_⟩
  · have := h2.size
    simp at this
    omega
  · rw [q5 k hk, h2.block k (by simp; omega) (by simp; omega), Below.heap_alloc _ _ _ (by omega), h1.block k hk (by simp)]

set_option maxRecDepth 100000 in
set_option maxHeartbeats 4000000 in
theorem whole_p (s : ByteArray) (hs : s.size ≤ 300) (w : World) (n : Nat) (ex : Ex) (s1 : St) (hx : expS (toksOf exKw s) n ⟨0, -1⟩ = some (ex, s1)) :
    Calls Tryz.prog 67 #[.string s, .func (.func 68) #[] #[]] w fun e w' => WOut w w' (needS (toksOf exKw s) s1 kEnd) e ex := by
  have hmf : ∀ (fn : Fn) (first cap : Array Value) (w : World), (Instr.makeFunc fn first cap).run Tryz.prog w = .ok (.func fn first cap) w := fun _ _ _ _ => rfl
  have hsl : s.data.toList.length = s.size := by rw [Array.length_toList]; rfl
  obtain ⟨T, hT⟩ : ∃ T, T = toksOf exKw s := ⟨_, rfl⟩
  have hTl : T.length ≤ 400 := by rw [hT]; have := toksOf_len exKw s; omega
  have hat : At exKw s.data.toList T 0 (upto isB s.data.toList 0) := by
    rw [hT]
    have := At.start exKw s.data.toList
    rw [hsl] at this
    exact this
  rw [← hT] at hx ⊢
  have hz300 : ((s.size : Nat) : Int) ≤ 300 := by omega
  have HX := hid hx
  have HAT := hid hat
  clear hx hat hT
  go_enter_defers Tryz.func67, Tryz.ntmps67
  go_wp2_with fail
  refine (next_any s 0 (by omega) hs _).mono ?_
  rintro e w1 ⟨rfl, g1⟩
  dsimp only [tokV]
  have ra1 : w1.heap[w.heap.size]? = some (.cells #[.nilIface] 101 (0, 0)) := by
    rw [g1.block _ (by simp; omega) (by simp), Below.heap_alloc _ _ _ (by simp)]
    exact heap_alloc_new _ _
  have rb1 : w1.heap[w.heap.size + 1]? = some (.cells #[.nilIface] 56 (0, 0)) := by
    rw [g1.block _ (by simp) (by simp)]
    exact heap_alloc_at _ _ _ (by simp)
  have hw1 := lt_of_block rb1
  have G1 := hid (((World.grownBy_alloc w (.cells #[.nilIface] 101) none).trans (World.grownBy_alloc _ (.cells #[.nilIface] 56) none)).trans g1)
  obtain ⟨J, hJ⟩ : ∃ J, J = upto isB s.data.toList 0 := ⟨_, rfl⟩
  rw [← hJ] at HAT ⊢
  clear g1 hJ
  have PS : Hid (PSt exKw (w1.alloc (.cells #[.string s, .int .i64 ((nxK s.data.toList J : Nat) : Int), .string (B (nxT s.data.toList J)), .int .i64 (J : Int)] 208)) w1.heap.size s T ⟨0, -1⟩) :=
    ⟨by decide, ⟨J, HAT.out, heap_alloc_new _ _⟩, hs⟩
  go_wp2_with fail
  refine (read1_p T hTl n _ w1.heap.size s (fun _ => none) ⟨0, -1⟩ ex s1 HX.out PS.out (fz_none _) rfl).mono ?_
  rintro e w2 ⟨k2, (⟨v, H2, m, rfl, p2, z2, e2, r2, d2⟩ | ⟨hb, bb, rfl, hrf⟩)⟩
  case inr =>
    have ra2 : w2.heap[w.heap.size]? = some (.cells #[.nilIface] 101 (0, 0)) := by
      rw [k2.block _ (by simp; omega) (by simp; omega), Below.heap_alloc _ _ _ (by omega)]
      exact ra1
    have rb2 : w2.heap[w.heap.size + 1]? = some (.cells #[.nilIface] 56 (0, 0)) := by
      rw [k2.block _ (by simp; omega) (by simp; omega), Below.heap_alloc _ _ _ (by omega)]
      exact rb1
    have K2 := hid k2
    have HB := hid hb
    have HRF := hid hrf
    clear k2 hb hrf ra1 rb1
    unfold refusal
    go_wp2
    refine leaves_cons (f := 109) (args := #[.pointer (some ⟨w.heap.size, 0, none⟩), .pointer (some ⟨w.heap.size + 1, 0, none⟩)]) (by simp) (by simp [go_sem]) ?_
    refine (catch_refusal w.heap.size (w.heap.size + 1) 81 bb .nilIface .nilIface w2 (by simp [World.cell?, ra2]) (by simp [World.frozen?, ra2]) (by simp [World.cell?, rb2]) (by simp [World.frozen?, rb2]) (by omega) (lt_of_block ra2) (lt_of_block rb2)).mono ?_
    rintro e u' w'' ⟨rfl, rfl, hw''⟩
    obtain ⟨q0, q1, q2, q3⟩ := caught hw'' ra2 rb2 HRF.out
    refine ⟨.tuple #[.nilIface, .iface 81 (.pointer (some ⟨bb, 0, none⟩))], ?_, ?_⟩
    · simp [results, Tryz.results67, go_sem, q0, q1]
    · have e5 := need_bad (T := T) (x := kEnd) HB.out
      refine ⟨whole_grown G1.out (by omega) K2.out q3, Or.inr ⟨by rw [e5]; exact HB.out, bb, rfl, by rw [e5]; exact q2⟩⟩
  case inl =>
    obtain ⟨t1, b1, ht1, rfl, hb1, hc1⟩ := r2.dat z2
    have ra2 : w2.heap[w.heap.size]? = some (.cells #[.nilIface] 101 (0, 0)) := by
      rw [k2.block _ (by simp; omega) (by simp; omega), Below.heap_alloc _ _ _ (by omega)]
      exact ra1
    have rb2 : w2.heap[w.heap.size + 1]? = some (.cells #[.nilIface] 56 (0, 0)) := by
      rw [k2.block _ (by simp; omega) (by simp; omega), Below.heap_alloc _ _ _ (by omega)]
      exact rb1
    have la2 := lt_of_block ra2
    have lb2 := lt_of_block rb2
    have a0 : w2.cell? ⟨w.heap.size, 0, none⟩ = some .nilIface := by simp [World.cell?, ra2]
    have a1 : w2.cell? ⟨w.heap.size + 1, 0, none⟩ = some .nilIface := by simp [World.cell?, rb2]
    have u0 : w2.frozen? ⟨w.heap.size, 0, none⟩ = false := by simp [World.frozen?, ra2]
    have u1 : w2.frozen? ⟨w.heap.size + 1, 0, none⟩ = false := by simp [World.frozen?, rb2]
    have hkk := p2.klt
    have hn2 := p2.neg
    obtain ⟨J2, hat2, hrd2⟩ := p2.place
    have hrl := lt_of_block hrd2
    have hend := (asked exKw exKw_ok s.data.toList J2 hat2.1).theEnd
    have hpos := (asked exKw exKw_ok s.data.toList J2 hat2.1).pos
    rw [← hat2.tk] at hend hpos
    obtain ⟨c0, c1, c2, c3, f1, f2, f3⟩ := four_p hrd2
    have hne : w1.heap.size ≠ w.heap.size := by omega
    have hne2 : w.heap.size ≠ w1.heap.size := by omega
    have K2 := hid k2
    have Z2 := hid z2
    have E2 := hid e2
    have R2 := hid r2
    have D2 := hid d2
    have RD := hid hrd2
    have RA := hid ra2
    have RB := hid rb2
    have hd400 : exDeep m ex ≤ 400 := by have := d2; simp at this; omega
    have HEND := hid hend
    have HPOS := hid hpos
    have HN2 := hid hn2
    clear k2 p2 z2 e2 r2 d2 ra1 rb1 ra2 rb2 hb1 hc1 hat2 hrd2 hend hpos c0 c2 c3 f1 f2 f3 hn2
    by_cases hk : nxK s.data.toList J2 = 0
    · rw [hk] at c1
      have HK := hid hk
      clear hk
      go_wp2
      refine leaves_cons (f := 109) (args := #[.pointer (some ⟨w.heap.size, 0, none⟩), .pointer (some ⟨w.heap.size + 1, 0, none⟩)]) (by simp) (by simp [go_sem]) ?_
      refine (catch_idle ⟨w.heap.size, 0, none⟩ ⟨w.heap.size + 1, 0, none⟩ _).mono ?_
      rintro e u' w'' ⟨rfl, rfl, hw''⟩
      obtain ⟨q0, q1, q3⟩ := stored hw'' RA.out RB.out
      refine ⟨.tuple #[(.iface t1 (.pointer (some ⟨b1, 0, none⟩))), .nilIface], ?_, ?_⟩
      · simp [results, Tryz.results67, go_sem, q0, q1]
      · have hh0 : H2 w.heap.size = none := E2.out.2 _ (by simp; omega)
        have hh1 : H2 (w.heap.size + 1) = none := E2.out.2 _ (by simp; omega)
        have e5 : (needS T s1 kEnd).bad < 0 := by
          have hi : isS T s1 kEnd = true := by simp [isS, HN2.out, HEND.out.1 HK.out]
          rw [need_yes hi, take_yes hi]
          exact HN2.out
        refine ⟨whole_grown G1.out (by omega) K2.out q3, Or.inl ⟨e5, _, H2, m, rfl, ?_, R2.out, hd400⟩⟩
        rw [hw'']
        exact ((Z2.out.set hh0 _ _).set hh0 _ _).set hh1 _ _
    · have hq : (((nxK s.data.toList J2 : Nat) : Int) == 0) = false := by simp; omega
      have HK := hid hk
      clear hk
      generalize nxK s.data.toList J2 = kk at *
      go_wp2_with fail
      have rd3 : Rdr (w2.setCell ⟨w.heap.size, 0, none⟩ (.iface t1 (.pointer (some ⟨b1, 0, none⟩)))) w1.heap.size s J2 := by
        unfold Rdr
        rw [Below.heap_setCell _ _ _ _ (by show w1.heap.size ≠ w.heap.size; omega)]
        exact RD.out
      refine (refuse_p _ w1.heap.size s J2 rd3).mono ?_
      rintro e w4 ⟨⟨bb, rfl, hbb⟩, g4⟩
      have ra4 : w4.heap[w.heap.size]? = some (.cells #[(.iface t1 (.pointer (some ⟨b1, 0, none⟩)))] 101 (0, 0)) := by
        rw [g4.block _ (by simp [World.setCell]; omega) (by simp)]
        simp [World.setCell, Array.getElem?_modify, RA.out]
      have rb4 : w4.heap[w.heap.size + 1]? = some (.cells #[.nilIface] 56 (0, 0)) := by
        rw [g4.block _ (by simp [World.setCell]; omega) (by simp), Below.heap_setCell _ _ _ _ (by show w.heap.size + 1 ≠ w.heap.size; omega)]
        exact RB.out
      have HB := hid hbb
      have G4 := hid g4
      clear hbb g4 rd3 a0 a1 u0 u1
      unfold refusal
      go_wp2
      refine leaves_cons (f := 109) (args := #[.pointer (some ⟨w.heap.size, 0, none⟩), .pointer (some ⟨w.heap.size + 1, 0, none⟩)]) (by simp) (by simp [go_sem]) ?_
      refine (catch_refusal w.heap.size (w.heap.size + 1) 81 bb (.iface t1 (.pointer (some ⟨b1, 0, none⟩))) .nilIface w4 (by simp [World.cell?, ra4]) (by simp [World.frozen?, ra4]) (by simp [World.cell?, rb4]) (by simp [World.frozen?, rb4]) (by omega) (lt_of_block ra4) (lt_of_block rb4)).mono ?_
      rintro e u' w'' ⟨rfl, rfl, hw''⟩
      obtain ⟨q0, q1, q2, q3⟩ := caught hw'' ra4 rb4 HB.out
      refine ⟨.tuple #[.nilIface, .iface 81 (.pointer (some ⟨bb, 0, none⟩))], ?_, ?_⟩
      · simp [results, Tryz.results67, go_sem, q0, q1]
      · have hi : isS T s1 kEnd = false := by
          have : ¬ (tk T s1.k).is = kEnd := fun e => HK.out (HEND.out.2 e)
          simp [isS, this]
        have e5 := need_no HN2.out hi
        obtain ⟨r1, r2, r3, r4, r5⟩ := q3
        have q3' : w2.heap.size ≤ w''.heap.size ∧ w''.os = w2.os ∧ w''.tape = w2.tape ∧ w''.output = w2.output ∧ ∀ k, k < w.heap.size → w''.heap[k]? = w2.heap[k]? := by
          have hs4 := G4.out.size
          refine ⟨by simp [World.setCell] at hs4; omega, r2.trans G4.out.os, r3.trans G4.out.tape, r4.trans G4.out.output, fun k hk => ?_⟩
          rw [r5 k hk, G4.out.block k (by simp [World.setCell]; omega) (by simp), Below.heap_setCell _ _ _ _ (by show k ≠ w.heap.size; omega)]
        refine ⟨whole_grown G1.out (by omega) K2.out q3', Or.inr ⟨by rw [e5]; simp, bb, rfl, ?_⟩⟩
        rw [e5]
        show w''.heap[bb]? = some (.cells #[.int .i64 ((tk T s1.k).pos : Int)] _ (0, 0))
        rw [HPOS.out]
        exact q2
end Go.Proofs.YtcdijppegfcoaabGreatDoor

/-
  OUR OWN TEXT. The program's expr.Read.
-/
namespace Go.Proofs.YtcdijppegfcoaabGreatDoor
open Go.RowKit


set_option maxRecDepth 100000 in
set_option maxHeartbeats 1000000 in
theorem whole_long (s : ByteArray) (hs : 300 < s.size) (f : Value) (w : World) (bl : Addr) (hg : w.cell? ⟨0, 0, none⟩ = some (errV bl)) (hgl : 0 < w.heap.size) :
    Calls Tryz.prog 67 #[.string s, f] w fun e w' => e = .returned (.tuple #[.nilIface, errV bl]) ∧ w.grownBy w' none := by
  have hz : (300 : Int) < ((s.size : Nat) : Int) := by omega
  have a1 := cell_past (cell_past hg (.cells #[.nilIface] 101)) (.cells #[.nilIface] 56)
  unfold errV at hg a1 ⊢
  have hn : ¬ 0 = w.heap.size := by omega
  go_enter_defers Tryz.func67, Tryz.ntmps67
  go_wp2_with fail
  go_region
  go_wp2
  refine ⟨.tuple #[.nilIface, .iface 372 (.pointer (some bl))], ?_, rfl, grown_drew ((World.grownBy_alloc _ _ _).trans (World.grownBy_alloc _ _ _))⟩
  have q0 : ((w.alloc (.cells #[.nilIface] 101)).alloc (.cells #[.iface 372 (.pointer (some bl))] 56)).cell? ⟨w.heap.size, 0, none⟩ = some .nilIface := cell_past (by simp [go_sem]) _
  simp [results, Tryz.results67, go_sem, q0]

/-- What Read leaves; bd: where ErrDeep lies. -/
def ROut (w w' : World) (s2 : St) (e : Ending) (ex : Ex) (bd : Addr) : Prop :=
  w.grownBy w' none ∧ ((0 ≤ s2.bad ∧ ∃ b, e = .returned (.tuple #[.nilIface, .iface 81 (.pointer (some ⟨b, 0, none⟩))]) ∧ w'.heap[b]? = some (.cells #[.int .i64 s2.bad] 92 (0, 0))) ∨
    (s2.bad < 0 ∧ ∃ v H' m, Fz H' w' ∧ PRep m H' v ex ∧ exDeep m ex ≤ 400 ∧ ((40 < exDeep m ex ∧ e = .returned (.tuple #[.nilIface, errV bd])) ∨ (exDeep m ex ≤ 40 ∧ e = .returned (.tuple #[v, .nilIface])))))

set_option maxRecDepth 100000 in
set_option maxHeartbeats 2000000 in
theorem read_p (s : ByteArray) (hs : s.size ≤ 300) (w : World) (n : Nat) (ex : Ex) (s1 : St) (hx : expS (toksOf exKw s) n ⟨0, -1⟩ = some (ex, s1)) (bd : Addr) (hg : w.cell? ⟨1, 0, none⟩ = some (errV bd)) (hgl : 1 < w.heap.size) :
    Calls Tryz.prog 44 #[.string s] w fun e w' => ROut w w' (needS (toksOf exKw s) s1 kEnd) e ex bd := by
  have HC := hid (whole_p s hs w n ex s1 hx)
  clear hx
  go_enter Tryz.func44, Tryz.ntmps44
  go_wp2_with fail
  refine HC.out.mono ?_
  rintro e w1 ⟨g1, (⟨hb, v, H', m, rfl, z1, r1, d1⟩ | ⟨hb, b, rfl, hbk⟩)⟩
  · obtain ⟨t1, b1, ht1, rfl, hb1, hc1⟩ := r1.dat z1
    have hg1 : w1.cell? ⟨1, 0, none⟩ = some (errV bd) := by
      rw [World.cell?_of_block (a := ⟨1, 0, none⟩) (g1.block _ hgl (by simp))]
      exact hg
    have hg2 := cell_past hg1 (.cells #[.int .i64 ((exDeep m ex : Nat) : Int)] 161)
    have hme := mDepth_any ht1 b1 (exDeep m ex) _ hc1
    have Q := hid (And.intro hb (And.intro z1 (And.intro r1 d1)))
    have G1 := hid g1
    clear hb z1 r1 g1 hg hg1 hb1 hc1 HC
    unfold errV at hg2
    by_cases hd : 40 < exDeep m ex
    · have hd2 : (40 : Int) < ((exDeep m ex : Nat) : Int) := by omega
      go_wp2_with (go_at_call 241; refine (depth_p _ _).mono ?_; rintro e w' ⟨rfl, rfl⟩)
      go_region
      go_wp2
      go_ret2
      obtain ⟨hb, z1, r1, d1⟩ := Q.out
      exact ⟨grown_drew (G1.out.trans (World.grownBy_alloc _ _ _)), Or.inr ⟨hb, _, H', m, (z1.alloc _).drew, r1, d1, Or.inl ⟨hd, rfl⟩⟩⟩
    · have hd2 : ¬ (40 : Int) < ((exDeep m ex : Nat) : Int) := by omega
      go_wp2_with (go_at_call 241; refine (depth_p _ _).mono ?_; rintro e w' ⟨rfl, rfl⟩)
      go_ret2
      obtain ⟨hb, z1, r1, d1⟩ := Q.out
      exact ⟨G1.out.trans (World.grownBy_alloc _ _ _), Or.inr ⟨hb, _, H', m, z1.alloc _, r1, d1, Or.inr ⟨by omega, rfl⟩⟩⟩
  · have Q := hid (And.intro g1 (And.intro hb hbk))
    clear g1 hb hbk HC
    go_wp2
    go_ret2
    exact ⟨Q.out.1, Or.inl ⟨Q.out.2.1, b, rfl, Q.out.2.2⟩⟩

set_option maxRecDepth 100000 in
theorem read_plong (s : ByteArray) (hs : 300 < s.size) (w : World) (bl : Addr) (hg : w.cell? ⟨0, 0, none⟩ = some (errV bl)) (hgl : 0 < w.heap.size) :
    Calls Tryz.prog 44 #[.string s] w fun e w' => e = .returned (.tuple #[.nilIface, errV bl]) ∧ w.grownBy w' none := by
  have HC := hid (whole_long s hs (.func (.func 68) #[] #[]) w bl hg hgl)
  clear hg
  unfold errV at HC ⊢
  go_enter Tryz.func44, Tryz.ntmps44
  go_wp2_with (go_at_call 67; refine HC.out.mono ?_; rintro e w' ⟨rfl, g1⟩; have G1 := hid g1; clear g1)
  go_ret2
  exact ⟨rfl, G1.out⟩
end Go.Proofs.YtcdijppegfcoaabGreatDoor

/-
  OUR OWN TEXT. Assertions of expressions to their kinds.
-/
namespace Go.Proofs.YtcdijppegfcoaabGreatDoor
open Go.RowKit
theorem as_Name_Name (b : Nat) (w : World) : (Instr.typeAssert (.iface 157 (.pointer (some ⟨b, 0, none⟩))) 101 157 true).run Tryz.prog w = .ok (.tuple #[.pointer (some ⟨b, 0, none⟩), .bool true]) w := by kernel_rfl
theorem as_Name_Number (b : Nat) (w : World) : (Instr.typeAssert (.iface 157 (.pointer (some ⟨b, 0, none⟩))) 101 175 true).run Tryz.prog w = .ok (.tuple #[.pointer none, .bool false]) w := by kernel_rfl
theorem as_Name_Fun (b : Nat) (w : World) : (Instr.typeAssert (.iface 157 (.pointer (some ⟨b, 0, none⟩))) 101 178 true).run Tryz.prog w = .ok (.tuple #[.pointer none, .bool false]) w := by kernel_rfl
theorem as_Name_If (b : Nat) (w : World) : (Instr.typeAssert (.iface 157 (.pointer (some ⟨b, 0, none⟩))) 101 181 true).run Tryz.prog w = .ok (.tuple #[.pointer none, .bool false]) w := by kernel_rfl
theorem as_Name_Let (b : Nat) (w : World) : (Instr.typeAssert (.iface 157 (.pointer (some ⟨b, 0, none⟩))) 101 184 true).run Tryz.prog w = .ok (.tuple #[.pointer none, .bool false]) w := by kernel_rfl
theorem as_Name_LetRec (b : Nat) (w : World) : (Instr.typeAssert (.iface 157 (.pointer (some ⟨b, 0, none⟩))) 101 190 true).run Tryz.prog w = .ok (.tuple #[.pointer none, .bool false]) w := by kernel_rfl
theorem as_Name_Apply (b : Nat) (w : World) : (Instr.typeAssert (.iface 157 (.pointer (some ⟨b, 0, none⟩))) 101 195 true).run Tryz.prog w = .ok (.tuple #[.pointer none, .bool false]) w := by kernel_rfl
theorem as_Name_Pair (b : Nat) (w : World) : (Instr.typeAssert (.iface 157 (.pointer (some ⟨b, 0, none⟩))) 101 198 true).run Tryz.prog w = .ok (.tuple #[.pointer none, .bool false]) w := by kernel_rfl
theorem as_Number_Name (b : Nat) (w : World) : (Instr.typeAssert (.iface 175 (.pointer (some ⟨b, 0, none⟩))) 101 157 true).run Tryz.prog w = .ok (.tuple #[.pointer none, .bool false]) w := by kernel_rfl
theorem as_Number_Number (b : Nat) (w : World) : (Instr.typeAssert (.iface 175 (.pointer (some ⟨b, 0, none⟩))) 101 175 true).run Tryz.prog w = .ok (.tuple #[.pointer (some ⟨b, 0, none⟩), .bool true]) w := by kernel_rfl
theorem as_Number_Fun (b : Nat) (w : World) : (Instr.typeAssert (.iface 175 (.pointer (some ⟨b, 0, none⟩))) 101 178 true).run Tryz.prog w = .ok (.tuple #[.pointer none, .bool false]) w := by kernel_rfl
theorem as_Number_If (b : Nat) (w : World) : (Instr.typeAssert (.iface 175 (.pointer (some ⟨b, 0, none⟩))) 101 181 true).run Tryz.prog w = .ok (.tuple #[.pointer none, .bool false]) w := by kernel_rfl
theorem as_Number_Let (b : Nat) (w : World) : (Instr.typeAssert (.iface 175 (.pointer (some ⟨b, 0, none⟩))) 101 184 true).run Tryz.prog w = .ok (.tuple #[.pointer none, .bool false]) w := by kernel_rfl
theorem as_Number_LetRec (b : Nat) (w : World) : (Instr.typeAssert (.iface 175 (.pointer (some ⟨b, 0, none⟩))) 101 190 true).run Tryz.prog w = .ok (.tuple #[.pointer none, .bool false]) w := by kernel_rfl
theorem as_Number_Apply (b : Nat) (w : World) : (Instr.typeAssert (.iface 175 (.pointer (some ⟨b, 0, none⟩))) 101 195 true).run Tryz.prog w = .ok (.tuple #[.pointer none, .bool false]) w := by kernel_rfl
theorem as_Number_Pair (b : Nat) (w : World) : (Instr.typeAssert (.iface 175 (.pointer (some ⟨b, 0, none⟩))) 101 198 true).run Tryz.prog w = .ok (.tuple #[.pointer none, .bool false]) w := by kernel_rfl
theorem as_Fun_Name (b : Nat) (w : World) : (Instr.typeAssert (.iface 178 (.pointer (some ⟨b, 0, none⟩))) 101 157 true).run Tryz.prog w = .ok (.tuple #[.pointer none, .bool false]) w := by kernel_rfl
theorem as_Fun_Number (b : Nat) (w : World) : (Instr.typeAssert (.iface 178 (.pointer (some ⟨b, 0, none⟩))) 101 175 true).run Tryz.prog w = .ok (.tuple #[.pointer none, .bool false]) w := by kernel_rfl
theorem as_Fun_Fun (b : Nat) (w : World) : (Instr.typeAssert (.iface 178 (.pointer (some ⟨b, 0, none⟩))) 101 178 true).run Tryz.prog w = .ok (.tuple #[.pointer (some ⟨b, 0, none⟩), .bool true]) w := by kernel_rfl
theorem as_Fun_If (b : Nat) (w : World) : (Instr.typeAssert (.iface 178 (.pointer (some ⟨b, 0, none⟩))) 101 181 true).run Tryz.prog w = .ok (.tuple #[.pointer none, .bool false]) w := by kernel_rfl
theorem as_Fun_Let (b : Nat) (w : World) : (Instr.typeAssert (.iface 178 (.pointer (some ⟨b, 0, none⟩))) 101 184 true).run Tryz.prog w = .ok (.tuple #[.pointer none, .bool false]) w := by kernel_rfl
theorem as_Fun_LetRec (b : Nat) (w : World) : (Instr.typeAssert (.iface 178 (.pointer (some ⟨b, 0, none⟩))) 101 190 true).run Tryz.prog w = .ok (.tuple #[.pointer none, .bool false]) w := by kernel_rfl
theorem as_Fun_Apply (b : Nat) (w : World) : (Instr.typeAssert (.iface 178 (.pointer (some ⟨b, 0, none⟩))) 101 195 true).run Tryz.prog w = .ok (.tuple #[.pointer none, .bool false]) w := by kernel_rfl
theorem as_Fun_Pair (b : Nat) (w : World) : (Instr.typeAssert (.iface 178 (.pointer (some ⟨b, 0, none⟩))) 101 198 true).run Tryz.prog w = .ok (.tuple #[.pointer none, .bool false]) w := by kernel_rfl
theorem as_If_Name (b : Nat) (w : World) : (Instr.typeAssert (.iface 181 (.pointer (some ⟨b, 0, none⟩))) 101 157 true).run Tryz.prog w = .ok (.tuple #[.pointer none, .bool false]) w := by kernel_rfl
theorem as_If_Number (b : Nat) (w : World) : (Instr.typeAssert (.iface 181 (.pointer (some ⟨b, 0, none⟩))) 101 175 true).run Tryz.prog w = .ok (.tuple #[.pointer none, .bool false]) w := by kernel_rfl
theorem as_If_Fun (b : Nat) (w : World) : (Instr.typeAssert (.iface 181 (.pointer (some ⟨b, 0, none⟩))) 101 178 true).run Tryz.prog w = .ok (.tuple #[.pointer none, .bool false]) w := by kernel_rfl
theorem as_If_If (b : Nat) (w : World) : (Instr.typeAssert (.iface 181 (.pointer (some ⟨b, 0, none⟩))) 101 181 true).run Tryz.prog w = .ok (.tuple #[.pointer (some ⟨b, 0, none⟩), .bool true]) w := by kernel_rfl
theorem as_If_Let (b : Nat) (w : World) : (Instr.typeAssert (.iface 181 (.pointer (some ⟨b, 0, none⟩))) 101 184 true).run Tryz.prog w = .ok (.tuple #[.pointer none, .bool false]) w := by kernel_rfl
theorem as_If_LetRec (b : Nat) (w : World) : (Instr.typeAssert (.iface 181 (.pointer (some ⟨b, 0, none⟩))) 101 190 true).run Tryz.prog w = .ok (.tuple #[.pointer none, .bool false]) w := by kernel_rfl
theorem as_If_Apply (b : Nat) (w : World) : (Instr.typeAssert (.iface 181 (.pointer (some ⟨b, 0, none⟩))) 101 195 true).run Tryz.prog w = .ok (.tuple #[.pointer none, .bool false]) w := by kernel_rfl
theorem as_If_Pair (b : Nat) (w : World) : (Instr.typeAssert (.iface 181 (.pointer (some ⟨b, 0, none⟩))) 101 198 true).run Tryz.prog w = .ok (.tuple #[.pointer none, .bool false]) w := by kernel_rfl
theorem as_Let_Name (b : Nat) (w : World) : (Instr.typeAssert (.iface 184 (.pointer (some ⟨b, 0, none⟩))) 101 157 true).run Tryz.prog w = .ok (.tuple #[.pointer none, .bool false]) w := by kernel_rfl
theorem as_Let_Number (b : Nat) (w : World) : (Instr.typeAssert (.iface 184 (.pointer (some ⟨b, 0, none⟩))) 101 175 true).run Tryz.prog w = .ok (.tuple #[.pointer none, .bool false]) w := by kernel_rfl
theorem as_Let_Fun (b : Nat) (w : World) : (Instr.typeAssert (.iface 184 (.pointer (some ⟨b, 0, none⟩))) 101 178 true).run Tryz.prog w = .ok (.tuple #[.pointer none, .bool false]) w := by kernel_rfl
theorem as_Let_If (b : Nat) (w : World) : (Instr.typeAssert (.iface 184 (.pointer (some ⟨b, 0, none⟩))) 101 181 true).run Tryz.prog w = .ok (.tuple #[.pointer none, .bool false]) w := by kernel_rfl
theorem as_Let_Let (b : Nat) (w : World) : (Instr.typeAssert (.iface 184 (.pointer (some ⟨b, 0, none⟩))) 101 184 true).run Tryz.prog w = .ok (.tuple #[.pointer (some ⟨b, 0, none⟩), .bool true]) w := by kernel_rfl
theorem as_Let_LetRec (b : Nat) (w : World) : (Instr.typeAssert (.iface 184 (.pointer (some ⟨b, 0, none⟩))) 101 190 true).run Tryz.prog w = .ok (.tuple #[.pointer none, .bool false]) w := by kernel_rfl
theorem as_Let_Apply (b : Nat) (w : World) : (Instr.typeAssert (.iface 184 (.pointer (some ⟨b, 0, none⟩))) 101 195 true).run Tryz.prog w = .ok (.tuple #[.pointer none, .bool false]) w := by kernel_rfl
theorem as_Let_Pair (b : Nat) (w : World) : (Instr.typeAssert (.iface 184 (.pointer (some ⟨b, 0, none⟩))) 101 198 true).run Tryz.prog w = .ok (.tuple #[.pointer none, .bool false]) w := by kernel_rfl
theorem as_LetRec_Name (b : Nat) (w : World) : (Instr.typeAssert (.iface 190 (.pointer (some ⟨b, 0, none⟩))) 101 157 true).run Tryz.prog w = .ok (.tuple #[.pointer none, .bool false]) w := by kernel_rfl
theorem as_LetRec_Number (b : Nat) (w : World) : (Instr.typeAssert (.iface 190 (.pointer (some ⟨b, 0, none⟩))) 101 175 true).run Tryz.prog w = .ok (.tuple #[.pointer none, .bool false]) w := by kernel_rfl
theorem as_LetRec_Fun (b : Nat) (w : World) : (Instr.typeAssert (.iface 190 (.pointer (some ⟨b, 0, none⟩))) 101 178 true).run Tryz.prog w = .ok (.tuple #[.pointer none, .bool false]) w := by kernel_rfl
theorem as_LetRec_If (b : Nat) (w : World) : (Instr.typeAssert (.iface 190 (.pointer (some ⟨b, 0, none⟩))) 101 181 true).run Tryz.prog w = .ok (.tuple #[.pointer none, .bool false]) w := by kernel_rfl
theorem as_LetRec_Let (b : Nat) (w : World) : (Instr.typeAssert (.iface 190 (.pointer (some ⟨b, 0, none⟩))) 101 184 true).run Tryz.prog w = .ok (.tuple #[.pointer none, .bool false]) w := by kernel_rfl
theorem as_LetRec_LetRec (b : Nat) (w : World) : (Instr.typeAssert (.iface 190 (.pointer (some ⟨b, 0, none⟩))) 101 190 true).run Tryz.prog w = .ok (.tuple #[.pointer (some ⟨b, 0, none⟩), .bool true]) w := by kernel_rfl
theorem as_LetRec_Apply (b : Nat) (w : World) : (Instr.typeAssert (.iface 190 (.pointer (some ⟨b, 0, none⟩))) 101 195 true).run Tryz.prog w = .ok (.tuple #[.pointer none, .bool false]) w := by kernel_rfl
theorem as_LetRec_Pair (b : Nat) (w : World) : (Instr.typeAssert (.iface 190 (.pointer (some ⟨b, 0, none⟩))) 101 198 true).run Tryz.prog w = .ok (.tuple #[.pointer none, .bool false]) w := by kernel_rfl
theorem as_Apply_Name (b : Nat) (w : World) : (Instr.typeAssert (.iface 195 (.pointer (some ⟨b, 0, none⟩))) 101 157 true).run Tryz.prog w = .ok (.tuple #[.pointer none, .bool false]) w := by kernel_rfl
theorem as_Apply_Number (b : Nat) (w : World) : (Instr.typeAssert (.iface 195 (.pointer (some ⟨b, 0, none⟩))) 101 175 true).run Tryz.prog w = .ok (.tuple #[.pointer none, .bool false]) w := by kernel_rfl
theorem as_Apply_Fun (b : Nat) (w : World) : (Instr.typeAssert (.iface 195 (.pointer (some ⟨b, 0, none⟩))) 101 178 true).run Tryz.prog w = .ok (.tuple #[.pointer none, .bool false]) w := by kernel_rfl
theorem as_Apply_If (b : Nat) (w : World) : (Instr.typeAssert (.iface 195 (.pointer (some ⟨b, 0, none⟩))) 101 181 true).run Tryz.prog w = .ok (.tuple #[.pointer none, .bool false]) w := by kernel_rfl
theorem as_Apply_Let (b : Nat) (w : World) : (Instr.typeAssert (.iface 195 (.pointer (some ⟨b, 0, none⟩))) 101 184 true).run Tryz.prog w = .ok (.tuple #[.pointer none, .bool false]) w := by kernel_rfl
theorem as_Apply_LetRec (b : Nat) (w : World) : (Instr.typeAssert (.iface 195 (.pointer (some ⟨b, 0, none⟩))) 101 190 true).run Tryz.prog w = .ok (.tuple #[.pointer none, .bool false]) w := by kernel_rfl
theorem as_Apply_Apply (b : Nat) (w : World) : (Instr.typeAssert (.iface 195 (.pointer (some ⟨b, 0, none⟩))) 101 195 true).run Tryz.prog w = .ok (.tuple #[.pointer (some ⟨b, 0, none⟩), .bool true]) w := by kernel_rfl
theorem as_Apply_Pair (b : Nat) (w : World) : (Instr.typeAssert (.iface 195 (.pointer (some ⟨b, 0, none⟩))) 101 198 true).run Tryz.prog w = .ok (.tuple #[.pointer none, .bool false]) w := by kernel_rfl
theorem as_Pair_Name (b : Nat) (w : World) : (Instr.typeAssert (.iface 198 (.pointer (some ⟨b, 0, none⟩))) 101 157 true).run Tryz.prog w = .ok (.tuple #[.pointer none, .bool false]) w := by kernel_rfl
theorem as_Pair_Number (b : Nat) (w : World) : (Instr.typeAssert (.iface 198 (.pointer (some ⟨b, 0, none⟩))) 101 175 true).run Tryz.prog w = .ok (.tuple #[.pointer none, .bool false]) w := by kernel_rfl
theorem as_Pair_Fun (b : Nat) (w : World) : (Instr.typeAssert (.iface 198 (.pointer (some ⟨b, 0, none⟩))) 101 178 true).run Tryz.prog w = .ok (.tuple #[.pointer none, .bool false]) w := by kernel_rfl
theorem as_Pair_If (b : Nat) (w : World) : (Instr.typeAssert (.iface 198 (.pointer (some ⟨b, 0, none⟩))) 101 181 true).run Tryz.prog w = .ok (.tuple #[.pointer none, .bool false]) w := by kernel_rfl
theorem as_Pair_Let (b : Nat) (w : World) : (Instr.typeAssert (.iface 198 (.pointer (some ⟨b, 0, none⟩))) 101 184 true).run Tryz.prog w = .ok (.tuple #[.pointer none, .bool false]) w := by kernel_rfl
theorem as_Pair_LetRec (b : Nat) (w : World) : (Instr.typeAssert (.iface 198 (.pointer (some ⟨b, 0, none⟩))) 101 190 true).run Tryz.prog w = .ok (.tuple #[.pointer none, .bool false]) w := by kernel_rfl
theorem as_Pair_Apply (b : Nat) (w : World) : (Instr.typeAssert (.iface 198 (.pointer (some ⟨b, 0, none⟩))) 101 195 true).run Tryz.prog w = .ok (.tuple #[.pointer none, .bool false]) w := by kernel_rfl
theorem as_Pair_Pair (b : Nat) (w : World) : (Instr.typeAssert (.iface 198 (.pointer (some ⟨b, 0, none⟩))) 101 198 true).run Tryz.prog w = .ok (.tuple #[.pointer (some ⟨b, 0, none⟩), .bool true]) w := by kernel_rfl
end Go.Proofs.YtcdijppegfcoaabGreatDoor

/-
  OUR OWN TEXT. The program's expr.Text, kind by kind.
-/
namespace Go.Proofs.YtcdijppegfcoaabGreatDoor
open Go.RowKit

/-- The text of a part, asked for in whatever world has grown out of this one. -/
def TXP (f : FuncId) (w : World) (v : Value) (t : List UInt8) : Prop := ∀ wx, w.grownBy wx none → Calls Tryz.prog f #[v] wx fun e w' => e = .returned (.string (B t)) ∧ wx.grownBy w' none
theorem TXP.at {f : FuncId} {w : World} {v : Value} {t : List UInt8} (h : TXP f w v t) {wx : World} (hg : w.grownBy wx none) : TXP f wx v t := fun wy hy => h wy (hg.trans hy)

set_option maxRecDepth 100000 in
set_option maxHeartbeats 8000000 in
theorem ptext_name (w : World) (b : Nat) (nm : List UInt8) (hnm : nm.length ≤ 1000000000)  (c1 : w.cell? ⟨b, 1, none⟩ = some (.string (B nm))) :
    Calls Tryz.prog 49 #[(.iface 157 (.pointer (some ⟨b, 0, none⟩)))] w fun e w' => e = .returned (.string (B (nm))) ∧ w.grownBy w' none := by
  have qName := as_Name_Name b
  have sznm : (B nm).size ≤ 1000000000 := by rw [size_B]; exact hnm
  go_enter Tryz.func49, Tryz.ntmps49
  go_wp2
  go_ret
  exact ⟨rfl, World.grownBy.refl _ _⟩

set_option maxRecDepth 100000 in
set_option maxHeartbeats 8000000 in
theorem ptext_number (w : World) (b : Nat) (nm : List UInt8) (hnm : nm.length ≤ 1000000000)  (c1 : w.cell? ⟨b, 1, none⟩ = some (.string (B nm))) :
    Calls Tryz.prog 49 #[(.iface 175 (.pointer (some ⟨b, 0, none⟩)))] w fun e w' => e = .returned (.string (B (nm))) ∧ w.grownBy w' none := by
  have qName := as_Number_Name b
  have qNumber := as_Number_Number b
  have sznm : (B nm).size ≤ 1000000000 := by rw [size_B]; exact hnm
  go_enter Tryz.func49, Tryz.ntmps49
  go_wp2
  go_ret
  exact ⟨rfl, World.grownBy.refl _ _⟩

set_option maxRecDepth 100000 in
set_option maxHeartbeats 8000000 in
theorem ptext_fun (w : World) (b : Nat) (t0 b0 : Nat) (x0 : List UInt8) (nm : List UInt8) (hnm : nm.length ≤ 1000000000) (l0 : x0.length ≤ 1000000000)  (hb : b < w.heap.size) (c1 : w.cell? ⟨b, 1, none⟩ = some (.string (B nm))) (c2 : w.cell? ⟨b, 2, none⟩ = some (.iface t0 (.pointer (some ⟨b0, 0, none⟩)))) (ih0 : TXP 49 w (.iface t0 (.pointer (some ⟨b0, 0, none⟩))) x0) :
    Calls Tryz.prog 49 #[(.iface 178 (.pointer (some ⟨b, 0, none⟩)))] w fun e w' => e = .returned (.string (B (tFun ++ nm ++ tArrow ++ x0))) ∧ w.grownBy w' none := by
  have qName := as_Fun_Name b
  have qNumber := as_Fun_Number b
  have qFun := as_Fun_Fun b
  have sznm : (B nm).size ≤ 1000000000 := by rw [size_B]; exact hnm
  have sz0 : (B x0).size ≤ 1000000000 := by rw [size_B]; exact l0
  have k1 : ¬ 9223372036854775807 < 4 + (B nm).size := by omega
  have k2 : ¬ 9223372036854775807 < 4 + (B nm).size + 4 := by omega
  have k3 : ¬ 9223372036854775807 < 4 + (B nm).size + 4 + (B x0).size := by omega
  have IH0 := hid ih0
  clear ih0
  go_enter Tryz.func49, Tryz.ntmps49
  go_wp2_with fail
  go_region_held3 (fun wx => wx.cell? ⟨b, 1, none⟩ = some (.string (B nm)) ∧ wx.cell? ⟨b, 2, none⟩ = some (.iface t0 (.pointer (some ⟨b0, 0, none⟩)))) (first | assumption | exact ⟨by assumption, by assumption⟩ | go_keep) (first | (go_at_call_of 49 (Value.iface t0 (Value.pointer (some ⟨b0, 0, none⟩))); refine (IH0.out _ ?_).mono ?_; exact (grown_drew (World.grownBy.refl _ _)); rintro e w1 ⟨rfl, g0⟩; have G0 : Hid (w.grownBy w1 none) := World.grownBy.trans (grown_drew (World.grownBy.refl _ _)) g0; have d0_1 := grown_cell c1 hb G0.out; have d0_2 := grown_cell c2 hb G0.out; clear g0))
  all_goals
    go_wp2
    go_ret
    refine ⟨?_, G0.out⟩
    show Ending.returned (.string (B tFun ++ B nm ++ B tArrow ++ B x0)) = _
    rw [append_B, append_B, append_B]
end Go.Proofs.YtcdijppegfcoaabGreatDoor

/-
  OUR OWN TEXT. The program's expr.Text: if, an application, a pair.
-/
namespace Go.Proofs.YtcdijppegfcoaabGreatDoor
open Go.RowKit

set_option maxRecDepth 100000 in
set_option maxHeartbeats 8000000 in
theorem ptext_if (w : World) (b : Nat) (t0 b0 : Nat) (x0 : List UInt8) (t1 b1 : Nat) (x1 : List UInt8) (t2 b2 : Nat) (x2 : List UInt8) (l0 : x0.length ≤ 1000000000) (l1 : x1.length ≤ 1000000000) (l2 : x2.length ≤ 1000000000)  (hb : b < w.heap.size) (c1 : w.cell? ⟨b, 1, none⟩ = some (.iface t0 (.pointer (some ⟨b0, 0, none⟩)))) (c2 : w.cell? ⟨b, 2, none⟩ = some (.iface t1 (.pointer (some ⟨b1, 0, none⟩)))) (c3 : w.cell? ⟨b, 3, none⟩ = some (.iface t2 (.pointer (some ⟨b2, 0, none⟩)))) (ih0 : TXP 49 w (.iface t0 (.pointer (some ⟨b0, 0, none⟩))) x0) (ih1 : TXP 49 w (.iface t1 (.pointer (some ⟨b1, 0, none⟩))) x1) (ih2 : TXP 49 w (.iface t2 (.pointer (some ⟨b2, 0, none⟩))) x2) :
    Calls Tryz.prog 49 #[(.iface 181 (.pointer (some ⟨b, 0, none⟩)))] w fun e w' => e = .returned (.string (B (tIf ++ x0 ++ tThen ++ x1 ++ tElse ++ x2))) ∧ w.grownBy w' none := by
  have qName := as_If_Name b
  have qNumber := as_If_Number b
  have qFun := as_If_Fun b
  have qIf := as_If_If b
  have sz0 : (B x0).size ≤ 1000000000 := by rw [size_B]; exact l0
  have sz1 : (B x1).size ≤ 1000000000 := by rw [size_B]; exact l1
  have sz2 : (B x2).size ≤ 1000000000 := by rw [size_B]; exact l2
  have k1 : ¬ 9223372036854775807 < 3 + (B x0).size := by omega
  have k2 : ¬ 9223372036854775807 < 3 + (B x0).size + 6 := by omega
  have k3 : ¬ 9223372036854775807 < 3 + (B x0).size + 6 + (B x1).size := by omega
  have k4 : ¬ 9223372036854775807 < 3 + (B x0).size + 6 + (B x1).size + 6 := by omega
  have k5 : ¬ 9223372036854775807 < 3 + (B x0).size + 6 + (B x1).size + 6 + (B x2).size := by omega
  have IH0 := hid ih0
  have IH1 := hid ih1
  have IH2 := hid ih2
  clear ih0 ih1 ih2
  go_enter Tryz.func49, Tryz.ntmps49
  go_wp2_with fail
  go_region_held3 (fun wx => wx.cell? ⟨b, 1, none⟩ = some (.iface t0 (.pointer (some ⟨b0, 0, none⟩))) ∧ wx.cell? ⟨b, 2, none⟩ = some (.iface t1 (.pointer (some ⟨b1, 0, none⟩))) ∧ wx.cell? ⟨b, 3, none⟩ = some (.iface t2 (.pointer (some ⟨b2, 0, none⟩)))) (first | assumption | exact ⟨by assumption, by assumption, by assumption⟩ | go_keep) (first | (go_at_call_of 49 (Value.iface t0 (Value.pointer (some ⟨b0, 0, none⟩))); refine (IH0.out _ ?_).mono ?_; exact (grown_drew (World.grownBy.refl _ _)); rintro e w1 ⟨rfl, g0⟩; have G0 : Hid (w.grownBy w1 none) := World.grownBy.trans (grown_drew (World.grownBy.refl _ _)) g0; have d0_1 := grown_cell c1 hb G0.out; have d0_2 := grown_cell c2 hb G0.out; have d0_3 := grown_cell c3 hb G0.out; clear g0) | (go_at_call_of 49 (Value.iface t1 (Value.pointer (some ⟨b1, 0, none⟩))); refine (IH1.out _ ?_).mono ?_; exact G0.out; rintro e w2 ⟨rfl, g1⟩; have G1 : Hid (w.grownBy w2 none) := World.grownBy.trans G0.out g1; have d1_1 := grown_cell c1 hb G1.out; have d1_2 := grown_cell c2 hb G1.out; have d1_3 := grown_cell c3 hb G1.out; clear g1) | (go_at_call_of 49 (Value.iface t2 (Value.pointer (some ⟨b2, 0, none⟩))); refine (IH2.out _ ?_).mono ?_; exact G1.out; rintro e w3 ⟨rfl, g2⟩; have G2 : Hid (w.grownBy w3 none) := World.grownBy.trans G1.out g2; have d2_1 := grown_cell c1 hb G2.out; have d2_2 := grown_cell c2 hb G2.out; have d2_3 := grown_cell c3 hb G2.out; clear g2))
  all_goals
    go_wp2
    go_ret
    refine ⟨?_, G2.out⟩
    show Ending.returned (.string (B tIf ++ B x0 ++ B tThen ++ B x1 ++ B tElse ++ B x2)) = _
    rw [append_B, append_B, append_B, append_B, append_B]

set_option maxRecDepth 100000 in
set_option maxHeartbeats 8000000 in
theorem ptext_apply (w : World) (b : Nat) (t0 b0 : Nat) (x0 : List UInt8) (t1 b1 : Nat) (x1 : List UInt8) (l0 : x0.length ≤ 1000000000) (l1 : x1.length ≤ 1000000000)  (hb : b < w.heap.size) (c1 : w.cell? ⟨b, 1, none⟩ = some (.iface t0 (.pointer (some ⟨b0, 0, none⟩)))) (c2 : w.cell? ⟨b, 2, none⟩ = some (.iface t1 (.pointer (some ⟨b1, 0, none⟩)))) (ih0 : TXP 79 w (.iface t0 (.pointer (some ⟨b0, 0, none⟩))) x0) (ih1 : TXP 80 w (.iface t1 (.pointer (some ⟨b1, 0, none⟩))) x1) :
    Calls Tryz.prog 49 #[(.iface 195 (.pointer (some ⟨b, 0, none⟩)))] w fun e w' => e = .returned (.string (B (x0 ++ tSp ++ x1))) ∧ w.grownBy w' none := by
  have qName := as_Apply_Name b
  have qNumber := as_Apply_Number b
  have qFun := as_Apply_Fun b
  have qIf := as_Apply_If b
  have qLet := as_Apply_Let b
  have qLetRec := as_Apply_LetRec b
  have qApply := as_Apply_Apply b
  have sz0 : (B x0).size ≤ 1000000000 := by rw [size_B]; exact l0
  have sz1 : (B x1).size ≤ 1000000000 := by rw [size_B]; exact l1
  have k1 : ¬ 9223372036854775807 < (B x0).size + 1 := by omega
  have k2 : ¬ 9223372036854775807 < (B x0).size + 1 + (B x1).size := by omega
  have IH0 := hid ih0
  have IH1 := hid ih1
  clear ih0 ih1
  go_enter Tryz.func49, Tryz.ntmps49
  go_wp2_with fail
  go_region_held3 (fun wx => wx.cell? ⟨b, 1, none⟩ = some (.iface t0 (.pointer (some ⟨b0, 0, none⟩))) ∧ wx.cell? ⟨b, 2, none⟩ = some (.iface t1 (.pointer (some ⟨b1, 0, none⟩)))) (first | assumption | exact ⟨by assumption, by assumption⟩ | go_keep) (first | (go_at_call_of 79 (Value.iface t0 (Value.pointer (some ⟨b0, 0, none⟩))); refine (IH0.out _ ?_).mono ?_; exact (grown_drew (World.grownBy.refl _ _)); rintro e w1 ⟨rfl, g0⟩; have G0 : Hid (w.grownBy w1 none) := World.grownBy.trans (grown_drew (World.grownBy.refl _ _)) g0; have d0_1 := grown_cell c1 hb G0.out; have d0_2 := grown_cell c2 hb G0.out; clear g0) | (go_at_call_of 80 (Value.iface t1 (Value.pointer (some ⟨b1, 0, none⟩))); refine (IH1.out _ ?_).mono ?_; exact G0.out; rintro e w2 ⟨rfl, g1⟩; have G1 : Hid (w.grownBy w2 none) := World.grownBy.trans G0.out g1; have d1_1 := grown_cell c1 hb G1.out; have d1_2 := grown_cell c2 hb G1.out; clear g1))
  all_goals
    go_wp2
    go_ret
    refine ⟨?_, G1.out⟩
    show Ending.returned (.string (B x0 ++ B tSp ++ B x1)) = _
    rw [append_B, append_B]

set_option maxRecDepth 100000 in
set_option maxHeartbeats 8000000 in
theorem ptext_pair (w : World) (b : Nat) (t0 b0 : Nat) (x0 : List UInt8) (t1 b1 : Nat) (x1 : List UInt8) (l0 : x0.length ≤ 1000000000) (l1 : x1.length ≤ 1000000000)  (hb : b < w.heap.size) (c1 : w.cell? ⟨b, 1, none⟩ = some (.iface t0 (.pointer (some ⟨b0, 0, none⟩)))) (c2 : w.cell? ⟨b, 2, none⟩ = some (.iface t1 (.pointer (some ⟨b1, 0, none⟩)))) (ih0 : TXP 49 w (.iface t0 (.pointer (some ⟨b0, 0, none⟩))) x0) (ih1 : TXP 49 w (.iface t1 (.pointer (some ⟨b1, 0, none⟩))) x1) :
    Calls Tryz.prog 49 #[(.iface 198 (.pointer (some ⟨b, 0, none⟩)))] w fun e w' => e = .returned (.string (B (tOpen ++ x0 ++ tComma ++ x1 ++ tShut))) ∧ w.grownBy w' none := by
  have qName := as_Pair_Name b
  have qNumber := as_Pair_Number b
  have qFun := as_Pair_Fun b
  have qIf := as_Pair_If b
  have qLet := as_Pair_Let b
  have qLetRec := as_Pair_LetRec b
  have qApply := as_Pair_Apply b
  have qPair := as_Pair_Pair b
  have sz0 : (B x0).size ≤ 1000000000 := by rw [size_B]; exact l0
  have sz1 : (B x1).size ≤ 1000000000 := by rw [size_B]; exact l1
  have k1 : ¬ 9223372036854775807 < 1 + (B x0).size := by omega
  have k2 : ¬ 9223372036854775807 < 1 + (B x0).size + 2 := by omega
  have k3 : ¬ 9223372036854775807 < 1 + (B x0).size + 2 + (B x1).size := by omega
  have k4 : ¬ 9223372036854775807 < 1 + (B x0).size + 2 + (B x1).size + 1 := by omega
  have IH0 := hid ih0
  have IH1 := hid ih1
  clear ih0 ih1
  go_enter Tryz.func49, Tryz.ntmps49
  go_wp2_with fail
  go_region_held3 (fun wx => wx.cell? ⟨b, 1, none⟩ = some (.iface t0 (.pointer (some ⟨b0, 0, none⟩))) ∧ wx.cell? ⟨b, 2, none⟩ = some (.iface t1 (.pointer (some ⟨b1, 0, none⟩)))) (first | assumption | exact ⟨by assumption, by assumption⟩ | go_keep) (first | (go_at_call_of 49 (Value.iface t0 (Value.pointer (some ⟨b0, 0, none⟩))); refine (IH0.out _ ?_).mono ?_; exact (grown_drew (World.grownBy.refl _ _)); rintro e w1 ⟨rfl, g0⟩; have G0 : Hid (w.grownBy w1 none) := World.grownBy.trans (grown_drew (World.grownBy.refl _ _)) g0; have d0_1 := grown_cell c1 hb G0.out; have d0_2 := grown_cell c2 hb G0.out; clear g0) | (go_at_call_of 49 (Value.iface t1 (Value.pointer (some ⟨b1, 0, none⟩))); refine (IH1.out _ ?_).mono ?_; exact G0.out; rintro e w2 ⟨rfl, g1⟩; have G1 : Hid (w.grownBy w2 none) := World.grownBy.trans G0.out g1; have d1_1 := grown_cell c1 hb G1.out; have d1_2 := grown_cell c2 hb G1.out; clear g1))
  all_goals
    go_wp2
    go_ret
    refine ⟨?_, G1.out⟩
    show Ending.returned (.string (B tOpen ++ B x0 ++ B tComma ++ B x1 ++ B tShut)) = _
    rw [append_B, append_B, append_B, append_B]
end Go.Proofs.YtcdijppegfcoaabGreatDoor

/-
  OUR OWN TEXT. The program's expr.Text: what is bound; let; what is applied, and what to.
-/
namespace Go.Proofs.YtcdijppegfcoaabGreatDoor
open Go.RowKit

set_option maxRecDepth 100000 in
set_option maxHeartbeats 4000000 in
theorem bindText_p (w : World) (nm x : List UInt8) (t b : Nat) (hnm : nm.length ≤ 1000000000) (hx : x.length ≤ 1000000000) (ih : TXP 49 w (.iface t (.pointer (some ⟨b, 0, none⟩))) x) :
    Calls Tryz.prog 77 #[.agg #[.string (B nm), (.iface t (.pointer (some ⟨b, 0, none⟩)))]] w fun e w' => e = .returned (.string (B (nm ++ tEq ++ x))) ∧ w.grownBy w' none := by
  have sznm : (B nm).size ≤ 1000000000 := by rw [size_B]; exact hnm
  have szx : (B x).size ≤ 1000000000 := by rw [size_B]; exact hx
  have k1 : ¬ 9223372036854775807 < (B nm).size + 3 := by omega
  have k2 : ¬ 9223372036854775807 < (B nm).size + 3 + (B x).size := by omega
  have IH := hid ih
  clear ih
  obtain ⟨w0, hw0⟩ : ∃ w0, w0 = w.alloc (.cells #[.string (B nm), (.iface t (.pointer (some ⟨b, 0, none⟩)))] 187) := ⟨_, rfl⟩
  have G0 : Hid (w.grownBy w0 none) := by rw [hw0]; exact World.grownBy_alloc _ _ _
  have c0 : w0.cell? ⟨w.heap.size, 0, none⟩ = some (.string (B nm)) := by rw [hw0]; simp [go_sem]
  have c1 : w0.cell? ⟨w.heap.size, 1, none⟩ = some (.iface t (.pointer (some ⟨b, 0, none⟩))) := by rw [hw0]; simp [go_sem]
  have hb : w.heap.size < w0.heap.size := by rw [hw0]; simp
  go_enter Tryz.func77, Tryz.ntmps77
  go_wp2_with fail
  rw [← hw0]
  clear hw0
  go_region_held3 (fun wx => wx.cell? ⟨w.heap.size, 0, none⟩ = some (.string (B nm)) ∧ wx.cell? ⟨w.heap.size, 1, none⟩ = some (.iface t (.pointer (some ⟨b, 0, none⟩)))) (first | assumption | exact ⟨by assumption, by assumption⟩ | go_keep) ((go_at_call 49; refine (IH.out _ ?_).mono ?_; exact grown_drew G0.out; rintro e w1 ⟨rfl, g1⟩; have G1 : Hid (w0.grownBy w1 none) := World.grownBy.trans (grown_drew (World.grownBy.refl _ _)) g1; have d0 := grown_cell c0 hb G1.out; have d1 := grown_cell c1 hb G1.out; clear g1))
  all_goals
    go_wp2
    go_ret
    refine ⟨?_, G0.out.trans G1.out⟩
    show Ending.returned (.string (B nm ++ B tEq ++ B x)) = _
    rw [append_B, append_B]

set_option maxRecDepth 100000 in
set_option maxHeartbeats 8000000 in
theorem ptext_let (w : World) (b : Nat) (t0 b0 : Nat) (x0 : List UInt8) (t1 b1 : Nat) (x1 nm : List UInt8) (hnm : nm.length ≤ 1000000) (l0 : x0.length ≤ 1000000) (l1 : x1.length ≤ 1000000000) (hb : b < w.heap.size) (c1 : w.cell? ⟨b, 1, none⟩ = some (.string (B nm))) (c2 : w.cell? ⟨b, 2, none⟩ = some (.iface t0 (.pointer (some ⟨b0, 0, none⟩)))) (c3 : w.cell? ⟨b, 3, none⟩ = some (.iface t1 (.pointer (some ⟨b1, 0, none⟩))))
    (ih0 : TXP 49 w (.iface t0 (.pointer (some ⟨b0, 0, none⟩))) x0) (ih1 : TXP 49 w (.iface t1 (.pointer (some ⟨b1, 0, none⟩))) x1) :
    Calls Tryz.prog 49 #[.iface 184 (.pointer (some ⟨b, 0, none⟩))] w fun e w' => e = .returned (.string (B (tLet ++ (nm ++ tEq ++ x0) ++ tIn ++ x1))) ∧ w.grownBy w' none := by
  have qName := as_Let_Name b
  have qNumber := as_Let_Number b
  have qFun := as_Let_Fun b
  have qIf := as_Let_If b
  have qLet := as_Let_Let b
  obtain ⟨y, hy⟩ : ∃ y, y = nm ++ tEq ++ x0 := ⟨_, rfl⟩
  have hyl : y.length ≤ 1000000000 := by rw [hy]; simp [tEq]; omega
  have sz0 : (B y).size ≤ 1000000000 := by rw [size_B]; exact hyl
  have sz1 : (B x1).size ≤ 1000000000 := by rw [size_B]; exact l1
  have k1 : ¬ 9223372036854775807 < 4 + (B y).size := by omega
  have k2 : ¬ 9223372036854775807 < 4 + (B y).size + 4 := by omega
  have k3 : ¬ 9223372036854775807 < 4 + (B y).size + 4 + (B x1).size := by omega
  have IH0 : Hid (TXP 77 w (.agg #[.string (B nm), (.iface t0 (.pointer (some ⟨b0, 0, none⟩)))]) y) := fun wx hg => by rw [hy]; exact bindText_p wx nm x0 t0 b0 (by omega) (by omega) (ih0.at hg)
  have IH1 := hid ih1
  rw [← hy]
  clear ih0 ih1 hy
  go_enter Tryz.func49, Tryz.ntmps49
  go_wp2_with fail
  go_region_held3 (fun wx => wx.cell? ⟨b, 1, none⟩ = some (.string (B nm)) ∧ wx.cell? ⟨b, 2, none⟩ = some (.iface t0 (.pointer (some ⟨b0, 0, none⟩))) ∧ wx.cell? ⟨b, 3, none⟩ = some (.iface t1 (.pointer (some ⟨b1, 0, none⟩)))) (first | assumption | exact ⟨by assumption, by assumption, by assumption⟩ | go_keep) (first | (go_at_call 77; refine (IH0.out _ ?_).mono ?_; exact (grown_drew (World.grownBy.refl _ _)); rintro e w1 ⟨rfl, g0⟩; have G0 : Hid (w.grownBy w1 none) := World.grownBy.trans (grown_drew (World.grownBy.refl _ _)) g0; have d0_1 := grown_cell c1 hb G0.out; have d0_2 := grown_cell c2 hb G0.out; have d0_3 := grown_cell c3 hb G0.out; clear g0) | (go_at_call 49; refine (IH1.out _ ?_).mono ?_; exact G0.out; rintro e w2 ⟨rfl, g1⟩; have G1 : Hid (w.grownBy w2 none) := World.grownBy.trans G0.out g1; have d1_1 := grown_cell c1 hb G1.out; have d1_2 := grown_cell c2 hb G1.out; have d1_3 := grown_cell c3 hb G1.out; clear g1))
  all_goals
    go_wp2
    go_ret
    refine ⟨?_, G1.out⟩
    show Ending.returned (.string (B tLet ++ B y ++ B tIn ++ B x1)) = _
    rw [append_B, append_B, append_B]
end Go.Proofs.YtcdijppegfcoaabGreatDoor

/-
  OUR OWN TEXT. The program's funText and argText.
-/
namespace Go.Proofs.YtcdijppegfcoaabGreatDoor
open Go.RowKit

set_option maxRecDepth 100000 in
set_option maxHeartbeats 1000000 in
theorem funText_name (w : World) (b : Nat) (x : List UInt8) (hx : x.length ≤ 1000000) (ih : TXP 49 w (.iface 157 (.pointer (some ⟨b, 0, none⟩))) x) :
    Calls Tryz.prog 79 #[.iface 157 (.pointer (some ⟨b, 0, none⟩))] w fun e w' => e = .returned (.string (B (inBr false x))) ∧ w.grownBy w' none := by
  have qFun := as_Name_Fun b
  have qIf := as_Name_If b
  have qLet := as_Name_Let b
  have qLetRec := as_Name_LetRec b
  have sz : (B x).size ≤ 1000000 := by rw [size_B]; exact hx
  have IH := hid (ih w (World.grownBy.refl _ _))
  clear ih
  go_enter Tryz.func79, Tryz.ntmps79
  go_wp2_with (go_at_call 49; refine IH.out.mono ?_; rintro e w1 ⟨rfl, g1⟩; have G1 := hid g1; clear g1)
  go_ret
  refine ⟨?_, G1.out⟩
  rfl

set_option maxRecDepth 100000 in
set_option maxHeartbeats 1000000 in
theorem funText_number (w : World) (b : Nat) (x : List UInt8) (hx : x.length ≤ 1000000) (ih : TXP 49 w (.iface 175 (.pointer (some ⟨b, 0, none⟩))) x) :
    Calls Tryz.prog 79 #[.iface 175 (.pointer (some ⟨b, 0, none⟩))] w fun e w' => e = .returned (.string (B (inBr false x))) ∧ w.grownBy w' none := by
  have qFun := as_Number_Fun b
  have qIf := as_Number_If b
  have qLet := as_Number_Let b
  have qLetRec := as_Number_LetRec b
  have sz : (B x).size ≤ 1000000 := by rw [size_B]; exact hx
  have IH := hid (ih w (World.grownBy.refl _ _))
  clear ih
  go_enter Tryz.func79, Tryz.ntmps79
  go_wp2_with (go_at_call 49; refine IH.out.mono ?_; rintro e w1 ⟨rfl, g1⟩; have G1 := hid g1; clear g1)
  go_ret
  refine ⟨?_, G1.out⟩
  rfl

set_option maxRecDepth 100000 in
set_option maxHeartbeats 1000000 in
theorem funText_fun (w : World) (b : Nat) (x : List UInt8) (hx : x.length ≤ 1000000) (ih : TXP 49 w (.iface 178 (.pointer (some ⟨b, 0, none⟩))) x) :
    Calls Tryz.prog 79 #[.iface 178 (.pointer (some ⟨b, 0, none⟩))] w fun e w' => e = .returned (.string (B (inBr true x))) ∧ w.grownBy w' none := by
  have qFun := as_Fun_Fun b
  have qIf := as_Fun_If b
  have qLet := as_Fun_Let b
  have qLetRec := as_Fun_LetRec b
  have sz : (B x).size ≤ 1000000 := by rw [size_B]; exact hx
  have IH := hid (ih w (World.grownBy.refl _ _))
  clear ih
  have k1 : ¬ 9223372036854775807 < 1 + (B x).size := by omega
  have k2 : ¬ 9223372036854775807 < 1 + (B x).size + 1 := by omega
  go_enter Tryz.func79, Tryz.ntmps79
  go_wp2_with (go_at_call 49; refine IH.out.mono ?_; rintro e w1 ⟨rfl, g1⟩; have G1 := hid g1; clear g1)
  go_ret
  refine ⟨?_, G1.out⟩
  show Ending.returned (.string (B tOpen ++ B x ++ B tShut)) = _
  rw [append_B, append_B]
  rfl

set_option maxRecDepth 100000 in
set_option maxHeartbeats 1000000 in
theorem funText_if (w : World) (b : Nat) (x : List UInt8) (hx : x.length ≤ 1000000) (ih : TXP 49 w (.iface 181 (.pointer (some ⟨b, 0, none⟩))) x) :
    Calls Tryz.prog 79 #[.iface 181 (.pointer (some ⟨b, 0, none⟩))] w fun e w' => e = .returned (.string (B (inBr true x))) ∧ w.grownBy w' none := by
  have qFun := as_If_Fun b
  have qIf := as_If_If b
  have qLet := as_If_Let b
  have qLetRec := as_If_LetRec b
  have sz : (B x).size ≤ 1000000 := by rw [size_B]; exact hx
  have IH := hid (ih w (World.grownBy.refl _ _))
  clear ih
  have k1 : ¬ 9223372036854775807 < 1 + (B x).size := by omega
  have k2 : ¬ 9223372036854775807 < 1 + (B x).size + 1 := by omega
  go_enter Tryz.func79, Tryz.ntmps79
  go_wp2_with (go_at_call 49; refine IH.out.mono ?_; rintro e w1 ⟨rfl, g1⟩; have G1 := hid g1; clear g1)
  go_ret
  refine ⟨?_, G1.out⟩
  show Ending.returned (.string (B tOpen ++ B x ++ B tShut)) = _
  rw [append_B, append_B]
  rfl

set_option maxRecDepth 100000 in
set_option maxHeartbeats 1000000 in
theorem funText_let (w : World) (b : Nat) (x : List UInt8) (hx : x.length ≤ 1000000) (ih : TXP 49 w (.iface 184 (.pointer (some ⟨b, 0, none⟩))) x) :
    Calls Tryz.prog 79 #[.iface 184 (.pointer (some ⟨b, 0, none⟩))] w fun e w' => e = .returned (.string (B (inBr true x))) ∧ w.grownBy w' none := by
  have qFun := as_Let_Fun b
  have qIf := as_Let_If b
  have qLet := as_Let_Let b
  have qLetRec := as_Let_LetRec b
  have sz : (B x).size ≤ 1000000 := by rw [size_B]; exact hx
  have IH := hid (ih w (World.grownBy.refl _ _))
  clear ih
  have k1 : ¬ 9223372036854775807 < 1 + (B x).size := by omega
  have k2 : ¬ 9223372036854775807 < 1 + (B x).size + 1 := by omega
  go_enter Tryz.func79, Tryz.ntmps79
  go_wp2_with (go_at_call 49; refine IH.out.mono ?_; rintro e w1 ⟨rfl, g1⟩; have G1 := hid g1; clear g1)
  go_ret
  refine ⟨?_, G1.out⟩
  show Ending.returned (.string (B tOpen ++ B x ++ B tShut)) = _
  rw [append_B, append_B]
  rfl

set_option maxRecDepth 100000 in
set_option maxHeartbeats 1000000 in
theorem funText_letrec (w : World) (b : Nat) (x : List UInt8) (hx : x.length ≤ 1000000) (ih : TXP 49 w (.iface 190 (.pointer (some ⟨b, 0, none⟩))) x) :
    Calls Tryz.prog 79 #[.iface 190 (.pointer (some ⟨b, 0, none⟩))] w fun e w' => e = .returned (.string (B (inBr true x))) ∧ w.grownBy w' none := by
  have qFun := as_LetRec_Fun b
  have qIf := as_LetRec_If b
  have qLet := as_LetRec_Let b
  have qLetRec := as_LetRec_LetRec b
  have sz : (B x).size ≤ 1000000 := by rw [size_B]; exact hx
  have IH := hid (ih w (World.grownBy.refl _ _))
  clear ih
  have k1 : ¬ 9223372036854775807 < 1 + (B x).size := by omega
  have k2 : ¬ 9223372036854775807 < 1 + (B x).size + 1 := by omega
  go_enter Tryz.func79, Tryz.ntmps79
  go_wp2_with (go_at_call 49; refine IH.out.mono ?_; rintro e w1 ⟨rfl, g1⟩; have G1 := hid g1; clear g1)
  go_ret
  refine ⟨?_, G1.out⟩
  show Ending.returned (.string (B tOpen ++ B x ++ B tShut)) = _
  rw [append_B, append_B]
  rfl

set_option maxRecDepth 100000 in
set_option maxHeartbeats 1000000 in
theorem funText_apply (w : World) (b : Nat) (x : List UInt8) (hx : x.length ≤ 1000000) (ih : TXP 49 w (.iface 195 (.pointer (some ⟨b, 0, none⟩))) x) :
    Calls Tryz.prog 79 #[.iface 195 (.pointer (some ⟨b, 0, none⟩))] w fun e w' => e = .returned (.string (B (inBr false x))) ∧ w.grownBy w' none := by
  have qFun := as_Apply_Fun b
  have qIf := as_Apply_If b
  have qLet := as_Apply_Let b
  have qLetRec := as_Apply_LetRec b
  have sz : (B x).size ≤ 1000000 := by rw [size_B]; exact hx
  have IH := hid (ih w (World.grownBy.refl _ _))
  clear ih
  go_enter Tryz.func79, Tryz.ntmps79
  go_wp2_with (go_at_call 49; refine IH.out.mono ?_; rintro e w1 ⟨rfl, g1⟩; have G1 := hid g1; clear g1)
  go_ret
  refine ⟨?_, G1.out⟩
  rfl

set_option maxRecDepth 100000 in
set_option maxHeartbeats 1000000 in
theorem funText_pair (w : World) (b : Nat) (x : List UInt8) (hx : x.length ≤ 1000000) (ih : TXP 49 w (.iface 198 (.pointer (some ⟨b, 0, none⟩))) x) :
    Calls Tryz.prog 79 #[.iface 198 (.pointer (some ⟨b, 0, none⟩))] w fun e w' => e = .returned (.string (B (inBr false x))) ∧ w.grownBy w' none := by
  have qFun := as_Pair_Fun b
  have qIf := as_Pair_If b
  have qLet := as_Pair_Let b
  have qLetRec := as_Pair_LetRec b
  have sz : (B x).size ≤ 1000000 := by rw [size_B]; exact hx
  have IH := hid (ih w (World.grownBy.refl _ _))
  clear ih
  go_enter Tryz.func79, Tryz.ntmps79
  go_wp2_with (go_at_call 49; refine IH.out.mono ?_; rintro e w1 ⟨rfl, g1⟩; have G1 := hid g1; clear g1)
  go_ret
  refine ⟨?_, G1.out⟩
  rfl

set_option maxRecDepth 100000 in
set_option maxHeartbeats 1000000 in
theorem argText_name (w : World) (b : Nat) (x : List UInt8) (hx : x.length ≤ 1000000) (ih : TXP 49 w (.iface 157 (.pointer (some ⟨b, 0, none⟩))) x) :
    Calls Tryz.prog 80 #[.iface 157 (.pointer (some ⟨b, 0, none⟩))] w fun e w' => e = .returned (.string (B (inBr false x))) ∧ w.grownBy w' none := by
  have qName := as_Name_Name b
  have qNumber := as_Name_Number b
  have qPair := as_Name_Pair b
  have sz : (B x).size ≤ 1000000 := by rw [size_B]; exact hx
  have IH := hid (ih w (World.grownBy.refl _ _))
  clear ih
  go_enter Tryz.func80, Tryz.ntmps80
  go_wp2_with (go_at_call 49; refine IH.out.mono ?_; rintro e w1 ⟨rfl, g1⟩; have G1 := hid g1; clear g1)
  go_ret
  refine ⟨?_, G1.out⟩
  rfl

set_option maxRecDepth 100000 in
set_option maxHeartbeats 1000000 in
theorem argText_number (w : World) (b : Nat) (x : List UInt8) (hx : x.length ≤ 1000000) (ih : TXP 49 w (.iface 175 (.pointer (some ⟨b, 0, none⟩))) x) :
    Calls Tryz.prog 80 #[.iface 175 (.pointer (some ⟨b, 0, none⟩))] w fun e w' => e = .returned (.string (B (inBr false x))) ∧ w.grownBy w' none := by
  have qName := as_Number_Name b
  have qNumber := as_Number_Number b
  have qPair := as_Number_Pair b
  have sz : (B x).size ≤ 1000000 := by rw [size_B]; exact hx
  have IH := hid (ih w (World.grownBy.refl _ _))
  clear ih
  go_enter Tryz.func80, Tryz.ntmps80
  go_wp2_with (go_at_call 49; refine IH.out.mono ?_; rintro e w1 ⟨rfl, g1⟩; have G1 := hid g1; clear g1)
  go_ret
  refine ⟨?_, G1.out⟩
  rfl

set_option maxRecDepth 100000 in
set_option maxHeartbeats 1000000 in
theorem argText_fun (w : World) (b : Nat) (x : List UInt8) (hx : x.length ≤ 1000000) (ih : TXP 49 w (.iface 178 (.pointer (some ⟨b, 0, none⟩))) x) :
    Calls Tryz.prog 80 #[.iface 178 (.pointer (some ⟨b, 0, none⟩))] w fun e w' => e = .returned (.string (B (inBr true x))) ∧ w.grownBy w' none := by
  have qName := as_Fun_Name b
  have qNumber := as_Fun_Number b
  have qPair := as_Fun_Pair b
  have sz : (B x).size ≤ 1000000 := by rw [size_B]; exact hx
  have IH := hid (ih w (World.grownBy.refl _ _))
  clear ih
  have k1 : ¬ 9223372036854775807 < 1 + (B x).size := by omega
  have k2 : ¬ 9223372036854775807 < 1 + (B x).size + 1 := by omega
  go_enter Tryz.func80, Tryz.ntmps80
  go_wp2_with (go_at_call 49; refine IH.out.mono ?_; rintro e w1 ⟨rfl, g1⟩; have G1 := hid g1; clear g1)
  go_ret
  refine ⟨?_, G1.out⟩
  show Ending.returned (.string (B tOpen ++ B x ++ B tShut)) = _
  rw [append_B, append_B]
  rfl

set_option maxRecDepth 100000 in
set_option maxHeartbeats 1000000 in
theorem argText_if (w : World) (b : Nat) (x : List UInt8) (hx : x.length ≤ 1000000) (ih : TXP 49 w (.iface 181 (.pointer (some ⟨b, 0, none⟩))) x) :
    Calls Tryz.prog 80 #[.iface 181 (.pointer (some ⟨b, 0, none⟩))] w fun e w' => e = .returned (.string (B (inBr true x))) ∧ w.grownBy w' none := by
  have qName := as_If_Name b
  have qNumber := as_If_Number b
  have qPair := as_If_Pair b
  have sz : (B x).size ≤ 1000000 := by rw [size_B]; exact hx
  have IH := hid (ih w (World.grownBy.refl _ _))
  clear ih
  have k1 : ¬ 9223372036854775807 < 1 + (B x).size := by omega
  have k2 : ¬ 9223372036854775807 < 1 + (B x).size + 1 := by omega
  go_enter Tryz.func80, Tryz.ntmps80
  go_wp2_with (go_at_call 49; refine IH.out.mono ?_; rintro e w1 ⟨rfl, g1⟩; have G1 := hid g1; clear g1)
  go_ret
  refine ⟨?_, G1.out⟩
  show Ending.returned (.string (B tOpen ++ B x ++ B tShut)) = _
  rw [append_B, append_B]
  rfl

set_option maxRecDepth 100000 in
set_option maxHeartbeats 1000000 in
theorem argText_let (w : World) (b : Nat) (x : List UInt8) (hx : x.length ≤ 1000000) (ih : TXP 49 w (.iface 184 (.pointer (some ⟨b, 0, none⟩))) x) :
    Calls Tryz.prog 80 #[.iface 184 (.pointer (some ⟨b, 0, none⟩))] w fun e w' => e = .returned (.string (B (inBr true x))) ∧ w.grownBy w' none := by
  have qName := as_Let_Name b
  have qNumber := as_Let_Number b
  have qPair := as_Let_Pair b
  have sz : (B x).size ≤ 1000000 := by rw [size_B]; exact hx
  have IH := hid (ih w (World.grownBy.refl _ _))
  clear ih
  have k1 : ¬ 9223372036854775807 < 1 + (B x).size := by omega
  have k2 : ¬ 9223372036854775807 < 1 + (B x).size + 1 := by omega
  go_enter Tryz.func80, Tryz.ntmps80
  go_wp2_with (go_at_call 49; refine IH.out.mono ?_; rintro e w1 ⟨rfl, g1⟩; have G1 := hid g1; clear g1)
  go_ret
  refine ⟨?_, G1.out⟩
  show Ending.returned (.string (B tOpen ++ B x ++ B tShut)) = _
  rw [append_B, append_B]
  rfl

set_option maxRecDepth 100000 in
set_option maxHeartbeats 1000000 in
theorem argText_letrec (w : World) (b : Nat) (x : List UInt8) (hx : x.length ≤ 1000000) (ih : TXP 49 w (.iface 190 (.pointer (some ⟨b, 0, none⟩))) x) :
    Calls Tryz.prog 80 #[.iface 190 (.pointer (some ⟨b, 0, none⟩))] w fun e w' => e = .returned (.string (B (inBr true x))) ∧ w.grownBy w' none := by
  have qName := as_LetRec_Name b
  have qNumber := as_LetRec_Number b
  have qPair := as_LetRec_Pair b
  have sz : (B x).size ≤ 1000000 := by rw [size_B]; exact hx
  have IH := hid (ih w (World.grownBy.refl _ _))
  clear ih
  have k1 : ¬ 9223372036854775807 < 1 + (B x).size := by omega
  have k2 : ¬ 9223372036854775807 < 1 + (B x).size + 1 := by omega
  go_enter Tryz.func80, Tryz.ntmps80
  go_wp2_with (go_at_call 49; refine IH.out.mono ?_; rintro e w1 ⟨rfl, g1⟩; have G1 := hid g1; clear g1)
  go_ret
  refine ⟨?_, G1.out⟩
  show Ending.returned (.string (B tOpen ++ B x ++ B tShut)) = _
  rw [append_B, append_B]
  rfl

set_option maxRecDepth 100000 in
set_option maxHeartbeats 1000000 in
theorem argText_apply (w : World) (b : Nat) (x : List UInt8) (hx : x.length ≤ 1000000) (ih : TXP 49 w (.iface 195 (.pointer (some ⟨b, 0, none⟩))) x) :
    Calls Tryz.prog 80 #[.iface 195 (.pointer (some ⟨b, 0, none⟩))] w fun e w' => e = .returned (.string (B (inBr true x))) ∧ w.grownBy w' none := by
  have qName := as_Apply_Name b
  have qNumber := as_Apply_Number b
  have qPair := as_Apply_Pair b
  have sz : (B x).size ≤ 1000000 := by rw [size_B]; exact hx
  have IH := hid (ih w (World.grownBy.refl _ _))
  clear ih
  have k1 : ¬ 9223372036854775807 < 1 + (B x).size := by omega
  have k2 : ¬ 9223372036854775807 < 1 + (B x).size + 1 := by omega
  go_enter Tryz.func80, Tryz.ntmps80
  go_wp2_with (go_at_call 49; refine IH.out.mono ?_; rintro e w1 ⟨rfl, g1⟩; have G1 := hid g1; clear g1)
  go_ret
  refine ⟨?_, G1.out⟩
  show Ending.returned (.string (B tOpen ++ B x ++ B tShut)) = _
  rw [append_B, append_B]
  rfl

set_option maxRecDepth 100000 in
set_option maxHeartbeats 1000000 in
theorem argText_pair (w : World) (b : Nat) (x : List UInt8) (hx : x.length ≤ 1000000) (ih : TXP 49 w (.iface 198 (.pointer (some ⟨b, 0, none⟩))) x) :
    Calls Tryz.prog 80 #[.iface 198 (.pointer (some ⟨b, 0, none⟩))] w fun e w' => e = .returned (.string (B (inBr false x))) ∧ w.grownBy w' none := by
  have qName := as_Pair_Name b
  have qNumber := as_Pair_Number b
  have qPair := as_Pair_Pair b
  have sz : (B x).size ≤ 1000000 := by rw [size_B]; exact hx
  have IH := hid (ih w (World.grownBy.refl _ _))
  clear ih
  go_enter Tryz.func80, Tryz.ntmps80
  go_wp2_with (go_at_call 49; refine IH.out.mono ?_; rintro e w1 ⟨rfl, g1⟩; have G1 := hid g1; clear g1)
  go_ret
  refine ⟨?_, G1.out⟩
  rfl
end Go.Proofs.YtcdijppegfcoaabGreatDoor

/-
  OUR OWN TEXT. The program's groupText.
-/
namespace Go.Proofs.YtcdijppegfcoaabGreatDoor
open Go.RowKit

def bindsOf (ns xs : List (List UInt8)) : List (List UInt8) := List.zipWith (fun n x => n ++ tEq ++ x) ns xs
theorem bindsOf_len {ns xs : List (List UInt8)} (h : xs.length = ns.length) : (bindsOf ns xs).length = ns.length := by simp [bindsOf, h]
theorem bindsOf_get {ns xs : List (List UInt8)} {j : Nat} {n x : List UInt8} (h1 : ns[j]? = some n) (h2 : xs[j]? = some x) : (bindsOf ns xs)[j]? = some (n ++ tEq ++ x) := by
  simp [bindsOf, List.getElem?_zipWith, h1, h2]
theorem strs_step {ys : List (List UInt8)} {j : Nat} {y : List UInt8} (h : ys[j]? = some y) : strs (ys.take (j + 1)) = strs (ys.take j) ++ [.string (B y)] := by
  rw [List.take_add_one, h]
  simp [strs]
theorem own_strs {w : World} {base n : Nat} {v : Value} {ys : List (List UInt8)} (h : w.ownsRow base 9 1 v n (strs ys)) (h0 : 0 < n) : ∃ g cap, v = .slice (some ⟨g, 0, none⟩) n cap ∧ g < w.heap.size ∧ n ≤ cap ∧ ∀ (j : Nat) (x : ByteArray), (ys.map B)[j]? = some x → w.cell? ⟨g, 0 + j, none⟩ = some (.string x) := by
  obtain ⟨h1, h2⟩ := h
  rcases h2 with ⟨_, h3⟩ | ⟨g, cap, cur, e1, e2, e3, e4, e5, e6, e7⟩
  · omega
  · refine ⟨g, cap, e1, lt_of_block e3, e4, fun j x hx => ?_⟩
    have hx2 : (strs ys)[j]? = some (.string x) := by
      simp only [List.getElem?_map, Option.map_eq_some_iff] at hx
      obtain ⟨y, hy, rfl⟩ := hx
      simp [strs, hy]
    rw [← e7, List.getElem?_take] at hx2
    split at hx2
    · simp only [World.cell?, e3, Nat.zero_add]
      simpa using hx2
    · cases hx2
theorem B_back (ys : List (List UInt8)) : (ys.map B).map (fun x => x.data.toList) = ys := by
  rw [List.map_map]
  conv => rhs; rw [← List.map_id ys]
  apply List.map_congr_left
  intro a _
  simp [B]

set_option maxRecDepth 100000 in
set_option maxHeartbeats 4000000 in
theorem groupText_p (w : World) (g cap : Nat) (ns : List (List UInt8)) (us : List Value) (xs : List (List UInt8)) (hn : ns.length ≤ 1000000) (h0 : 0 < ns.length) (hxl : xs.length = ns.length) (hga : GAt w g ns us) (hax : AllX us)
    (hns : ∀ n, n ∈ ns → n.length ≤ 1000000) (hxs : ∀ x, x ∈ xs → x.length ≤ 1000000) (hj : (Lib.join (bindsOf ns xs) tAnd).length ≤ 1000000000) (ih : ∀ (j : Nat) (u : Value) (x : List UInt8), us[j]? = some u → xs[j]? = some x → TXP 49 w u x) :
    Calls Tryz.prog 78 #[.slice (some ⟨g, 0, none⟩) ns.length cap] w fun e w' => e = .returned (.string (B (Lib.join (bindsOf ns xs) tAnd))) ∧ w.grownBy w' none := by
  have hul := hga.1
  obtain ⟨ys, hys⟩ : ∃ ys, ys = bindsOf ns xs := ⟨_, rfl⟩
  have hyl : ys.length = ns.length := by rw [hys]; exact bindsOf_len hxl
  rw [← hys] at hj ⊢
  have HYS := hid hys
  have GA := hid hga
  have IH := hid ih
  clear hga ih hys
  obtain ⟨i0, hi, hz0, hz1, hz2⟩ := info_parts info_str
  go_enter Tryz.func78, Tryz.ntmps78
  go_wp2_with fail
  go_loopg [3, 8] (ns.length + 1) (fun q bv i wi => ∃ j : Nat, j ≤ ns.length ∧ i = .int .i64 j ∧ q = ns.length - j + 1 ∧ Hid (wi.ownsRow w.heap.size 9 1 bv j (strs (ys.take j))) ∧ Hid (w.grownBy wi none))
  case atStart => exact ⟨0, by omega, rfl, by omega, World.ownsRow_nil _ _ _ _, World.grownBy.refl _ _⟩
  case round =>
    obtain ⟨j, hj1, rfl, hq, OW, GR⟩ := hrel
    rename World => w2
    have hs2 : w.heap.size ≤ w2.heap.size := GR.out.size
    by_cases hlt : j < ns.length
    · obtain ⟨nm, hnm⟩ : ∃ nm, ns[j]? = some nm := ⟨ns[j], List.getElem?_eq_getElem _⟩
      obtain ⟨x, hx⟩ : ∃ x, xs[j]? = some x := ⟨xs[j]'(by omega), List.getElem?_eq_getElem _⟩
      obtain ⟨u, hu⟩ : ∃ u, us[j]? = some u := ⟨us[j]'(by omega), List.getElem?_eq_getElem _⟩
      obtain ⟨c0, c1, _⟩ := (GA.out.grown GR.out).2.2 j nm u hnm hu
      obtain ⟨t6, b6, rfl⟩ := hax u (List.mem_of_getElem? hu)
      have hj2 : (j : Int) < (ns.length : Int) := by omega
      have hnml := hns nm (List.mem_of_getElem? hnm)
      have hxll := hxs x (List.mem_of_getElem? hx)
      have BT := hid (bindText_p (w2.alloc (.cells #[.string (B nm), (.iface t6 (.pointer (some ⟨b6, 0, none⟩)))] 187)) nm x t6 b6 (by omega) (by omega) ((IH.out j _ x hu hx).at (GR.out.trans (World.grownBy_alloc _ _ _))))
      have HY := hid (show ys[j]? = some (nm ++ tEq ++ x) by rw [HYS.out]; exact bindsOf_get hnm hx)
      obtain ⟨yy, hyy⟩ : ∃ yy, yy = nm ++ tEq ++ x := ⟨_, rfl⟩
      rw [← hyy] at BT HY
      clear hx hu hnm hyy
      go_wp2_with fail
      refine BT.out.mono ?_
      rintro e w3 ⟨rfl, g3⟩
      have own3 := own_grown (OW.out.alloc _) g3
      have GR3 := hid ((GR.out.trans (World.grownBy_alloc _ _ _)).trans g3)
      have hs3 : w.heap.size ≤ w3.heap.size := GR3.out.size
      clear g3 c0 c1
      go_wp2_with (at_builtin; refine wpList_append_lies _ rfl (.tmp 12) (.tmp 15) 26 rfl w.heap.size 9 i0 (.string (B [])) 1 16 Tryz.underlying26 hi hz0 hz1 hz2 rfl (by decide) _ _ _ rfl (own3.alloc _) ⟨w3.heap.size, 0, none⟩ 1 1 [.string (B yy)] rfl rfl ?d1 ?d2 (by decide) ?d3 ?d4 ?d5 (w3.heap.size + 1) ?d6 ?_)
      case d1 => exact one_new _ _ _
      case d2 => exact one_str _
      case d3 => unfold maxLen; omega
      case d4 => omega
      case d5 => simp; omega
      case d6 => simp
      intro g7 cap7 w7 hown7 hgrow7 _ _
      have ON := hid hown7
      have GN := hid (grown_own (GR3.out.trans (World.grownBy_alloc _ _ _)) hgrow7 (fun k e => (own_lt own3 e).1))
      clear hown7 hgrow7 own3
      go_wp2_with fail
      go_roundg (ns.length - (j + 1) + 1)
      case measure => omega
      case rel =>
        refine ⟨j + 1, by omega, by go_num, rfl, ?_, GN⟩
        rw [strs_step HY.out]
        exact ON
    · have hj3 : j = ns.length := by omega
      subst hj3
      have own6 := OW.out
      rw [List.take_of_length_le (by omega)] at own6
      obtain ⟨g6, cap6, rfl, hg6, hcap6, hrow6⟩ := own_strs own6 h0
      have hml : (ys.map B).length = ns.length := by simp [hyl]
      have JN := Tryz.strings_Join g6 0 cap6 (ys.map B) (B tAnd) w2 hrow6 hg6 (by omega) (by omega) (by rw [B_back]; simp [B]; omega)
      rw [hml, B_back] at JN
      have JH := hid JN
      clear JN hrow6 own6
      go_wp2_with fail
      refine JH.out.mono ?_
      rintro e w8 ⟨rfl, g8⟩
      have G8 := hid (GR.out.trans (show w2.grownBy w8 none from ⟨g8.os, g8.tape, g8.output, g8.size, fun k hk _ => g8.block k hk⟩))
      clear g8
      go_wp2
      go_ret
      refine ⟨?_, G8.out⟩
      simp [B]
end Go.Proofs.YtcdijppegfcoaabGreatDoor

/-
  OUR OWN TEXT. The program's expr.Text, whole.
-/
namespace Go.Proofs.YtcdijppegfcoaabGreatDoor
open Go.RowKit

set_option maxRecDepth 100000 in
set_option maxHeartbeats 8000000 in
theorem ptext_rec (w : World) (b : Nat) (gv : Value) (y : List UInt8) (t1 b1 : Nat) (x1 : List UInt8) (g n cap : Nat) (hgv : gv = .slice (some ⟨g, 0, none⟩) n cap) (l0 : y.length ≤ 1000000000) (l1 : x1.length ≤ 1000000000) (hb : b < w.heap.size) (c1 : w.cell? ⟨b, 1, none⟩ = some gv) (c2 : w.cell? ⟨b, 2, none⟩ = some (.iface t1 (.pointer (some ⟨b1, 0, none⟩))))
    (ih0 : TXP 78 w gv y) (ih1 : TXP 49 w (.iface t1 (.pointer (some ⟨b1, 0, none⟩))) x1) :
    Calls Tryz.prog 49 #[.iface 190 (.pointer (some ⟨b, 0, none⟩))] w fun e w' => e = .returned (.string (B ((tLet ++ tRec) ++ y ++ tIn ++ x1))) ∧ w.grownBy w' none := by
  subst hgv
  have qName := as_LetRec_Name b
  have qNumber := as_LetRec_Number b
  have qFun := as_LetRec_Fun b
  have qIf := as_LetRec_If b
  have qLet := as_LetRec_Let b
  have qRec := as_LetRec_LetRec b
  have sz0 : (B y).size ≤ 1000000000 := by rw [size_B]; exact l0
  have sz1 : (B x1).size ≤ 1000000000 := by rw [size_B]; exact l1
  have k1 : ¬ 9223372036854775807 < 8 + (B y).size := by omega
  have k2 : ¬ 9223372036854775807 < 8 + (B y).size + 4 := by omega
  have k3 : ¬ 9223372036854775807 < 8 + (B y).size + 4 + (B x1).size := by omega
  have IH0 := hid ih0
  have IH1 := hid ih1
  clear ih0 ih1
  go_enter Tryz.func49, Tryz.ntmps49
  go_wp2_with fail
  go_region_held3 (fun wx => wx.cell? ⟨b, 1, none⟩ = some (.slice (some ⟨g, 0, none⟩) n cap) ∧ wx.cell? ⟨b, 2, none⟩ = some (.iface t1 (.pointer (some ⟨b1, 0, none⟩)))) (first | assumption | exact ⟨by assumption, by assumption⟩ | go_keep) (first | (go_at_call 78; refine (IH0.out _ ?_).mono ?_; exact (grown_drew (World.grownBy.refl _ _)); rintro e w1 ⟨rfl, g0⟩; have G0 : Hid (w.grownBy w1 none) := World.grownBy.trans (grown_drew (World.grownBy.refl _ _)) g0; have d0_1 := grown_cell c1 hb G0.out; have d0_2 := grown_cell c2 hb G0.out; clear g0) | (go_at_call 49; refine (IH1.out _ ?_).mono ?_; exact G0.out; rintro e w2 ⟨rfl, g1⟩; have G1 : Hid (w.grownBy w2 none) := World.grownBy.trans G0.out g1; have d1_1 := grown_cell c1 hb G1.out; have d1_2 := grown_cell c2 hb G1.out; clear g1))
  all_goals
    go_wp2
    go_ret
    refine ⟨?_, G1.out⟩
    show Ending.returned (.string (B (tLet ++ tRec) ++ B y ++ B tIn ++ B x1)) = _
    rw [append_B, append_B, append_B]

theorem joinTail_snoc (sep : List UInt8) (r : List (List UInt8)) (y : List UInt8) : Lib.joinTail sep (r ++ [y]) = Lib.joinTail sep r ++ (sep ++ y) := by
  simp [Lib.joinTail]
/-- What is bound, one behind the other, in both readings. -/
theorem bindTo_join (nm ts : Nat → List UInt8) : ∀ N, 0 < N → Lib.join ((List.range N).map fun j => nm j ++ tEq ++ ts j) tAnd = bindTo nm ts N
  | 0, h => by omega
  | 1, _ => by simp [bindTo, Lib.join_one]
  | N + 2, _ => by
    have ih := bindTo_join nm ts (N + 1) (by omega)
    rw [List.range_succ, List.map_append, List.map_singleton, bindTo, if_pos (by omega), ← ih]
    generalize hl : (List.range (N + 1)).map (fun j => nm j ++ tEq ++ ts j) = l
    cases l with
    | nil => simp at hl
    | cons a r =>
      rw [List.cons_append, Lib.join_cons, Lib.join_cons, joinTail_snoc]
      simp only [List.append_assoc]
theorem bindsOf_range (ns xs : List (List UInt8)) (h : xs.length = ns.length) : bindsOf ns xs = (List.range ns.length).map fun j => nth ns j ++ tEq ++ nth xs j := by
  apply List.ext_getElem?
  intro j
  rcases Nat.lt_or_ge j ns.length with hj | hj
  · rw [bindsOf_get (List.getElem?_eq_getElem hj) (List.getElem?_eq_getElem (by omega))]
    simp [nth, hj, h]
  · rw [List.getElem?_eq_none (by rw [bindsOf_len h]; exact hj), List.getElem?_eq_none (by simp; exact hj)]

theorem funTXP {m : Nat} {H : Nat → Option Obj} {u : Value} {y : Ex} {w : World} {t : List UInt8} (h : PRep m H u y) (ht : t.length ≤ 1000000) (ih : TXP 49 w u t) : TXP 79 w u (inBr (brF y.op) t) := fun wx hg => by
  cases m with
  | zero => exact absurd h id
  | succ m =>
    obtain ⟨b, vs, rfl, hn, _⟩ := h
    have i2 := ih.at hg
    rcases hn with ⟨h0, _⟩ | ⟨h0, _⟩ | ⟨h0, _⟩ | ⟨h0, _⟩ | ⟨h0, _⟩ | ⟨h0, _⟩ | ⟨h0, _⟩ | ⟨h0, _⟩ <;> rw [h0] at i2 ⊢
    · exact funText_name wx b t ht i2
    · exact funText_number wx b t ht i2
    · exact funText_fun wx b t ht i2
    · exact funText_if wx b t ht i2
    · exact funText_let wx b t ht i2
    · exact funText_letrec wx b t ht i2
    · exact funText_apply wx b t ht i2
    · exact funText_pair wx b t ht i2
theorem argTXP {m : Nat} {H : Nat → Option Obj} {u : Value} {y : Ex} {w : World} {t : List UInt8} (h : PRep m H u y) (ht : t.length ≤ 1000000) (ih : TXP 49 w u t) : TXP 80 w u (inBr (brA y.op) t) := fun wx hg => by
  cases m with
  | zero => exact absurd h id
  | succ m =>
    obtain ⟨b, vs, rfl, hn, _⟩ := h
    have i2 := ih.at hg
    rcases hn with ⟨h0, _⟩ | ⟨h0, _⟩ | ⟨h0, _⟩ | ⟨h0, _⟩ | ⟨h0, _⟩ | ⟨h0, _⟩ | ⟨h0, _⟩ | ⟨h0, _⟩ <;> rw [h0] at i2 ⊢
    · exact argText_name wx b t ht i2
    · exact argText_number wx b t ht i2
    · exact argText_fun wx b t ht i2
    · exact argText_if wx b t ht i2
    · exact argText_let wx b t ht i2
    · exact argText_letrec wx b t ht i2
    · exact argText_apply wx b t ht i2
    · exact argText_pair wx b t ht i2
theorem PRep.val {m : Nat} {H : Nat → Option Obj} {u : Value} {y : Ex} (h : PRep m H u y) : ∃ t b, u = (.iface t (.pointer (some ⟨b, 0, none⟩))) := by
  cases m with
  | zero => exact absurd h id
  | succ m =>
    obtain ⟨b, vs, h1, _⟩ := h
    exact ⟨_, b, h1⟩
theorem kid_of {m : Nat} {H : Nat → Option Obj} {x : Ex} {vs : List Value} (hl : vs.length = x.kids.length) (hk : ∀ (i : Nat) (y : Ex) (u : Value), vs[i]? = some u → x.kids[i]? = some y → PRep m H u y) (j : Nat) {u : Value} (hu : vs[j]? = some u) : ∃ y, x.kids[j]? = some y ∧ PRep m H u y := by
  have hj : j < vs.length := by
    rcases Nat.lt_or_ge j vs.length with h | h
    · exact h
    · rw [List.getElem?_eq_none h] at hu; cases hu
  exact ⟨x.kids[j]'(by omega), List.getElem?_eq_getElem _, hk j _ u hu (List.getElem?_eq_getElem _)⟩
theorem kidT_at {m : Nat} {x y : Ex} {j : Nat} (h : x.kids[j]? = some y) : kidT m x j = exText m y := by unfold kidT; rw [h]
theorem kidO_at {x y : Ex} {j : Nat} (h : x.kids[j]? = some y) : kidO x j = y.op := by unfold kidO; rw [h]

theorem bind_parts_le (nm ts : Nat → List UInt8) {j N : Nat} (h : j < N) : (nm j).length + (ts j).length ≤ (bindTo nm ts N).length := by
  have h1 := bindTo_step nm ts j
  have h2 := bindTo_le nm ts (j + 1) N h
  omega

set_option maxHeartbeats 2000000 in
theorem pt_all : ∀ (m : Nat) (H : Nat → Option Obj) (v : Value) (x : Ex) (w : World), PRep m H v x → Fz H w → (exText m x).length ≤ 1000000 →
    Calls Tryz.prog 49 #[v] w fun e w' => e = .returned (.string (B (exText m x))) ∧ w.grownBy w' none
  | 0, _, _, _, _, h, _, _ => absurd h id
  | m + 1, H, v, x, w, h, hz, hl => by
    have ih := pt_all m H
    have ihx : ∀ (u : Value) (y : Ex), PRep m H u y → (exText m y).length ≤ 1000000 → TXP 49 w u (exText m y) := fun u y hy hly wx hg => ih u y wx hy (hz.grown hg) hly
    obtain ⟨b, vs, rfl, hn, hvl, hk⟩ := h
    rw [exText_succ, exBody] at hl ⊢
    rcases hn with ⟨h0, t, h1, h2, h3, h4⟩ | ⟨h0, t, h1, h2, h3, h4⟩ | ⟨h0, t, u, h1, h2, h3, h4⟩ | ⟨h0, u, v, z, h1, h3, h4⟩ | ⟨h0, t, u, v, h1, h2, h3, h4⟩ | ⟨h0, us, u, gv, h1, h2, h3, h5, h6, h4⟩ | ⟨h0, u, v, h1, h3, h4⟩ | ⟨h0, u, v, h1, h3, h4⟩
    · rw [if_pos (Or.inl h0)] at hl ⊢
      have hb := hz _ _ h4
      rw [h0, show nth x.names 0 = t from by rw [h1]; rfl] at *
      exact ptext_name w b t (by omega) (by simp [World.cell?, hb])
    · rw [if_pos (Or.inr h0)] at hl ⊢
      have hb := hz _ _ h4
      rw [h0, show nth x.names 0 = t from by rw [h1]; rfl] at *
      exact ptext_number w b t (by omega) (by simp [World.cell?, hb])
    · rw [if_neg (by rw [h0]; decide), if_pos h0] at hl ⊢
      have hb := hz _ _ h4
      obtain ⟨y, hy1, hy2⟩ := kid_of hvl hk 0 (u := u) (by rw [h3]; rfl)
      rw [h0, show nth x.names 0 = t from by rw [h1]; rfl, kidT_at hy1] at *
      obtain ⟨t0, b0, rfl⟩ := hy2.val
      simp only [List.length_append] at hl
      exact ptext_fun w b t0 b0 _ t (by omega) (by omega) (lt_of_block hb) (by simp [World.cell?, hb]) (by simp [World.cell?, hb]) (ihx _ y hy2 (by omega))
    · rw [if_neg (by rw [h0]; decide), if_neg (by rw [h0]; decide), if_neg (by rw [h0]; decide), if_pos h0] at hl ⊢
      have hb := hz _ _ h4
      obtain ⟨y0, hy0, hr0⟩ := kid_of hvl hk 0 (u := u) (by rw [h3]; rfl)
      obtain ⟨y1, hy1, hr1⟩ := kid_of hvl hk 1 (u := v) (by rw [h3]; rfl)
      obtain ⟨y2, hy2, hr2⟩ := kid_of hvl hk 2 (u := z) (by rw [h3]; rfl)
      rw [h0, kidT_at hy0, kidT_at hy1, kidT_at hy2] at *
      obtain ⟨t0, b0, rfl⟩ := hr0.val
      obtain ⟨t1, b1, rfl⟩ := hr1.val
      obtain ⟨t2, b2, rfl⟩ := hr2.val
      simp only [List.length_append] at hl
      exact ptext_if w b t0 b0 _ t1 b1 _ t2 b2 _ (by omega) (by omega) (by omega) (lt_of_block hb) (by simp [World.cell?, hb]) (by simp [World.cell?, hb]) (by simp [World.cell?, hb]) (ihx _ y0 hr0 (by omega)) (ihx _ y1 hr1 (by omega)) (ihx _ y2 hr2 (by omega))
    · rw [if_neg (by rw [h0]; decide), if_neg (by rw [h0]; decide), if_neg (by rw [h0]; decide), if_neg (by rw [h0]; decide), if_neg (by rw [h0]; decide)] at hl ⊢
      have hb := hz _ _ h4
      obtain ⟨y0, hy0, hr0⟩ := kid_of hvl hk 0 (u := u) (by rw [h3]; rfl)
      obtain ⟨y1, hy1, hr1⟩ := kid_of hvl hk 1 (u := v) (by rw [h3]; rfl)
      have e1 : x.names.length = 1 := by rw [h1]; rfl
      have e2 : letHead x.op ++ bindTo (nth x.names) (kidT m x) x.names.length ++ tIn ++ kidT m x x.names.length = tLet ++ (t ++ tEq ++ exText m y0) ++ tIn ++ exText m y1 := by
        rw [e1, kidT_at hy1, h0]
        have : nth x.names 0 = t := by rw [h1]; rfl
        simp [bindTo, letHead, kLet, kRec, this, kidT_at hy0]
      rw [e2] at hl ⊢
      rw [h0]
      obtain ⟨t0, b0, rfl⟩ := hr0.val
      obtain ⟨t1, b1, rfl⟩ := hr1.val
      simp only [List.length_append] at hl
      exact ptext_let w b t0 b0 _ t1 b1 _ t (by omega) (by omega) (by omega) (lt_of_block hb) (by simp [World.cell?, hb]) (by simp [World.cell?, hb]) (by simp [World.cell?, hb]) (ihx _ y0 hr0 (by omega)) (ihx _ y1 hr1 (by omega))
    · rw [if_neg (by rw [h0]; decide), if_neg (by rw [h0]; decide), if_neg (by rw [h0]; decide), if_neg (by rw [h0]; decide), if_neg (by rw [h0]; decide)] at hl ⊢
      have hb := hz _ _ h4
      obtain ⟨yl, hyl, hrl⟩ := kid_of hvl hk x.names.length (u := u) (by rw [h5, List.getElem?_append_right (by omega), h2]; simp)
      obtain ⟨xs, hxs⟩ : ∃ xs, xs = (List.range x.names.length).map (kidT m x) := ⟨_, rfl⟩
      have hxl : xs.length = x.names.length := by rw [hxs]; simp
      have hxn : ∀ j, j < x.names.length → nth xs j = kidT m x j := fun j hj => by rw [hxs]; simp [nth, hj]
      have e1 : Lib.join (bindsOf x.names xs) tAnd = bindTo (nth x.names) (kidT m x) x.names.length := by
        rw [bindsOf_range _ _ hxl, bindTo_join _ _ _ h1]
        exact bindTo_congr _ (fun j hj => ⟨rfl, hxn j hj⟩)
      have hh : letHead x.op = tLet ++ tRec := by rw [h0]; rfl
      rw [hh, kidT_at hyl, ← e1] at hl ⊢
      simp only [List.length_append] at hl
      have hN : x.names.length ≤ 1000000 := by
        have := bindTo_n (nth x.names) (kidT m x) x.names.length
        rw [← e1] at this
        omega
      have part : ∀ j, j < x.names.length → (nth x.names j).length + (kidT m x j).length ≤ 1000000 := fun j hj => by
        have := bind_parts_le (nth x.names) (kidT m x) hj
        rw [← e1] at this
        omega
      obtain ⟨g, cap, cur, hg1, hg2, hg3⟩ := h6
      have hgb := hz _ _ hg2
      have husx : AllX us := fun a ha => by
        obtain ⟨i, hi, rfl⟩ := List.mem_iff_getElem.1 ha
        obtain ⟨y, _, hr⟩ := kid_of hvl hk i (u := us[i]) (by rw [h5, List.getElem?_append_left hi]; exact List.getElem?_eq_getElem hi)
        exact hr.val
      have hga : GAt w g x.names us := by
        refine ⟨h2, lt_of_block hgb, fun i nm a e2 e3 => ?_⟩
        have hi : i < x.names.length := by
          rcases Nat.lt_or_ge i x.names.length with h | h
          · exact h
          · rw [List.getElem?_eq_none h] at e2; cases e2
        obtain ⟨q1, q2⟩ := bindCells_get x.names us i nm a h2 e2 e3
        rw [← hg3, List.getElem?_take, if_pos (by omega)] at q1 q2
        obtain ⟨t, c, rfl⟩ := husx a (List.mem_of_getElem? e3)
        refine ⟨?_, ?_, rfl⟩
        · simp only [World.cell?, hgb]
          simpa using q1
        · simp only [World.cell?, hgb]
          simpa using q2
      obtain ⟨t1, b1, rfl⟩ := hrl.val
      have gt : TXP 78 w gv (Lib.join (bindsOf x.names xs) tAnd) := fun wx hg => by
        rw [hg1]
        refine groupText_p wx g cap x.names us xs hN h1 hxl (hga.grown hg) husx (fun n hn => ?_) (fun a ha => ?_) (by omega) (fun j a tx e2 e3 => ?_)
        · obtain ⟨i, hi, rfl⟩ := List.mem_iff_getElem.1 hn
          have := part i hi
          have e : nth x.names i = x.names[i] := by simp [nth, hi]
          rw [e] at this
          omega
        · rw [hxs] at ha
          obtain ⟨j, hj, rfl⟩ := List.mem_map.1 ha
          have := part j (List.mem_range.1 hj)
          omega
        · have hj : j < x.names.length := by
            rcases Nat.lt_or_ge j us.length with h | h
            · omega
            · rw [List.getElem?_eq_none h] at e2; cases e2
          obtain ⟨y, hy, hr⟩ := kid_of hvl hk j (u := a) (by rw [h5, List.getElem?_append_left (by omega)]; exact e2)
          have et : tx = exText m y := by
            have := hxn j hj
            simp only [nth, e3, Option.getD_some] at this
            rw [this, kidT_at hy]
          have hpl := part j hj
          rw [kidT_at hy] at hpl
          rw [et]
          exact (ihx a y hr (by omega)).at hg
      rw [h0]
      exact ptext_rec w b gv _ t1 b1 _ g x.names.length cap hg1 (by omega) (by omega) (lt_of_block hb) (by simp [World.cell?, hb]) (by simp [World.cell?, hb]) gt (ihx _ yl hrl (by omega))
    · rw [if_neg (by rw [h0]; decide), if_neg (by rw [h0]; decide), if_neg (by rw [h0]; decide), if_neg (by rw [h0]; decide), if_pos h0] at hl ⊢
      have hb := hz _ _ h4
      obtain ⟨y0, hy0, hr0⟩ := kid_of hvl hk 0 (u := u) (by rw [h3]; rfl)
      obtain ⟨y1, hy1, hr1⟩ := kid_of hvl hk 1 (u := v) (by rw [h3]; rfl)
      rw [h0, kidT_at hy0, kidT_at hy1, kidO_at hy0, kidO_at hy1] at *
      obtain ⟨t0, b0, rfl⟩ := hr0.val
      obtain ⟨t1, b1, rfl⟩ := hr1.val
      simp only [List.length_append] at hl
      have g0 := inBr_ge (brF y0.op) (exText m y0)
      have g1 := inBr_ge (brA y1.op) (exText m y1)
      exact ptext_apply w b t0 b0 _ t1 b1 _ (by omega) (by omega) (lt_of_block hb) (by simp [World.cell?, hb]) (by simp [World.cell?, hb]) (funTXP hr0 (by omega) (ihx _ y0 hr0 (by omega))) (argTXP hr1 (by omega) (ihx _ y1 hr1 (by omega)))
    · rw [if_neg (by rw [h0]; decide), if_neg (by rw [h0]; decide), if_pos h0] at hl ⊢
      have hb := hz _ _ h4
      obtain ⟨y0, hy0, hr0⟩ := kid_of hvl hk 0 (u := u) (by rw [h3]; rfl)
      obtain ⟨y1, hy1, hr1⟩ := kid_of hvl hk 1 (u := v) (by rw [h3]; rfl)
      rw [h0, kidT_at hy0, kidT_at hy1] at *
      obtain ⟨t0, b0, rfl⟩ := hr0.val
      obtain ⟨t1, b1, rfl⟩ := hr1.val
      simp only [List.length_append] at hl
      exact ptext_pair w b t0 b0 _ t1 b1 _ (by omega) (by omega) (lt_of_block hb) (by simp [World.cell?, hb]) (by simp [World.cell?, hb]) (ihx _ y0 hr0 (by omega)) (ihx _ y1 hr1 (by omega))
end Go.Proofs.YtcdijppegfcoaabGreatDoor

/-
  OUR OWN TEXT. The program's infer.Show.
-/
namespace Go.Proofs.YtcdijppegfcoaabGreatDoor
open Go.RowKit

theorem text_le {n m : Nat} {x : Ex} (h : Shape n x) (hm : n ≤ m) : exText m x = exText n x := by
  have hs : ∀ k, Shape (n + k) x ∧ exText (n + k) x = exText n x := by
    intro k
    induction k with
    | zero => exact ⟨h, rfl⟩
    | succ k ih =>
      have := more_fuel _ _ ih.1
      exact ⟨this.1, this.2.1.trans ih.2⟩
  have := (hs (m - n)).2
  rw [show n + (m - n) = m from by omega] at this
  exact this
theorem text_same {n m : Nat} {x : Ex} (h : Shape n x) (h' : Shape m x) : exText n x = exText m x ∧ exDeep n x = exDeep m x := by
  rcases Nat.le_total n m with hl | hl
  · exact ⟨(text_le h hl).symm, (deep_le h hl).symm⟩
  · exact ⟨text_le h' hl, deep_le h' hl⟩

/-- What Show leaves; m: any fuel at which the expression has its parts. -/
def SOut (w w' : World) (s2 : St) (e : Ending) (ex : Ex) (bd : Addr) : Prop :=
  w.grownBy w' none ∧ ((0 ≤ s2.bad ∧ ∃ b, e = .returned (.tuple #[.string (B []), .iface 81 (.pointer (some ⟨b, 0, none⟩))]) ∧ w'.heap[b]? = some (.cells #[.int .i64 s2.bad] 92 (0, 0))) ∨
    (s2.bad < 0 ∧ ∀ m, Shape m ex → ((40 < exDeep m ex ∧ e = .returned (.tuple #[.string (B []), errV bd])) ∨ (exDeep m ex ≤ 40 ∧ e = .returned (.tuple #[.string (B (exText m ex)), .nilIface])))))

set_option maxRecDepth 100000 in
set_option maxHeartbeats 2000000 in
theorem show_p (s : ByteArray) (hs : s.size ≤ 300) (w : World) (n : Nat) (ex : Ex) (s1 : St) (hx : expS (toksOf exKw s) n ⟨0, -1⟩ = some (ex, s1)) (hni : (needS (toksOf exKw s) s1 kEnd).bad < 0 → ∃ m c, Nice m ex c ∧ c ≤ 400) (bd : Addr) (hg : w.cell? ⟨1, 0, none⟩ = some (errV bd)) (hgl : 1 < w.heap.size) :
    Calls Tryz.prog 32 #[.string s] w fun e w' => SOut w w' (needS (toksOf exKw s) s1 kEnd) e ex bd := by
  have HC := hid (read_p s hs w n ex s1 hx bd hg hgl)
  clear hx hg
  go_enter Tryz.func32, Tryz.ntmps32
  go_wp2_with fail
  refine HC.out.mono ?_
  rintro e w1 ⟨g1, (⟨hb, b, rfl, hbk⟩ | ⟨hb, v, H', m, z1, r1, d1, (⟨hd, rfl⟩ | ⟨hd, rfl⟩)⟩)⟩
  · have Q := hid (And.intro g1 (And.intro hb hbk))
    clear g1 hb hbk HC
    go_wp2
    go_ret2
    exact ⟨Q.out.1, Or.inl ⟨Q.out.2.1, b, rfl, Q.out.2.2⟩⟩
  · have sh := PRep.shape _ _ _ r1
    have Q := hid (And.intro g1 (And.intro hb (And.intro sh hd)))
    clear g1 hb z1 r1 d1 sh hd HC
    unfold errV
    go_wp2
    go_ret2
    obtain ⟨g1, hb, sh, hd⟩ := Q.out
    exact ⟨g1, Or.inr ⟨hb, fun k hk => Or.inl ⟨by rw [(text_same hk sh).2]; exact hd, rfl⟩⟩⟩
  · have sh := PRep.shape _ _ _ r1
    obtain ⟨m', c, nice, hc⟩ := hni hb
    have ts := text_same sh nice.shape
    have hlen : (exText m ex).length ≤ 10000 := by
      rw [ts.1]
      have := nice.text
      omega
    have PT := hid (pt_all m H' v ex w1 r1 z1 (by omega))
    obtain ⟨t1, b1, rfl⟩ := r1.val
    have Q := hid (And.intro g1 (And.intro hb (And.intro sh hd)))
    have hsz : (B (exText m ex)).size ≤ 281474976710656 := by rw [size_B]; omega
    clear g1 hb z1 r1 d1 sh hd HC hni nice ts
    go_wp2_with (first | (go_at_call 49; refine PT.out.mono ?_; rintro e w2 ⟨rfl, g2⟩; have G2 := hid g2; clear g2) | (go_at_call 76; refine (Tryz.stringslite_Clone _ _ hsz).mono ?_; rintro e w3 ⟨rfl, g3⟩; have G3 := hid g3; clear g3) | go_in)
    go_ret2
    obtain ⟨g1, hb, sh, hd⟩ := Q.out
    exact ⟨(g1.trans G2.out).trans ⟨G3.out.os, G3.out.tape, G3.out.output, G3.out.size, fun k hk _ => G3.out.block k hk⟩, Or.inr ⟨hb, fun k hk => Or.inr ⟨by rw [(text_same hk sh).2]; exact hd, by rw [(text_same hk sh).1]; rfl⟩⟩⟩

set_option maxRecDepth 100000 in
theorem show_plong (s : ByteArray) (hs : 300 < s.size) (w : World) (bl : Addr) (hg : w.cell? ⟨0, 0, none⟩ = some (errV bl)) (hgl : 0 < w.heap.size) :
    Calls Tryz.prog 32 #[.string s] w fun e w' => e = .returned (.tuple #[.string (B []), errV bl]) ∧ w.grownBy w' none := by
  have HC := hid (read_plong s hs w bl hg hgl)
  clear hg
  unfold errV at HC ⊢
  go_enter Tryz.func32, Tryz.ntmps32
  go_wp2_with (go_at_call 44; refine HC.out.mono ?_; rintro e w' ⟨rfl, g1⟩; have G1 := hid g1; clear g1)
  go_ret2
  exact ⟨rfl, G1.out⟩
end Go.Proofs.YtcdijppegfcoaabGreatDoor
