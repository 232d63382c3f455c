/-
  OUR OWN TEXT. The program's reader: what is applied.
-/
import Derived.Test.YtfangljlgfcdpaaGreatDoorPApp
namespace Go.Proofs.YtfangljlgfcdpaaGreatDoor
open Go.RowKit

theorem app_bad {A : St → Option (Ex × St)} {T : List Tok} {f : Nat} {x : Ex} {st : St} {ex : Ex} {st' : St} (hb : 0 ≤ st.bad) (h : appS A T f x st = some (ex, st')) : st' = st := by
  cases f with
  | zero => simp [appS] at h
  | succ f =>
    rw [appS, if_neg (by rw [isS_bad hb, isS_bad hb, isS_bad hb]; decide)] at h
    cases h
    rfl

set_option maxRecDepth 100000 in
set_option maxHeartbeats 4000000 in
theorem applied_p (T : List Tok) (n : Nat) (hl : T.length ≤ 400) (hE : EXPP T n) (w : World) (rb : Nat) (s : ByteArray) (H : Nat → Option Obj) (st : St) (x : Ex) (s1 : St) (ex : Ex) (st' : St)
    (hs : atomS (expS T n) T st = some (x, s1)) (ha : appS (atomS (expS T n) T) T (T.length + 1) x s1 = some (ex, st')) (h : PSt exKw w rb s T st) (hz : Fz H w) (hr : H rb = none) :
    Calls Tryz.prog 127 #[rdV rb] w fun e w' => EOut w w' rb s T H st.k st' e ex := by
  have hlt := h.lt
  have HP := hid (h.alloc (.cells #[.pointer (some ⟨rb, 0, none⟩)] 164))
  have HZ := hid (hz.alloc (.cells #[.pointer (some ⟨rb, 0, none⟩)] 164))
  have HE := hid hE
  have HS := hid hs
  have HA := hid ha
  have K0 := hid ((Kept.refl rb w).alloc (.cells #[.pointer (some ⟨rb, 0, none⟩)] 164))
  clear h hz hE hs ha
  unfold rdV
  go_enter Tryz.func127, Tryz.ntmps127
  go_wp2_with fail
  refine (atom_p T n hl HE.out _ rb s H st x s1 HS.out HP.out HZ.out hr).mono ?_
  rintro e w1 ⟨k1, (⟨v1, H1, m1, rfl, p1, z1, e1, r1, d1⟩ | ⟨hb, b, rfl, hrf⟩)⟩
  case inr =>
    have e4 := app_bad hb HA.out
    unfold refusal
    go_wp2
    exact ⟨rfl, K0.out.trans k1, Or.inr ⟨by rw [e4]; exact hb, b, rfl, by rw [e4]; exact hrf⟩⟩
  case inl =>
  obtain ⟨t1, b1, ht1, rfl, hb1, hc1⟩ := r1.dat z1
  have bx1 : w1.cell? ⟨w.heap.size, 0, none⟩ = some (.pointer (some ⟨rb, 0, none⟩)) := by
    rw [kept_cell k1 (by simp) (by omega)]
    simp [go_sem]
  have hw1 : w.heap.size < w1.heap.size := by have := k1.size; simp at this; omega
  have P1 := hid p1
  have K1 := hid (K0.out.trans k1)
  have Z1 := hid z1
  have E1 := hid (e1.from (n := w.heap.size) (by simp))
  have R1 := hid r1
  have D1 := hid d1
  clear p1 k1 z1 e1 r1 d1 hb1 hc1
  go_wp2_with fail
  go_loopg [3] (T.length + 1) (fun g v wi => ∃ t b Hi m y sy, v = (.iface t (.pointer (some ⟨b, 0, none⟩))) ∧ Hid (appS (atomS (expS T n) T) T g y sy = some (ex, st')) ∧ Hid (PSt exKw wi rb s T sy) ∧ Hid (Kept rb w wi) ∧ Hid (Fz Hi wi) ∧ Hid (Ext w.heap.size H Hi) ∧ Hid (PRep m Hi (.iface t (.pointer (some ⟨b, 0, none⟩))) y) ∧ Hid (exDeep m y + st.k ≤ sy.k) ∧ wi.cell? ⟨w.heap.size, 0, none⟩ = some (.pointer (some ⟨rb, 0, none⟩)) ∧ w.heap.size < wi.heap.size)
  case atStart => exact ⟨t1, b1, H1, m1, x, s1, rfl, HA, P1, K1, Z1, E1, R1, D1, bx1, hw1⟩
  case round =>
    obtain ⟨t2, b2, H2, m2, y, sy, rfl, AA, P2, K2, Z2, E2, R2, D2, bx2, hw2⟩ := hrel
    rename World => w2
    obtain ⟨F, rfl⟩ : ∃ F, gk = F + 1 := by
      cases gk with
      | zero => have := AA.out; simp [appS] at this
      | succ F => exact ⟨F, rfl⟩
    go_wp2_with fail
    refine (isAtom_p _ rb s T sy P2.out).mono ?_
    rintro e w3 ⟨rfl, g3⟩
    have bx3 : w3.cell? ⟨w.heap.size, 0, none⟩ = some (.pointer (some ⟨rb, 0, none⟩)) := by
      rw [World.cell?_of_block (a := ⟨w.heap.size, 0, none⟩) (g3.block w.heap.size hw2 (by simp))]
      exact bx2
    have hw3 : w2.heap.size ≤ w3.heap.size := g3.size
    have P3 := hid (P2.out.grown g3)
    have K3 := hid (K2.out.trans (Kept.of0 rb g3))
    have Z3 := hid (Z2.out.grown g3)
    have hr2 : H2 rb = none := by rw [E2.out.2 rb hlt]; exact hr
    have e4 := AA.out
    rw [appS] at e4
    clear g3 bx2 P2 K2 Z2 AA
    cases hm : moreT T sy with
    | false =>
      have hm' : ¬ (isS T sy kName = true ∨ isS T sy kNum = true ∨ isS T sy kOpen = true) := by
        simp only [moreT, Bool.or_eq_false_iff] at hm
        rw [hm.1, hm.2.1, hm.2.2]
        decide
      rw [if_neg hm'] at e4
      cases e4
      clear hm hm'
      go_wp2
      go_ret
      exact ⟨K3.out, Or.inl ⟨_, H2, m2, rfl, P3.out, Z3.out, E2.out, R2.out, D2.out⟩⟩
    | true =>
      have hm' : isS T sy kName = true ∨ isS T sy kNum = true ∨ isS T sy kOpen = true := by simpa [moreT] using hm
      rw [if_pos hm'] at e4
      cases hx : atomS (expS T n) T sy with
      | none => rw [hx] at e4; cases e4
      | some q =>
      obtain ⟨z, s4⟩ := q
      rw [hx] at e4
      have HX := hid hx
      have AA := hid e4
      clear hm hm' hx e4
      go_wp2_with fail
      refine (atom_p T n hl HE.out _ rb s H2 sy z s4 HX.out P3.out Z3.out hr2).mono ?_
      rintro e w4 ⟨k4, (⟨v2, H3, m3, rfl, p4, z4, e4, r4, d4⟩ | ⟨hb, b, rfl, hrf⟩)⟩
      case inr =>
        have e4 := app_bad hb AA.out
        unfold refusal
        go_wp2
        exact ⟨rfl, K3.out.trans k4, Or.inr ⟨by rw [e4]; exact hb, b, rfl, by rw [e4]; exact hrf⟩⟩
      case inl =>
      obtain ⟨t3, b3, ht3, rfl, hb3, hc3⟩ := r4.dat z4
      have bx4 : w4.cell? ⟨w.heap.size, 0, none⟩ = some (.pointer (some ⟨rb, 0, none⟩)) := by
        rw [kept_cell k4 (by omega) (by omega)]
        exact bx3
      have hw4 : w3.heap.size ≤ w4.heap.size := k4.size
      have hkk := p4.klt
      obtain ⟨M, hM⟩ : ∃ M, M = max m2 m3 := ⟨_, rfl⟩
      have RA : Hid (PRep M H3 (.iface t2 (.pointer (some ⟨b2, 0, none⟩))) y) := (PRep.ext e4 _ _ _ R2.out).le (by omega)
      have RB : Hid (PRep M H3 (.iface t3 (.pointer (some ⟨b3, 0, none⟩))) z) := r4.le (by omega)
      have q1 : exDeep M y = exDeep m2 y := deep_le (PRep.shape _ _ _ R2.out) (by omega)
      have q2 : exDeep M z = exDeep m3 z := deep_le (PRep.shape _ _ _ r4) (by omega)
      have D5 := hid (show max (exDeep M y) (exDeep M z) + 1 + st.k ≤ s4.k ∧ s4.k < T.length by
        have := D2.out
        have := deep_pos R2.out
        have := deep_pos r4
        omega)
      have ZA := hid (z4.alloc (.cells #[(.iface t2 (.pointer (some ⟨b2, 0, none⟩))), (.iface t3 (.pointer (some ⟨b3, 0, none⟩)))] 114))
      have P5 := hid p4
      have K5 := hid (K3.out.trans k4)
      have E5 := hid (E2.out.trans (e4.from (n := w.heap.size) (by omega)) (Nat.le_refl _))
      clear p4 k4 z4 e4 r4 d4 hb3 hc3 bx3 hM q1 q2
      have AB : Hid (Calls Tryz.prog 164 #[.slice (some ⟨w4.heap.size, 0, none⟩) 2 2] (w4.alloc (.cells #[(.iface t2 (.pointer (some ⟨b2, 0, none⟩))), (.iface t3 (.pointer (some ⟨b3, 0, none⟩)))] 114)) fun e w' => e = .returned (.agg #[.int .i64 ((maxl [exDeep M y, exDeep M z] + 1 : Nat) : Int)]) ∧ (w4.alloc (.cells #[(.iface t2 (.pointer (some ⟨b2, 0, none⟩))), (.iface t3 (.pointer (some ⟨b3, 0, none⟩)))] 114)).grownBy w' none) :=
        above_p _ (some ⟨w4.heap.size, 0, none⟩) 2 [(.iface t2 (.pointer (some ⟨b2, 0, none⟩))), (.iface t3 (.pointer (some ⟨b3, 0, none⟩)))] [exDeep M y, exDeep M z] rfl (by simp) (row2 (w := w4) (t := 114)) (all2 (p := fun u d => DAt _ u d) (RA.out.dat ZA.out) (RB.out.dat ZA.out)) (by have := D5.out; simp [maxl]; omega)
      go_wp2_with fail
      refine AB.out.mono ?_
      rintro e w6 ⟨rfl, g6⟩
      have bx6 : w6.cell? ⟨w.heap.size, 0, none⟩ = some (.pointer (some ⟨rb, 0, none⟩)) := by
        rw [World.cell?_of_block (a := ⟨w.heap.size, 0, none⟩) (g6.block w.heap.size (by simp; omega) (by simp))]
        exact cell_past bx4 _
      have hw6 : w4.heap.size ≤ w6.heap.size := by have := g6.size; simp at this; omega
      have G6 := hid g6
      clear g6 bx4
      go_wp2_with fail
      go_roundg F
      case measure => omega
      case rel =>
        obtain ⟨H7, z7, x7, r7⟩ := node_rep (w := w6) (H := H3) (ZA.out.grown G6.out) ⟨oApp, [], [y, z], y.pos⟩ [(.iface t2 (.pointer (some ⟨b2, 0, none⟩))), (.iface t3 (.pointer (some ⟨b3, 0, none⟩)))] M (.cells #[.int .i64 ((exDeep (M + 1) ⟨oApp, [], [y, z], y.pos⟩ : Nat) : Int), (.iface t2 (.pointer (some ⟨b2, 0, none⟩))), (.iface t3 (.pointer (some ⟨b3, 0, none⟩)))] 195) rfl
          (kids2 (p := fun u q => PRep M H3 u q) RA.out RB.out)
          (fun H' _ h2 => Or.inr (Or.inr (Or.inr (Or.inr (Or.inr (Or.inr (Or.inl ⟨rfl, _, _, rfl, rfl, h2⟩)))))))
        refine ⟨_, _, H7, M + 1, ⟨oApp, [], [y, z], y.pos⟩, s4, rfl, AA, ((P5.out.alloc _).grown G6.out).alloc _, ((K5.out.alloc _).trans (Kept.of0 rb G6.out)).alloc _, z7, E5.out.trans x7 (by omega), r7, ?_, cell_past bx6 _, by simp; omega⟩
        have hd : exDeep (M + 1) ⟨oApp, [], [y, z], y.pos⟩ = max (exDeep M y) (exDeep M z) + 1 := by simp [exDeep, maxl]
        have := D5.out
        show exDeep (M + 1) _ + st.k ≤ s4.k
        omega
end Go.Proofs.YtfangljlgfcdpaaGreatDoor
