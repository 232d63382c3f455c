/-
  OUR OWN TEXT. The program's reader: a choice.
-/
import Derived.Test.YtcdijppegfcoaabGreatDoorPFun
namespace Go.Proofs.YtcdijppegfcoaabGreatDoor
open Go.RowKit

theorem row3 {w : World} {t : TypeId} {a b c : Value} : ∀ (i : Nat) (u : Value), [a, b, c][i]? = some u → ∃ g, some (⟨w.heap.size, 0, none⟩ : Addr) = some ⟨g, 0, none⟩ ∧ g < (w.alloc (.cells #[a, b, c] t)).heap.size ∧ (w.alloc (.cells #[a, b, c] t)).cell? ⟨g, i, none⟩ = some u := by
  intro i u hu
  match i, hu with
  | 0, hu => simp at hu; subst hu; exact ⟨_, rfl, by simp, by simp [go_sem]⟩
  | 1, hu => simp at hu; subst hu; exact ⟨_, rfl, by simp, by simp [go_sem]⟩
  | 2, hu => simp at hu; subst hu; exact ⟨_, rfl, by simp, by simp [go_sem]⟩
  | i + 3, hu => simp at hu
theorem row2 {w : World} {t : TypeId} {a b : Value} : ∀ (i : Nat) (u : Value), [a, b][i]? = some u → ∃ g, some (⟨w.heap.size, 0, none⟩ : Addr) = some ⟨g, 0, none⟩ ∧ g < (w.alloc (.cells #[a, b] t)).heap.size ∧ (w.alloc (.cells #[a, b] t)).cell? ⟨g, i, none⟩ = some u := by
  intro i u hu
  match i, hu with
  | 0, hu => simp at hu; subst hu; exact ⟨_, rfl, by simp, by simp [go_sem]⟩
  | 1, hu => simp at hu; subst hu; exact ⟨_, rfl, by simp, by simp [go_sem]⟩
  | i + 2, hu => simp at hu
theorem all3 {p : Value → Nat → Prop} {a b c : Value} {x y z : Nat} (h1 : p a x) (h2 : p b y) (h3 : p c z) : ∀ (i : Nat) (u : Value) (d : Nat), [a, b, c][i]? = some u → [x, y, z][i]? = some d → p u d := by
  intro i u d hu hd
  match i, hu, hd with
  | 0, hu, hd => simp at hu hd; subst hu hd; exact h1
  | 1, hu, hd => simp at hu hd; subst hu hd; exact h2
  | 2, hu, hd => simp at hu hd; subst hu hd; exact h3
  | i + 3, hu, hd => simp at hu
theorem all2 {p : Value → Nat → Prop} {a b : Value} {x y : Nat} (h1 : p a x) (h2 : p b y) : ∀ (i : Nat) (u : Value) (d : Nat), [a, b][i]? = some u → [x, y][i]? = some d → p u d := by
  intro i u d hu hd
  match i, hu, hd with
  | 0, hu, hd => simp at hu hd; subst hu hd; exact h1
  | 1, hu, hd => simp at hu hd; subst hu hd; exact h2
  | i + 2, hu, hd => simp at hu
theorem kids3 {p : Value → Ex → Prop} {a b c : Value} {x y z : Ex} (h1 : p a x) (h2 : p b y) (h3 : p c z) : ∀ (i : Nat) (q : Ex) (u : Value), [a, b, c][i]? = some u → [x, y, z][i]? = some q → p u q := by
  intro i q u hu hd
  match i, hu, hd with
  | 0, hu, hd => simp at hu hd; subst hu hd; exact h1
  | 1, hu, hd => simp at hu hd; subst hu hd; exact h2
  | 2, hu, hd => simp at hu hd; subst hu hd; exact h3
  | i + 3, hu, hd => simp at hu
theorem kids2 {p : Value → Ex → Prop} {a b : Value} {x y : Ex} (h1 : p a x) (h2 : p b y) : ∀ (i : Nat) (q : Ex) (u : Value), [a, b][i]? = some u → [x, y][i]? = some q → p u q := by
  intro i q u hu hd
  match i, hu, hd with
  | 0, hu, hd => simp at hu hd; subst hu hd; exact h1
  | 1, hu, hd => simp at hu hd; subst hu hd; exact h2
  | i + 2, hu, hd => simp at hu

set_option maxRecDepth 100000 in
set_option maxHeartbeats 1000000 in
theorem choice_p (T : List Tok) (n : Nat) (hl : T.length ≤ 400) (hE : EXPP T n) (w : World) (rb : Nat) (s : ByteArray) (H : Nat → Option Obj) (st : St) (x y z : Ex) (s1 s2 s3 : St) (p : Nat)
    (hx : expS T n st = some (x, s1)) (hy : expS T n (needS T s1 kThen) = some (y, s2)) (hw : expS T n (needS T s2 kElse) = some (z, s3)) (h : PSt exKw w rb s T st) (hz : Fz H w) (hr : H rb = none) :
    Calls Tryz.prog 111 #[rdV rb] w fun e w' => EOut w w' rb s T H st.k s3 e ⟨kIf, [], [x, y, z], p⟩ := by
  have hlt := h.lt
  have HP := hid (h.alloc (.cells #[.pointer (some ⟨rb, 0, none⟩)] 153))
  have HZ := hid (hz.alloc (.cells #[.pointer (some ⟨rb, 0, none⟩)] 153))
  have HE := hid hE
  have HX := hid hx
  have HY := hid hy
  have HW := hid hw
  have K0 := hid ((Kept.refl rb w).alloc (.cells #[.pointer (some ⟨rb, 0, none⟩)] 153))
  have fail2 : 0 ≤ (needS T s2 kElse).bad → s3 = needS T s2 kElse := fun hb => exp_bad_st hb hw
  have fail1 : 0 ≤ (needS T s1 kThen).bad → s3 = needS T s1 kThen := fun hb => by
    have e1 := exp_bad_st hb hy
    have e2 : needS T s2 kElse = s2 := need_bad (by rw [e1]; exact hb)
    rw [e2] at fail2
    rw [fail2 (by rw [e1]; exact hb), e1]
  have F1 := hid fail1
  have F2 := hid fail2
  clear h hz hE hx hy hw fail1 fail2
  unfold rdV
  go_enter Tryz.func111, Tryz.ntmps111
  go_wp2_with fail
  refine (HE.out _ rb s H st x s1 HX.out HP.out HZ.out hr).mono ?_
  rintro e w1 ⟨k1, (⟨v1, H1, m1, rfl, p1, z1, e1, r1, d1⟩ | ⟨hb, b, rfl, hrf⟩)⟩
  case inr =>
    have e3 : needS T s1 kThen = s1 := need_bad hb
    have e4 := F1.out (by rw [e3]; exact hb)
    rw [e3] at e4
    unfold refusal
    go_wp2
    exact ⟨rfl, K0.out.trans k1, Or.inr ⟨by rw [e4]; exact hb, b, rfl, by rw [e4]; exact hrf⟩⟩
  case inl =>
  obtain ⟨t1, b1, ht1, rfl, hb1, hc1⟩ := r1.dat z1
  have bx1 : w1.cell? ⟨w.heap.size, 0, none⟩ = some (.pointer (some ⟨rb, 0, none⟩)) := by
    rw [kept_cell k1 (by simp) (by omega)]
    simp [go_sem]
  have hw1 : w.heap.size < w1.heap.size := by have := k1.size; simp at this; omega
  have hr1 : H1 rb = none := by rw [e1.2 rb (by simp; omega)]; exact hr
  have P1 := hid p1
  have K1 := hid (K0.out.trans k1)
  have Z1 := hid z1
  have E1 := hid (e1.from (n := w.heap.size) (by simp))
  have R1 := hid r1
  have D1 := hid d1
  clear p1 k1 z1 e1 r1 d1 hb1 hc1
  go_wp2_with fail
  refine (must_p exKw exKw_ok _ rb s T s1 kThen P1.out (Or.inl (by decide))).mono ?_
  rintro e w2 ⟨k2, (⟨rfl, p2⟩ | ⟨hb, b, rfl, hrf⟩)⟩
  case inr =>
    have e4 := F1.out hb
    unfold refusal
    go_wp2
    exact ⟨rfl, K1.out.trans k2, Or.inr ⟨by rw [e4]; exact hb, b, rfl, by rw [e4]; exact hrf⟩⟩
  case inl =>
  have bx2 : w2.cell? ⟨w.heap.size, 0, none⟩ = some (.pointer (some ⟨rb, 0, none⟩)) := by
    rw [kept_cell k2 hw1 (by omega)]
    exact bx1
  have hw2 : w1.heap.size ≤ w2.heap.size := k2.size
  have P2 := hid p2
  have K2 := hid (K1.out.trans k2)
  have Z2 := hid (Z1.out.kept k2 hr1)
  clear p2 k2 bx1
  go_wp2_with fail
  refine (HE.out _ rb s H1 _ y s2 HY.out P2.out Z2.out hr1).mono ?_
  rintro e w3 ⟨k3, (⟨v2, H3, m2, rfl, p3, z3, e3, r3, d3⟩ | ⟨hb, b, rfl, hrf⟩)⟩
  case inr =>
    have e3 : needS T s2 kElse = s2 := need_bad hb
    have e4 := F2.out (by rw [e3]; exact hb)
    rw [e3] at e4
    unfold refusal
    go_wp2
    exact ⟨rfl, K2.out.trans k3, Or.inr ⟨by rw [e4]; exact hb, b, rfl, by rw [e4]; exact hrf⟩⟩
  case inl =>
  obtain ⟨t2, b2, ht2, rfl, hb2, hc2⟩ := r3.dat z3
  have bx3 : w3.cell? ⟨w.heap.size, 0, none⟩ = some (.pointer (some ⟨rb, 0, none⟩)) := by
    rw [kept_cell k3 (by omega) (by omega)]
    exact bx2
  have hw3 : w2.heap.size ≤ w3.heap.size := k3.size
  have hr3 : H3 rb = none := by rw [e3.2 rb (by omega)]; exact hr1
  have P3 := hid p3
  have K3 := hid (K2.out.trans k3)
  have Z3 := hid z3
  have E3 := hid (e3.from (n := w.heap.size) (by omega))
  have R3 := hid r3
  have D3 := hid d3
  clear p3 k3 z3 e3 r3 d3 hb2 hc2 bx2
  go_wp2_with fail
  refine (must_p exKw exKw_ok _ rb s T s2 kElse P3.out (Or.inl (by decide))).mono ?_
  rintro e w4 ⟨k4, (⟨rfl, p4⟩ | ⟨hb, b, rfl, hrf⟩)⟩
  case inr =>
    have e4 := F2.out hb
    unfold refusal
    go_wp2
    exact ⟨rfl, K3.out.trans k4, Or.inr ⟨by rw [e4]; exact hb, b, rfl, by rw [e4]; exact hrf⟩⟩
  case inl =>
  have bx4 : w4.cell? ⟨w.heap.size, 0, none⟩ = some (.pointer (some ⟨rb, 0, none⟩)) := by
    rw [kept_cell k4 (by omega) (by omega)]
    exact bx3
  have hw4 : w3.heap.size ≤ w4.heap.size := k4.size
  have P4 := hid p4
  have K4 := hid (K3.out.trans k4)
  have Z4 := hid (Z3.out.kept k4 hr3)
  clear p4 k4 bx3
  go_wp2_with fail
  refine (HE.out _ rb s H3 _ z s3 HW.out P4.out Z4.out hr3).mono ?_
  rintro e w5 ⟨k5, (⟨v3, H5, m3, rfl, p5, z5, e5, r5, d5⟩ | ⟨hb, b, rfl, hrf⟩)⟩
  case inr =>
    unfold refusal
    go_wp2
    exact ⟨rfl, K4.out.trans k5, Or.inr ⟨hb, b, rfl, hrf⟩⟩
  case inl =>
  obtain ⟨t3, b3, ht3, rfl, hb3, hc3⟩ := r5.dat z5
  have hw5 : w4.heap.size ≤ w5.heap.size := k5.size
  have hn1 := need_good P2.out.neg
  have hn2 := need_good P4.out.neg
  have hkk := p5.klt
  obtain ⟨M, hM⟩ : ∃ M, M = max m1 (max m2 m3) := ⟨_, rfl⟩
  have RA : Hid (PRep M H5 (.iface t1 (.pointer (some ⟨b1, 0, none⟩))) x) := (PRep.ext e5 _ _ _ (PRep.ext E3.out _ _ _ R1.out)).le (by omega)
  have RB : Hid (PRep M H5 (.iface t2 (.pointer (some ⟨b2, 0, none⟩))) y) := (PRep.ext e5 _ _ _ R3.out).le (by omega)
  have RC : Hid (PRep M H5 (.iface t3 (.pointer (some ⟨b3, 0, none⟩))) z) := r5.le (by omega)
  have q1 : exDeep M x = exDeep m1 x := deep_le (PRep.shape _ _ _ R1.out) (by omega)
  have q2 : exDeep M y = exDeep m2 y := deep_le (PRep.shape _ _ _ R3.out) (by omega)
  have q3 : exDeep M z = exDeep m3 z := deep_le (PRep.shape _ _ _ r5) (by omega)
  have D5 := hid (show max (exDeep M x) (max (exDeep M y) (exDeep M z)) + 1 + st.k ≤ s3.k ∧ s3.k < T.length by
    have := D1.out
    have := D3.out
    have := deep_pos R1.out
    have := deep_pos R3.out
    have := deep_pos r5
    omega)
  have ZA := hid (z5.alloc (.cells #[(.iface t1 (.pointer (some ⟨b1, 0, none⟩))), (.iface t2 (.pointer (some ⟨b2, 0, none⟩))), (.iface t3 (.pointer (some ⟨b3, 0, none⟩)))] 101))
  have P5 := hid p5
  have K5 := hid (K4.out.trans k5)
  have E5 := hid (((E1.out.trans E3.out (Nat.le_refl _)).trans (e5.from (n := w.heap.size) (by omega)) (Nat.le_refl _)))
  clear p5 k5 z5 e5 r5 d5 hb3 hc3 bx4 hM q1 q2 q3
  go_wp2_with fail
  refine (above_p _ (some ⟨w5.heap.size, 0, none⟩) 3 [(.iface t1 (.pointer (some ⟨b1, 0, none⟩))), (.iface t2 (.pointer (some ⟨b2, 0, none⟩))), (.iface t3 (.pointer (some ⟨b3, 0, none⟩)))] [exDeep M x, exDeep M y, exDeep M z] rfl (by simp) row3 (all3 (p := fun u d => DAt _ u d) (RA.out.dat ZA.out) (RB.out.dat ZA.out) (RC.out.dat ZA.out)) (by have := D5.out; simp [maxl]; omega)).mono ?_
  rintro e w6 ⟨rfl, g6⟩
  have G6 := hid g6
  clear g6
  go_wp2
  go_ret
  obtain ⟨H7, z7, x7, r7⟩ := node_rep (w := w6) (H := H5) (ZA.out.grown G6.out) ⟨kIf, [], [x, y, z], p⟩ [(.iface t1 (.pointer (some ⟨b1, 0, none⟩))), (.iface t2 (.pointer (some ⟨b2, 0, none⟩))), (.iface t3 (.pointer (some ⟨b3, 0, none⟩)))] M (.cells #[.int .i64 ((exDeep (M + 1) ⟨kIf, [], [x, y, z], p⟩ : Nat) : Int), (.iface t1 (.pointer (some ⟨b1, 0, none⟩))), (.iface t2 (.pointer (some ⟨b2, 0, none⟩))), (.iface t3 (.pointer (some ⟨b3, 0, none⟩)))] 183) rfl
    (kids3 (p := fun u q => PRep M H5 u q) RA.out RB.out RC.out)
    (fun H' _ h2 => Or.inr (Or.inr (Or.inr (Or.inl ⟨rfl, _, _, _, rfl, rfl, h2⟩))))
  have hw6 : w5.heap.size ≤ w6.heap.size := by have := G6.out.size; simp at this; omega
  refine ⟨((K5.out.alloc _).trans (Kept.of0 rb G6.out)).alloc _, Or.inl ⟨_, H7, M + 1, rfl, ((P5.out.alloc _).grown G6.out).alloc _, z7, E5.out.trans x7 (by omega), r7, ?_⟩⟩
  have hd : exDeep (M + 1) ⟨kIf, [], [x, y, z], p⟩ = max (exDeep M x) (max (exDeep M y) (exDeep M z)) + 1 := by simp [exDeep, maxl]
  have := D5.out
  omega
end Go.Proofs.YtcdijppegfcoaabGreatDoor
