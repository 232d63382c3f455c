import Derived.Test.YtcdijppegfcoaaaGreatDoorZT04
/-
  OUR OWN TEXT. The program's reader: a name and what it is; let.
-/
namespace Go.Proofs.YtcdijppegfcoaaaGreatDoor
open Go.RowKit
theorem two_c {w : World} {b : Nat} {p q : Value} {t : TypeId} (h : w.heap[b]? = some (.cells #[p, q] t (0, 0))) : w.cell? ⟨b, 0, none⟩ = some p ∧ w.cell? ⟨b, 1, none⟩ = some q := by
  simp [World.cell?, h]
/-- What bind leaves. -/
def BOut (w w' : World) (rb : Nat) (s : ByteArray) (T : List Tok) (H : Nat → Option Obj) (st st' : St) (e : Ending) (ex : Ex) : Prop :=
  Kept rb w w' ∧ ((∃ t b H' m, IsTy t ∧ e = .returned (.agg #[.string (B (tk T st.k).s), (.iface t (.pointer (some ⟨b, 0, none⟩)))]) ∧ PSt exKw w' rb s T st' ∧ Fz H' w' ∧ Ext w.heap.size H H' ∧ PRep m H' (.iface t (.pointer (some ⟨b, 0, none⟩))) ex ∧ exDeep m ex + st.k + 2 ≤ st'.k) ∨ (0 ≤ st'.bad ∧ Refused w' e st'.bad))

theorem Kept.setNew {rb : Nat} {w w' : World} (h : Kept rb w w') {b : Nat} (hb : w.heap.size ≤ b) (i : Nat) (v : Value) : Kept rb w (w'.setCell ⟨b, i, none⟩ v) :=
  ⟨h.os, h.tape, h.output, by have := h.size; simp [World.setCell] at this ⊢; omega, fun k hk hn => by rw [Below.heap_setCell _ _ _ _ (by show k ≠ b; omega)]; exact h.block k hk hn⟩
theorem PSt.set {kw : List (List UInt8)} {w : World} {rb : Nat} {s : ByteArray} {T : List Tok} {st : St} (h : PSt kw w rb s T st) {b : Nat} (hb : b ≠ rb) (i : Nat) (v : Value) : PSt kw (w.setCell ⟨b, i, none⟩ v) rb s T st := by
  obtain ⟨h1, ⟨J, h2, h3⟩, h4⟩ := h
  exact ⟨h1, ⟨J, h2, by unfold Rdr; rw [Below.heap_setCell _ _ _ _ (by show rb ≠ b; omega)]; exact h3⟩, h4⟩

set_option maxRecDepth 100000 in
set_option maxHeartbeats 1000000 in
theorem bind_p (T : List Tok) (n : Nat) (hE : EXPP T n) (w : World) (rb : Nat) (s : ByteArray) (H : Nat → Option Obj) (st : St) (y : Ex) (st4 : St)
    (hs : expS T n (needS T (needS T st kName) kEq) = some (y, st4)) (h : PSt exKw w rb s T st) (hz : Fz H w) (hr : H rb = none) :
    Calls Tryz.prog 179 #[rdV rb] w fun e w' => BOut w w' rb s T H st st4 e y := by
  have hlt := h.lt
  have hn1 : H (w.heap.size + 1) = none := hz.none (by omega)
  have HP := hid ((h.alloc (.cells #[.pointer (some ⟨rb, 0, none⟩)] 182)).alloc (.cells #[.string (B []), .nilIface] 203))
  have HZ := hid ((hz.alloc (.cells #[.pointer (some ⟨rb, 0, none⟩)] 182)).alloc (.cells #[.string (B []), .nilIface] 203))
  have HE := hid hE
  have HS := hid hs
  have K0 := hid (((Kept.refl rb w).alloc (.cells #[.pointer (some ⟨rb, 0, none⟩)] 182)).alloc (.cells #[.string (B []), .nilIface] 203))
  clear h hz hE hs
  unfold rdV
  go_enter Tryz.func179, Tryz.ntmps179
  go_wp2_with fail
  refine (name_p _ rb s T st HP.out).mono ?_
  rintro e w1 ⟨k1, (⟨rfl, p1⟩ | ⟨hb, b, rfl, hrf⟩)⟩
  case inr =>
    have e3 : needS T (needS T st kName) kEq = needS T st kName := need_bad hb
    have e4 := exp_bad_st (by rw [e3]; exact hb) HS.out
    rw [e3] at e4
    unfold refusal
    go_wp2
    exact ⟨rfl, K0.out.trans k1, Or.inr ⟨by rw [e4]; exact hb, b, rfl, by rw [e4]; exact hrf⟩⟩
  case inl =>
  have bx1 : w1.cell? ⟨w.heap.size, 0, none⟩ = some (.pointer (some ⟨rb, 0, none⟩)) := by
    rw [kept_cell k1 (by simp; omega) (by omega)]
    exact cell_past (by simp [go_sem]) _
  have rc1 : w1.heap[w.heap.size + 1]? = some (.cells #[.string (B []), .nilIface] 203 (0, 0)) := by
    rw [k1.block _ (by simp) (by simp; omega)]
    exact heap_alloc_at _ _ _ (by simp)
  have hw1 : w.heap.size + 1 < w1.heap.size := lt_of_block rc1
  have P1 := hid p1
  have K1 := hid (K0.out.trans k1)
  have Z1 := hid (HZ.out.kept k1 hr)
  clear p1 k1
  go_wp2_with fail
  refine (must_p exKw exKw_ok _ rb s T (needS T st kName) kEq P1.out (Or.inr (by decide))).mono ?_
  rintro e w2 ⟨k2, (⟨rfl, p2⟩ | ⟨hb, b, rfl, hrf⟩)⟩
  case inr =>
    have e4 := exp_bad_st hb HS.out
    unfold refusal
    go_wp2
    exact ⟨rfl, K1.out.trans k2, Or.inr ⟨by rw [e4]; exact hb, b, rfl, by rw [e4]; exact hrf⟩⟩
  case inl =>
  have bx2 : w2.cell? ⟨w.heap.size, 0, none⟩ = some (.pointer (some ⟨rb, 0, none⟩)) := by
    rw [kept_cell k2 (by omega) (by omega)]
    exact bx1
  have rc2 : w2.heap[w.heap.size + 1]? = some (.cells #[.string (B []), .nilIface] 203 (0, 0)) := by
    rw [k2.block _ (by omega) (by simp; omega)]
    exact rc1
  have hw2 : w1.heap.size ≤ w2.heap.size := k2.size
  have P2 := hid p2
  have K2 := hid (K1.out.trans k2)
  have Z2 := hid (Z1.out.kept k2 hr)
  clear p2 k2 bx1 rc1
  go_wp2_with fail
  refine (HE.out _ rb s H _ y st4 HS.out P2.out Z2.out hr).mono ?_
  rintro e w3 ⟨k3, (⟨v1, H3, m, rfl, p3, z3, e3, r3, d3⟩ | ⟨hb, b, rfl, hrf⟩)⟩
  case inr =>
    unfold refusal
    go_wp2
    exact ⟨rfl, K2.out.trans k3, Or.inr ⟨hb, b, rfl, hrf⟩⟩
  case inl =>
  obtain ⟨t1, b1, ht1, rfl, hb1, hc1⟩ := r3.dat z3
  have rc3 : w3.heap[w.heap.size + 1]? = some (.cells #[.string (B []), .nilIface] 203 (0, 0)) := by
    rw [k3.block _ (by omega) (by simp; omega)]
    exact rc2
  have c0 : w3.cell? ⟨w.heap.size + 1, 0, none⟩ = some (.string (B [])) := by simp [World.cell?, rc3]
  have c1 : w3.cell? ⟨w.heap.size + 1, 1, none⟩ = some .nilIface := by simp [World.cell?, rc3]
  have f0 : w3.frozen? ⟨w.heap.size + 1, 0, none⟩ = false := by simp [World.frozen?, rc3]
  have f1 : w3.frozen? ⟨w.heap.size + 1, 1, none⟩ = false := by simp [World.frozen?, rc3]
  have hH : H3 (w.heap.size + 1) = none := by rw [e3.2 _ (by omega)]; exact hn1
  have hq1 := need_good P1.out.neg
  have hq2 := need_good P2.out.neg
  have Q := hid (And.intro p3 (And.intro (K2.out.trans k3) (And.intro z3 (And.intro (e3.from (n := w.heap.size) (by omega)) (And.intro r3 d3)))))
  clear p3 k3 z3 e3 r3 d3 bx2 rc2 rc3 hb1 hc1
  go_wp2
  refine bodyPost_ret (v := .agg #[.string (B (tk T st.k).s), (.iface t1 (.pointer (some ⟨b1, 0, none⟩)))]) (by simp [results, Tryz.results179, go_sem, c0, c1]) rfl ?_
  obtain ⟨p3, k3, z3, e3, r3, d3⟩ := Q.out
  refine ⟨(k3.setNew (by omega) _ _).setNew (by omega) _ _, Or.inl ⟨t1, b1, H3, m, ht1, rfl, (p3.set (by omega) _ _).set (by omega) _ _, (z3.set hH _ _).set hH _ _, e3, r3, by omega⟩⟩

set_option maxRecDepth 100000 in
set_option maxHeartbeats 4000000 in
theorem let_p (T : List Tok) (n : Nat) (hl : T.length ≤ 400) (hE : EXPP T n) (w : World) (rb : Nat) (s : ByteArray) (H : Nat → Option Obj) (st : St) (x y : Ex) (s1 s3 : St) (p : Nat)
    (hx : expS T n (needS T (needS T st kName) kEq) = some (x, s1)) (hw : expS T n (needS T s1 kIn) = some (y, s3)) (h : PSt exKw w rb s T st) (hz : Fz H w) (hr : H rb = none) :
    Calls Tryz.prog 136 #[rdV rb] w fun e w' => EOut w w' rb s T H st.k s3 e ⟨kLet, [(tk T st.k).s], [x, y], p⟩ := by
  have hlt := h.lt
  have HP := hid (h.alloc (.cells #[.pointer (some ⟨rb, 0, none⟩)] 182))
  have HZ := hid (hz.alloc (.cells #[.pointer (some ⟨rb, 0, none⟩)] 182))
  have HE := hid hE
  have HX := hid hx
  have HW := hid hw
  have K0 := hid ((Kept.refl rb w).alloc (.cells #[.pointer (some ⟨rb, 0, none⟩)] 182))
  have F2 := hid (show 0 ≤ (needS T s1 kIn).bad → s3 = needS T s1 kIn from fun hb => exp_bad_st hb hw)
  clear h hz hE hx hw
  unfold rdV
  go_enter Tryz.func136, Tryz.ntmps136
  go_wp2_with fail
  refine (bind_p T n HE.out _ rb s H st x s1 HX.out HP.out HZ.out hr).mono ?_
  rintro e w1 ⟨k1, (⟨t1, b1, H1, m1, ht1, rfl, p1, z1, e1, r1, d1⟩ | ⟨hb, b, rfl, hrf⟩)⟩
  case inr =>
    have e3 : needS T s1 kIn = s1 := need_bad hb
    have e4 := F2.out (by rw [e3]; exact hb)
    rw [e3] at e4
    unfold refusal
    go_wp2
    exact ⟨rfl, K0.out.trans k1, Or.inr ⟨by rw [e4]; exact hb, b, rfl, by rw [e4]; exact hrf⟩⟩
  case inl =>
  have bx1 : (w1.alloc (.cells #[.string (B (tk T st.k).s), (.iface t1 (.pointer (some ⟨b1, 0, none⟩)))] 203)).cell? ⟨w.heap.size, 0, none⟩ = some (.pointer (some ⟨rb, 0, none⟩)) := by
    refine cell_past ?_ _
    rw [kept_cell k1 (by simp) (by omega)]
    simp [go_sem]
  have hw1 : w.heap.size < w1.heap.size := by have := k1.size; simp at this; omega
  have hr1 : H1 rb = none := by rw [e1.2 rb (by simp; omega)]; exact hr
  have P1 := hid (p1.alloc (.cells #[.string (B (tk T st.k).s), (.iface t1 (.pointer (some ⟨b1, 0, none⟩)))] 203))
  have K1 := hid ((K0.out.trans k1).alloc (.cells #[.string (B (tk T st.k).s), (.iface t1 (.pointer (some ⟨b1, 0, none⟩)))] 203))
  have Z1 := hid (z1.alloc (.cells #[.string (B (tk T st.k).s), (.iface t1 (.pointer (some ⟨b1, 0, none⟩)))] 203))
  have E1 := hid (e1.from (n := w.heap.size) (by simp))
  have R1 := hid r1
  have D1 := hid d1
  clear p1 k1 z1 e1 r1 d1
  go_wp2_with fail
  refine (must_p exKw exKw_ok _ rb s T s1 kIn P1.out (Or.inl (by decide))).mono ?_
  rintro e w2 ⟨k2, (⟨rfl, p2⟩ | ⟨hb, b, rfl, hrf⟩)⟩
  case inr =>
    have e4 := F2.out hb
    unfold refusal
    go_wp2
    exact ⟨rfl, K1.out.trans k2, Or.inr ⟨by rw [e4]; exact hb, b, rfl, by rw [e4]; exact hrf⟩⟩
  case inl =>
  have bx2 : w2.cell? ⟨w.heap.size, 0, none⟩ = some (.pointer (some ⟨rb, 0, none⟩)) := by
    rw [kept_cell k2 (by simp; omega) (by omega)]
    exact bx1
  have rc2 : w2.heap[w1.heap.size]? = some (.cells #[.string (B (tk T st.k).s), (.iface t1 (.pointer (some ⟨b1, 0, none⟩)))] 203 (0, 0)) := by
    rw [k2.block _ (by simp) (by simp; omega)]
    exact heap_alloc_new _ _
  have hw2 : w1.heap.size < w2.heap.size := lt_of_block rc2
  have P2 := hid p2
  have K2 := hid (K1.out.trans k2)
  have Z2 := hid (Z1.out.kept k2 hr1)
  clear p2 k2 bx1
  go_wp2_with fail
  refine (HE.out _ rb s H1 _ y s3 HW.out P2.out Z2.out hr1).mono ?_
  rintro e w3 ⟨k3, (⟨v2, H3, m2, rfl, p3, z3, e3, r3, d3⟩ | ⟨hb, b, rfl, hrf⟩)⟩
  case inr =>
    unfold refusal
    go_wp2
    exact ⟨rfl, K2.out.trans k3, Or.inr ⟨hb, b, rfl, hrf⟩⟩
  case inl =>
  obtain ⟨t2, b2, ht2, rfl, hb2, hc2⟩ := r3.dat z3
  have rc3 : w3.heap[w1.heap.size]? = some (.cells #[.string (B (tk T st.k).s), (.iface t1 (.pointer (some ⟨b1, 0, none⟩)))] 203 (0, 0)) := by
    rw [k3.block _ (by omega) (by simp; omega)]
    exact rc2
  have hw3 : w2.heap.size ≤ w3.heap.size := k3.size
  have hq1 := need_good P2.out.neg
  have hkk := p3.klt
  obtain ⟨M, hM⟩ : ∃ M, M = max m1 m2 := ⟨_, rfl⟩
  have RA : Hid (PRep M H3 (.iface t1 (.pointer (some ⟨b1, 0, none⟩))) x) := (PRep.ext e3 _ _ _ R1.out).le (by omega)
  have RB : Hid (PRep M H3 (.iface t2 (.pointer (some ⟨b2, 0, none⟩))) y) := r3.le (by omega)
  have q1 : exDeep M x = exDeep m1 x := deep_le (PRep.shape _ _ _ R1.out) (by omega)
  have q2 : exDeep M y = exDeep m2 y := deep_le (PRep.shape _ _ _ r3) (by omega)
  have D5 := hid (show max (exDeep M x) (exDeep M y) + 1 + st.k ≤ s3.k ∧ s3.k < T.length by
    have := D1.out
    have := deep_pos R1.out
    have := deep_pos r3
    omega)
  have ZA := hid (z3.alloc (.cells #[(.iface t1 (.pointer (some ⟨b1, 0, none⟩))), (.iface t2 (.pointer (some ⟨b2, 0, none⟩)))] 130))
  have Z3 := hid z3
  have P5 := hid p3
  have K5 := hid (K2.out.trans k3)
  have E5 := hid ((E1.out.trans (e3.from (n := w.heap.size) (by omega)) (Nat.le_refl _)))
  have c0 : w3.cell? ⟨w1.heap.size, 0, none⟩ = some (.string (B (tk T st.k).s)) := by simp [World.cell?, rc3]
  have c1 : w3.cell? ⟨w1.heap.size, 1, none⟩ = some (.iface t1 (.pointer (some ⟨b1, 0, none⟩))) := by simp [World.cell?, rc3]
  have hl1 := lt_of_block rc3
  have a0 := fun x => cell_past c0 x
  have a1 := fun x => cell_past c1 x
  have RC3 := hid rc3
  have AB : Hid (Calls Tryz.prog 178 #[.slice (some ⟨w3.heap.size, 0, none⟩) 2 2] (w3.alloc (.cells #[(.iface t1 (.pointer (some ⟨b1, 0, none⟩))), (.iface t2 (.pointer (some ⟨b2, 0, none⟩)))] 130)).drew fun e w' => e = .returned (.agg #[.int .i64 ((maxl [exDeep M x, exDeep M y] + 1 : Nat) : Int)]) ∧ (w3.alloc (.cells #[(.iface t1 (.pointer (some ⟨b1, 0, none⟩))), (.iface t2 (.pointer (some ⟨b2, 0, none⟩)))] 130)).drew.grownBy w' none) :=
    above_p _ (some ⟨w3.heap.size, 0, none⟩) 2 [(.iface t1 (.pointer (some ⟨b1, 0, none⟩))), (.iface t2 (.pointer (some ⟨b2, 0, none⟩)))] [exDeep M x, exDeep M y] rfl (by simp) (row2 (w := w3) (t := 130)) (all2 (p := fun u d => DAt _ u d) (RA.out.dat ZA.out.drew) (RB.out.dat ZA.out.drew)) (by have := D5.out; simp [maxl]; omega)
  clear p3 k3 z3 e3 r3 d3 hb2 hc2 bx2 rc2 hM q1 q2 rc3
  go_wp2_with fail
  go_region_with (go_at_call 178; refine AB.out.mono ?_; rintro e w6 ⟨rfl, g6⟩; have cc := two_c ((g6.block w1.heap.size (by simp; omega) (by simp)).trans ((Below.heap_alloc _ _ _ hl1).trans RC3.out)); have G6 := hid g6; clear g6; obtain ⟨cc0, cc1⟩ := cc)
  all_goals
    go_wp2
    go_ret
    obtain ⟨H7, z7, x7, r7⟩ := node_rep (w := w6) (H := H3) (ZA.out.drew.grown G6.out) ⟨kLet, [(tk T st.k).s], [x, y], p⟩ [(.iface t1 (.pointer (some ⟨b1, 0, none⟩))), (.iface t2 (.pointer (some ⟨b2, 0, none⟩)))] M (.cells #[.int .i64 ((exDeep (M + 1) ⟨kLet, [(tk T st.k).s], [x, y], p⟩ : Nat) : Int), .string (B (tk T st.k).s), (.iface t1 (.pointer (some ⟨b1, 0, none⟩))), (.iface t2 (.pointer (some ⟨b2, 0, none⟩)))] 205) rfl
      (kids2 (p := fun u q => PRep M H3 u q) RA.out RB.out)
      (fun H' _ h2 => Or.inr (Or.inr (Or.inr (Or.inr (Or.inl ⟨rfl, _, _, _, rfl, rfl, rfl, h2⟩)))))
    have hw6 : w3.heap.size ≤ w6.heap.size := by have := G6.out.size; simp at this; omega
    refine ⟨((K5.out.alloc _).drew.trans (Kept.of0 rb G6.out)).alloc _, Or.inl ⟨_, H7, M + 1, rfl, ((P5.out.alloc _).drew.grown G6.out).alloc _, z7, E5.out.trans x7 (by omega), r7, ?_⟩⟩
    have hd : exDeep (M + 1) ⟨kLet, [(tk T st.k).s], [x, y], p⟩ = max (exDeep M x) (exDeep M y) + 1 := by simp [exDeep, maxl]
    have := D5.out
    omega
end Go.Proofs.YtcdijppegfcoaaaGreatDoor
