/-
  OUR OWN TEXT. The program's reader: brackets, atoms.
-/
import Derived.Test.YtcdijppegfcoaabGreatDoorPLet
namespace Go.Proofs.YtcdijppegfcoaabGreatDoor
open Go.RowKit

theorem isS_bad {T : List Tok} {st : St} {x : List UInt8} (h : 0 ≤ st.bad) : isS T st x = false := by
  simp only [isS, Bool.and_eq_false_iff, decide_eq_false_iff_not]
  exact Or.inl (by omega)

set_option maxRecDepth 100000 in
set_option maxHeartbeats 2000000 in
theorem bracketed_p (T : List Tok) (n : Nat) (hl : T.length ≤ 400) (hE : EXPP T n) (w : World) (rb : Nat) (s : ByteArray) (H : Nat → Option Obj) (st : St) (x : Ex) (s1 : St) (ex : Ex) (st' : St) (p : Nat)
    (hx : expS T n st = some (x, s1)) (hy : (if isS T s1 kComma = true then match expS T n s1.up with
        | none => none
        | some (y, s2) => some (⟨oPair, [], [x, y], p⟩, needS T s2 kShut)
      else some (x, needS T s1 kShut)) = some (ex, st')) (h : PSt exKw w rb s T st) (hz : Fz H w) (hr : H rb = none) :
    Calls Tryz.prog 179 #[rdV rb] w fun e w' => EOut w w' rb s T H st.k st' e ex := by
  have hlt := h.lt
  have HP := hid (h.alloc (.cells #[.pointer (some ⟨rb, 0, none⟩)] 153))
  have HZ := hid (hz.alloc (.cells #[.pointer (some ⟨rb, 0, none⟩)] 153))
  have HE := hid hE
  have HX := hid hx
  have HY := hid hy
  have K0 := hid ((Kept.refl rb w).alloc (.cells #[.pointer (some ⟨rb, 0, none⟩)] 153))
  clear h hz hE hx hy
  unfold rdV
  go_enter Tryz.func179, Tryz.ntmps179
  go_wp2_with fail
  refine (HE.out _ rb s H st x s1 HX.out HP.out HZ.out hr).mono ?_
  rintro e w1 ⟨k1, (⟨v1, H1, m1, rfl, p1, z1, e1, r1, d1⟩ | ⟨hb, b, rfl, hrf⟩)⟩
  case inr =>
    have e4 := HY.out
    rw [if_neg (by rw [isS_bad hb]; decide), need_bad hb] at e4
    cases e4
    unfold refusal
    go_wp2
    exact ⟨rfl, K0.out.trans k1, Or.inr ⟨hb, b, rfl, hrf⟩⟩
  case inl =>
  obtain ⟨t1, b1, ht1, rfl, hb1, hc1⟩ := r1.dat z1
  have bx1 : w1.cell? ⟨w.heap.size, 0, none⟩ = some (.pointer (some ⟨rb, 0, none⟩)) := by
    rw [kept_cell k1 (by simp) (by omega)]
    simp [go_sem]
  have hw1 : w.heap.size < w1.heap.size := by have := k1.size; simp at this; omega
  have hr1 : H1 rb = none := by rw [e1.2 rb (by simp; omega)]; exact hr
  have P1 := hid p1
  have K1 := hid (K0.out.trans k1)
  have Z1 := hid z1
  have E1 := hid (e1.from (n := w.heap.size) (by simp))
  have R1 := hid r1
  have D1 := hid d1
  clear p1 k1 z1 e1 r1 d1 hb1 hc1
  go_wp2_with fail
  refine (skips_p exKw exKw_ok _ rb s T s1 kComma P1.out (Or.inr (by decide))).mono ?_
  rintro e w2 ⟨rfl, p2, k2⟩
  have bx2 : w2.cell? ⟨w.heap.size, 0, none⟩ = some (.pointer (some ⟨rb, 0, none⟩)) := by
    rw [kept_cell k2 hw1 (by omega)]
    exact bx1
  have hw2 : w1.heap.size ≤ w2.heap.size := k2.size
  have P2 := hid p2
  have K2 := hid (K1.out.trans k2)
  have Z2 := hid (Z1.out.kept k2 hr1)
  clear p2 k2 bx1
  cases hi : isS T s1 kComma with
  | false =>
    have p2 := P2.out
    rw [take_no hi] at p2
    have P2' := hid p2
    have e4 := HY.out
    rw [if_neg (by rw [hi]; decide)] at e4
    cases e4
    clear hi p2
    go_wp2_with fail
    refine (must_p exKw exKw_ok _ rb s T s1 kShut P2'.out (Or.inr (by decide))).mono ?_
    rintro e w3 ⟨k3, (⟨rfl, p3⟩ | ⟨hb, b, rfl, hrf⟩)⟩
    case inr =>
      unfold refusal
      go_wp2
      exact ⟨rfl, K2.out.trans k3, Or.inr ⟨hb, b, rfl, hrf⟩⟩
    case inl =>
      have Q := hid (And.intro p3 k3)
      have hn := need_good p3.neg
      clear p3 k3
      go_wp2
      go_ret
      refine ⟨K2.out.trans Q.out.2, Or.inl ⟨_, H1, m1, rfl, Q.out.1, Z2.out.kept Q.out.2 hr1, E1.out, R1.out, ?_⟩⟩
      have := D1.out
      omega
  | true =>
    have p2 := P2.out
    rw [take_yes hi] at p2
    have P2' := hid p2
    have e4 := HY.out
    rw [if_pos hi] at e4
    cases hey : expS T n s1.up with
    | none => rw [hey] at e4; cases e4
    | some q =>
    obtain ⟨y, s2⟩ := q
    rw [hey] at e4
    cases e4
    have HEY := hid hey
    clear hi p2 hey
    go_wp2_with fail
    refine (HE.out _ rb s H1 _ y s2 HEY.out P2'.out Z2.out hr1).mono ?_
    rintro e w3 ⟨k3, (⟨v2, H3, m2, rfl, p3, z3, e3, r3, d3⟩ | ⟨hb, b, rfl, hrf⟩)⟩
    case inr =>
      unfold refusal
      go_wp2
      exact ⟨rfl, K2.out.trans k3, Or.inr ⟨by rw [need_bad hb]; exact hb, b, rfl, by rw [need_bad hb]; exact hrf⟩⟩
    case inl =>
    obtain ⟨t2, b2, ht2, rfl, hb2, hc2⟩ := r3.dat z3
    have bx3 : w3.cell? ⟨w.heap.size, 0, none⟩ = some (.pointer (some ⟨rb, 0, none⟩)) := by
      rw [kept_cell k3 (by omega) (by omega)]
      exact bx2
    have hw3 : w2.heap.size ≤ w3.heap.size := k3.size
    have hr3 : H3 rb = none := by rw [e3.2 rb (by omega)]; exact hr1
    have P3 := hid p3
    have K3 := hid (K2.out.trans k3)
    have Z3 := hid z3
    have E3 := hid (e3.from (n := w.heap.size) (by omega))
    have R3 := hid r3
    have D3 := hid d3
    clear p3 k3 z3 e3 r3 d3 hb2 hc2 bx2
    go_wp2_with fail
    refine (must_p exKw exKw_ok _ rb s T s2 kShut P3.out (Or.inr (by decide))).mono ?_
    rintro e w4 ⟨k4, (⟨rfl, p4⟩ | ⟨hb, b, rfl, hrf⟩)⟩
    case inr =>
      unfold refusal
      go_wp2
      exact ⟨rfl, K3.out.trans k4, Or.inr ⟨hb, b, rfl, hrf⟩⟩
    case inl =>
    have hw4 : w3.heap.size ≤ w4.heap.size := k4.size
    have hn := need_good p4.neg
    have hkk := p4.klt
    obtain ⟨M, hM⟩ : ∃ M, M = max m1 m2 := ⟨_, rfl⟩
    have RA : Hid (PRep M H3 (.iface t1 (.pointer (some ⟨b1, 0, none⟩))) x) := (PRep.ext E3.out _ _ _ R1.out).le (by omega)
    have RB : Hid (PRep M H3 (.iface t2 (.pointer (some ⟨b2, 0, none⟩))) y) := R3.out.le (by omega)
    have q1 : exDeep M x = exDeep m1 x := deep_le (PRep.shape _ _ _ R1.out) (by omega)
    have q2 : exDeep M y = exDeep m2 y := deep_le (PRep.shape _ _ _ R3.out) (by omega)
    have D5 := hid (show max (exDeep M x) (exDeep M y) + 1 + st.k ≤ (needS T s2 kShut).k ∧ (needS T s2 kShut).k < T.length by
      have := D1.out
      have := D3.out
      have := deep_pos R1.out
      have := deep_pos R3.out
      have e5 : s1.up.k = s1.k + 1 := rfl
      omega)
    have ZA := hid ((Z3.out.kept k4 hr3).alloc (.cells #[(.iface t1 (.pointer (some ⟨b1, 0, none⟩))), (.iface t2 (.pointer (some ⟨b2, 0, none⟩)))] 101))
    have P5 := hid p4
    have K5 := hid (K3.out.trans k4)
    have E5 := hid (E1.out.trans E3.out (Nat.le_refl _))
    clear p4 k4 bx3 hM q1 q2
    have AB : Hid (Calls Tryz.prog 143 #[.slice (some ⟨w4.heap.size, 0, none⟩) 2 2] (w4.alloc (.cells #[(.iface t1 (.pointer (some ⟨b1, 0, none⟩))), (.iface t2 (.pointer (some ⟨b2, 0, none⟩)))] 101)) fun e w' => e = .returned (.agg #[.int .i64 ((maxl [exDeep M x, exDeep M y] + 1 : Nat) : Int)]) ∧ (w4.alloc (.cells #[(.iface t1 (.pointer (some ⟨b1, 0, none⟩))), (.iface t2 (.pointer (some ⟨b2, 0, none⟩)))] 101)).grownBy w' none) :=
      above_p _ (some ⟨w4.heap.size, 0, none⟩) 2 [(.iface t1 (.pointer (some ⟨b1, 0, none⟩))), (.iface t2 (.pointer (some ⟨b2, 0, none⟩)))] [exDeep M x, exDeep M y] rfl (by simp) (row2 (w := w4) (t := 101)) (all2 (p := fun u d => DAt _ u d) (RA.out.dat ZA.out) (RB.out.dat ZA.out)) (by have := D5.out; simp [maxl]; omega)
    go_wp2_with fail
    refine AB.out.mono ?_
    rintro e w6 ⟨rfl, g6⟩
    have G6 := hid g6
    clear g6
    go_wp2
    go_ret
    obtain ⟨H7, z7, x7, r7⟩ := node_rep (w := w6) (H := H3) (ZA.out.grown G6.out) ⟨oPair, [], [x, y], p⟩ [(.iface t1 (.pointer (some ⟨b1, 0, none⟩))), (.iface t2 (.pointer (some ⟨b2, 0, none⟩)))] M (.cells #[.int .i64 ((exDeep (M + 1) ⟨oPair, [], [x, y], p⟩ : Nat) : Int), (.iface t1 (.pointer (some ⟨b1, 0, none⟩))), (.iface t2 (.pointer (some ⟨b2, 0, none⟩)))] 200) rfl
      (kids2 (p := fun u q => PRep M H3 u q) RA.out RB.out)
      (fun H' _ h2 => Or.inr (Or.inr (Or.inr (Or.inr (Or.inr (Or.inr (Or.inr ⟨rfl, _, _, rfl, rfl, h2⟩)))))))
    have hw6 : w4.heap.size ≤ w6.heap.size := by have := G6.out.size; simp at this; omega
    refine ⟨((K5.out.alloc _).trans (Kept.of0 rb G6.out)).alloc _, Or.inl ⟨_, H7, M + 1, rfl, ((P5.out.alloc _).grown G6.out).alloc _, z7, E5.out.trans x7 (by omega), r7, ?_⟩⟩
    have hd : exDeep (M + 1) ⟨oPair, [], [x, y], p⟩ = max (exDeep M x) (exDeep M y) + 1 := by simp [exDeep, maxl]
    have := D5.out
    omega

theorem Rdr.grown {w w' : World} {rb : Nat} {s : ByteArray} {J : Nat} (h : Rdr w rb s J) (hg : w.grownBy w' none) : Rdr w' rb s J := by
  unfold Rdr
  rw [hg.block rb (lt_of_block h) (by simp)]
  exact h
/-- A name, or a number, of the program's. -/
theorem leaf_out {w w9 : World} {rb : Nat} {s : ByteArray} {T : List Tok} {H : Nat → Option Obj} {st : St} (k : Kept rb w w9) (q : PSt exKw w9 rb s T st.up) (z : Fz H w9) (op txt : List UInt8) (p : Nat) (obj : Obj)
    (hop : (op = kName ∧ obj = .cells #[.int .i64 1, .string (B txt), .int .i64 (p : Int)] 163) ∨ (op = kNum ∧ obj = .cells #[.int .i64 1, .string (B txt)] 177)) :
    EOut w (w9.alloc obj) rb s T H st.k st.up (.returned (.iface (pT op) (.pointer (some ⟨w9.heap.size, 0, none⟩)))) ⟨op, [txt], [], p⟩ := by
  obtain ⟨H7, z7, x7, r7⟩ := node_rep z ⟨op, [txt], [], p⟩ [] 0 obj rfl (fun i y u h1 => by simp at h1) (fun H' _ h2 => by
    rcases hop with ⟨rfl, rfl⟩ | ⟨rfl, rfl⟩
    · exact Or.inl ⟨rfl, txt, rfl, rfl, rfl, h2⟩
    · exact Or.inr (Or.inl ⟨rfl, txt, rfl, rfl, rfl, h2⟩))
  refine ⟨k.alloc _, Or.inl ⟨_, H7, 1, rfl, q.alloc _, z7, (x7.from k.size), r7, ?_⟩⟩
  show exDeep 1 _ + st.k ≤ st.k + 1
  simp [exDeep, maxl]
  omega
end Go.Proofs.YtcdijppegfcoaabGreatDoor
