import Derived.Test.YtcdijppegfcoaabGreatDoorNB
import Derived.Test.YtcdijppegfcoaabGreatDoorRefRd
import Derived.Defers
import Derived.Recover
import Derived.Test.YtcdijppegfcoaabGreatDoorNA
import Derived.Test.YtcdijppegfcoaabGreatDoorCom
import Derived.Test.YtcdijppegfcoaabGreatDoorNC
import Derived.Maps.OwnSet
import Derived.Deep.QuietTactic
import Derived.BigQuiet
import Derived.Deep.RegionLaw
import Derived.Outline
/-
  OUR OWN TEXT. The program's reader of types: brackets; whole.
-/
namespace Go.Proofs.YtcdijppegfcoaabGreatDoor
open Go.RowKit

set_option maxRecDepth 100000 in
set_option maxHeartbeats 2000000 in
theorem bracketed_q (T : List Tok) (n : Nat) (hE : WHQ T n) (w : World) (rb : Nat) (s : ByteArray) (H : Nat → Option Obj) (ns : List (List UInt8)) (st : St) (x : Ty) (n1 : List (List UInt8)) (s1 : St) (t : Ty) (ns' : List (List UInt8)) (st' : St)
    (hx : arrS T n ns st = some (x, n1, s1)) (hy : (if isS T s1 kComma = true then match arrS T n n1 s1.up with
        | none => none
        | some (y, n2, s2) => some (⟨oPair, 0, [x, y]⟩, n2, needS T s2 kShut)
      else some (x, n1, needS T s1 kShut)) = some (t, ns', st')) (h : PSt tyKw w rb s T st) (hz : Fz H w) (hr : H rb = none) :
    Calls Tryz.prog 127 #[rdV rb] w fun e w' => TOut w w' rb s T H ns' st' e t := by
  have hlt := h.lt
  have HP := hid (h.alloc (.cells #[.pointer (some ⟨rb, 0, none⟩)] 119))
  have HZ := hid (hz.alloc (.cells #[.pointer (some ⟨rb, 0, none⟩)] 119))
  have HE := hid hE
  have HX := hid hx
  have HY := hid hy
  have K0 := hid ((Kept.refl rb w).alloc (.cells #[.pointer (some ⟨rb, 0, none⟩)] 119))
  clear h hz hE hx hy
  unfold rdV
  go_enter Tryz.func127, Tryz.ntmps127
  go_wp2_with fail
  refine (HE.out _ rb s H ns st x n1 s1 HX.out HP.out HZ.out hr).mono ?_
  rintro e w1 ⟨k1, (⟨v1, H1, m1, rfl, p1, z1, e1, r1⟩ | ⟨hb, b, rfl, hrf⟩)⟩
  case inr =>
    have e4 := HY.out
    rw [if_neg (by rw [isS_bad hb]; decide), need_bad hb] at e4
    cases e4
    unfold refusal
    go_wp2
    exact ⟨rfl, K0.out.trans k1, Or.inr ⟨hb, b, rfl, hrf⟩⟩
  case inl =>
  obtain ⟨t1, b1, ht1, rfl, hb1⟩ := r1.val z1
  have bx1 : w1.cell? ⟨w.heap.size, 0, none⟩ = some (.pointer (some ⟨rb, 0, none⟩)) := by
    rw [kept_cell k1 (by simp) (by omega)]
    simp [go_sem]
  have hw1 : w.heap.size < w1.heap.size := by have := k1.size; simp at this; omega
  have hr1 : H1 rb = none := by rw [e1.2 rb (by simp; omega)]; exact hr
  have P1 := hid p1
  have K1 := hid (K0.out.trans k1)
  have Z1 := hid z1
  have E1 := hid (e1.from (n := w.heap.size) (by simp))
  have R1 := hid r1
  clear p1 k1 z1 e1 r1 hb1 ht1
  go_wp2_with fail
  refine (skips_p tyKw tyKw_ok _ rb s T s1 kComma P1.out (Or.inr (by decide))).mono ?_
  rintro e w2 ⟨rfl, p2, k2⟩
  have bx2 : w2.cell? ⟨w.heap.size, 0, none⟩ = some (.pointer (some ⟨rb, 0, none⟩)) := by
    rw [kept_cell k2 hw1 (by omega)]
    exact bx1
  have hw2 : w1.heap.size ≤ w2.heap.size := k2.size
  have P2 := hid p2
  have K2 := hid (K1.out.trans k2)
  have Z2 := hid (Z1.out.kept k2 hr1)
  clear p2 k2 bx1
  cases hi : isS T s1 kComma with
  | false =>
    have p2 := P2.out
    rw [take_no hi] at p2
    have P2' := hid p2
    have e4 := HY.out
    rw [if_neg (by rw [hi]; decide)] at e4
    cases e4
    clear hi p2
    go_wp2_with fail
    refine (must_p tyKw tyKw_ok _ rb s T s1 kShut P2'.out (Or.inr (by decide))).mono ?_
    rintro e w3 ⟨k3, (⟨rfl, p3⟩ | ⟨hb, b, rfl, hrf⟩)⟩
    case inr =>
      unfold refusal
      go_wp2
      exact ⟨rfl, K2.out.trans k3, Or.inr ⟨hb, b, rfl, hrf⟩⟩
    case inl =>
      have Q := hid (And.intro p3 k3)
      clear p3 k3
      go_wp2
      go_ret
      exact ⟨K2.out.trans Q.out.2, Or.inl ⟨_, H1, m1, rfl, Q.out.1, Z2.out.kept Q.out.2 hr1, E1.out, R1.out⟩⟩
  | true =>
    have p2 := P2.out
    rw [take_yes hi] at p2
    have P2' := hid p2
    have e4 := HY.out
    rw [if_pos hi] at e4
    cases hey : arrS T n n1 s1.up with
    | none => rw [hey] at e4; cases e4
    | some q =>
    obtain ⟨y, n2, s2⟩ := q
    rw [hey] at e4
    cases e4
    have HEY := hid hey
    clear hi p2 hey
    go_wp2_with fail
    refine (HE.out _ rb s H1 n1 _ y _ s2 HEY.out P2'.out Z2.out hr1).mono ?_
    rintro e w3 ⟨k3, (⟨v2, H3, m2, rfl, p3, z3, e3, r3⟩ | ⟨hb, b, rfl, hrf⟩)⟩
    case inr =>
      unfold refusal
      go_wp2
      exact ⟨rfl, K2.out.trans k3, Or.inr ⟨by rw [need_bad hb]; exact hb, b, rfl, by rw [need_bad hb]; exact hrf⟩⟩
    case inl =>
    obtain ⟨t2, b2, ht2, rfl, hb2⟩ := r3.val z3
    have bx3 : w3.cell? ⟨w.heap.size, 0, none⟩ = some (.pointer (some ⟨rb, 0, none⟩)) := by
      rw [kept_cell k3 (by omega) (by omega)]
      exact bx2
    have hw3 : w2.heap.size ≤ w3.heap.size := k3.size
    have hr3 : H3 rb = none := by rw [e3.2 rb (by omega)]; exact hr1
    have P3 := hid p3
    have K3 := hid (K2.out.trans k3)
    have Z3 := hid z3
    have E3 := hid (e3.from (n := w.heap.size) (by omega))
    have R3 := hid r3
    clear p3 k3 z3 e3 r3 hb2 ht2 bx2
    go_wp2_with fail
    refine (must_p tyKw tyKw_ok _ rb s T s2 kShut P3.out (Or.inr (by decide))).mono ?_
    rintro e w4 ⟨k4, (⟨rfl, p4⟩ | ⟨hb, b, rfl, hrf⟩)⟩
    case inr =>
      unfold refusal
      go_wp2
      exact ⟨rfl, K3.out.trans k4, Or.inr ⟨hb, b, rfl, hrf⟩⟩
    case inl =>
    have hw4 : w3.heap.size ≤ w4.heap.size := k4.size
    have Z4 := hid (Z3.out.kept k4 hr3)
    have P4 := hid p4
    have K4 := hid (K3.out.trans k4)
    clear p4 k4 bx3
    go_wp2
    go_ret
    obtain ⟨H7, z7, x7, h7⟩ := q_new Z4.out #[(.iface t1 (.pointer (some ⟨b1, 0, none⟩))), (.iface t2 (.pointer (some ⟨b2, 0, none⟩)))] 319
    have pre := arr_pre _ _ _ _ _ _ HEY.out
    refine ⟨K4.out.alloc _, Or.inl ⟨_, H7, max m1 m2 + 1, rfl, P4.out.alloc _, z7, (E1.out.trans E3.out (Nat.le_refl _)).trans x7 (by omega), w4.heap.size, Or.inr (Or.inr (Or.inr (Or.inl ⟨rfl, x, y, (.iface t1 (.pointer (some ⟨b1, 0, none⟩))), (.iface t2 (.pointer (some ⟨b2, 0, none⟩))), rfl, rfl, h7, ?_, ?_⟩)))⟩⟩
    · exact (QRep.ext x7 _ _ _ (QRep.ext E3.out _ _ _ (QRep.wide pre _ _ _ R1.out))).le (by omega)
    · exact (QRep.ext x7 _ _ _ R3.out).le (by omega)

set_option maxRecDepth 100000 in
set_option maxHeartbeats 2000000 in
theorem whole_q (T : List Tok) (n : Nat) (hO : ONQ T n) (hE : WHQ T n) : WHQ T (n + 1) := by
  intro w rb s H ns st t ns' st' hs h hz hr
  have hlt := h.lt
  have HP := hid (h.alloc (.cells #[.pointer (some ⟨rb, 0, none⟩)] 119))
  have HZ := hid (hz.alloc (.cells #[.pointer (some ⟨rb, 0, none⟩)] 119))
  have HE := hid hE
  have HO := hid hO
  rw [arrS] at hs
  cases hx : oneS (arrS T n) T ns st with
  | none => rw [hx] at hs; cases hs
  | some q =>
  obtain ⟨x, n1, s1⟩ := q
  rw [hx] at hs
  simp only at hs
  have HX := hid hx
  have HY := hid hs
  have K0 := hid ((Kept.refl rb w).alloc (.cells #[.pointer (some ⟨rb, 0, none⟩)] 119))
  clear h hz hE hx hs hO
  unfold rdV
  go_enter Tryz.func52, Tryz.ntmps52
  go_wp2_with fail
  refine (HO.out _ rb s H ns st x n1 s1 HX.out HP.out HZ.out hr).mono ?_
  rintro e w1 ⟨k1, (⟨v1, H1, m1, rfl, p1, z1, e1, r1⟩ | ⟨hb, b, rfl, hrf⟩)⟩
  case inr =>
    have e4 := HY.out
    rw [if_neg (by rw [isS_bad hb]; decide)] at e4
    cases e4
    unfold refusal
    go_wp2
    exact ⟨rfl, K0.out.trans k1, Or.inr ⟨hb, b, rfl, hrf⟩⟩
  case inl =>
  obtain ⟨t1, b1, ht1, rfl, hb1⟩ := r1.val z1
  have bx1 : w1.cell? ⟨w.heap.size, 0, none⟩ = some (.pointer (some ⟨rb, 0, none⟩)) := by
    rw [kept_cell k1 (by simp) (by omega)]
    simp [go_sem]
  have hw1 : w.heap.size < w1.heap.size := by have := k1.size; simp at this; omega
  have hr1 : H1 rb = none := by rw [e1.2 rb (by simp; omega)]; exact hr
  have P1 := hid p1
  have K1 := hid (K0.out.trans k1)
  have Z1 := hid z1
  have E1 := hid (e1.from (n := w.heap.size) (by simp))
  have R1 := hid r1
  clear p1 k1 z1 e1 r1 hb1 ht1
  go_wp2_with fail
  refine (skips_p tyKw tyKw_ok _ rb s T s1 kArrow P1.out (Or.inr (by decide))).mono ?_
  rintro e w2 ⟨rfl, p2, k2⟩
  have bx2 : w2.cell? ⟨w.heap.size, 0, none⟩ = some (.pointer (some ⟨rb, 0, none⟩)) := by
    rw [kept_cell k2 hw1 (by omega)]
    exact bx1
  have hw2 : w1.heap.size ≤ w2.heap.size := k2.size
  have P2 := hid p2
  have K2 := hid (K1.out.trans k2)
  have Z2 := hid (Z1.out.kept k2 hr1)
  clear p2 k2 bx1
  cases hi : isS T s1 kArrow with
  | false =>
    have p2 := P2.out
    rw [take_no hi] at p2
    have P2' := hid p2
    have e4 := HY.out
    rw [if_neg (by rw [hi]; decide)] at e4
    cases e4
    clear hi p2
    go_wp2
    go_ret
    exact ⟨K2.out, Or.inl ⟨_, H1, m1, rfl, P2'.out, Z2.out, E1.out, R1.out⟩⟩
  | true =>
    have p2 := P2.out
    rw [take_yes hi] at p2
    have P2' := hid p2
    have e4 := HY.out
    rw [if_pos hi] at e4
    cases hey : arrS T n n1 s1.up with
    | none => rw [hey] at e4; cases e4
    | some q =>
    obtain ⟨y, n2, s2⟩ := q
    rw [hey] at e4
    cases e4
    have HEY := hid hey
    clear hi p2 hey
    go_wp2_with fail
    refine (HE.out _ rb s H1 n1 _ y _ _ HEY.out P2'.out Z2.out hr1).mono ?_
    rintro e w3 ⟨k3, (⟨v2, H3, m2, rfl, p3, z3, e3, r3⟩ | ⟨hb, b, rfl, hrf⟩)⟩
    case inr =>
      unfold refusal
      go_wp2
      exact ⟨rfl, K2.out.trans k3, Or.inr ⟨hb, b, rfl, hrf⟩⟩
    case inl =>
    obtain ⟨t2, b2, ht2, rfl, hb2⟩ := r3.val z3
    have hw3 : w2.heap.size ≤ w3.heap.size := k3.size
    have P3 := hid p3
    have K3 := hid (K2.out.trans k3)
    have Z3 := hid z3
    have E3 := hid (e3.from (n := w.heap.size) (by omega))
    have R3 := hid r3
    clear p3 k3 z3 e3 r3 hb2 ht2 bx2
    go_wp2
    go_ret
    obtain ⟨H7, z7, x7, h7⟩ := q_new Z3.out #[(.iface t1 (.pointer (some ⟨b1, 0, none⟩))), (.iface t2 (.pointer (some ⟨b2, 0, none⟩)))] 211
    have pre := arr_pre _ _ _ _ _ _ HEY.out
    refine ⟨K3.out.alloc _, Or.inl ⟨_, H7, max m1 m2 + 1, rfl, P3.out.alloc _, z7, (E1.out.trans E3.out (Nat.le_refl _)).trans x7 (by omega), w3.heap.size, Or.inr (Or.inr (Or.inr (Or.inr ⟨rfl, x, y, (.iface t1 (.pointer (some ⟨b1, 0, none⟩))), (.iface t2 (.pointer (some ⟨b2, 0, none⟩))), rfl, rfl, h7, ?_, ?_⟩)))⟩⟩
    · exact (QRep.ext x7 _ _ _ (QRep.ext E3.out _ _ _ (QRep.wide pre _ _ _ R1.out))).le (by omega)
    · exact (QRep.ext x7 _ _ _ R3.out).le (by omega)
end Go.Proofs.YtcdijppegfcoaabGreatDoor

/-
  OUR OWN TEXT. The program's reader of types: one.
-/
namespace Go.Proofs.YtcdijppegfcoaabGreatDoor
open Go.RowKit

theorem need_same {T : List Tok} {st : St} {x y : List UInt8} (hx : isS T st x = false) (hy : isS T st y = false) : needS T st x = needS T st y := by
  have hx' : ¬ isS T st x = true := by rw [hx]; decide
  have hy' : ¬ isS T st y = true := by rw [hy]; decide
  simp only [needS, if_neg hx', if_neg hy']

set_option maxRecDepth 100000 in
set_option maxHeartbeats 4000000 in
theorem one_q (T : List Tok) (n : Nat) (hE : WHQ T n) : ONQ T n := by
  intro w rb s H ns st t ns' st' hs h hz hr
  have hlt := h.lt
  have hss := h.size
  have hneg := h.neg
  have hsl : s.data.toList.length = s.size := by rw [Array.length_toList]; rfl
  have HP := hid (h.alloc (.cells #[.pointer (some ⟨rb, 0, none⟩)] 119))
  have HZ := hid (hz.alloc (.cells #[.pointer (some ⟨rb, 0, none⟩)] 119))
  have HE := hid hE
  have HS := hid hs
  have K0 := hid ((Kept.refl rb w).alloc (.cells #[.pointer (some ⟨rb, 0, none⟩)] 119))
  clear h hz hE hs
  unfold rdV
  go_enter Tryz.func84, Tryz.ntmps84
  go_wp2_with fail
  refine (skips_p tyKw tyKw_ok _ rb s T st kInt HP.out (Or.inl (by decide))).mono ?_
  rintro e w1 ⟨rfl, p1, k1⟩
  have bx1 : w1.cell? ⟨w.heap.size, 0, none⟩ = some (.pointer (some ⟨rb, 0, none⟩)) := by
    rw [kept_cell k1 (by simp) (by omega)]
    simp [go_sem]
  have hw1 : w.heap.size < w1.heap.size := by have := k1.size; simp at this; omega
  have P1 := hid p1
  have K1 := hid (K0.out.trans k1)
  have Z1 := hid (HZ.out.kept k1 hr)
  clear p1 k1
  cases hi : isS T st kInt with
  | true =>
    have p := P1.out
    rw [take_yes hi] at p
    have P := hid p
    have e4 := HS.out
    unfold oneS at e4
    rw [if_pos hi] at e4
    cases e4
    clear hi p
    go_wp2
    go_ret
    obtain ⟨H7, z7, x7, h7⟩ := q_new Z1.out #[.string (B kInt)] 277
    exact ⟨K1.out.alloc _, Or.inl ⟨_, H7, 1, rfl, P.out.alloc _, z7, x7.from (by omega), w1.heap.size, Or.inr (Or.inl ⟨Or.inl rfl, rfl, rfl, h7⟩)⟩⟩
  | false =>
  have HI0 := hid hi
  have p := P1.out
  rw [take_no hi] at p
  have P1' := hid p
  clear hi p P1
  go_wp2_with fail
  refine (skips_p tyKw tyKw_ok _ rb s T st kBool P1'.out (Or.inl (by decide))).mono ?_
  rintro e w2 ⟨rfl, p2, k2⟩
  have bx2 : w2.cell? ⟨w.heap.size, 0, none⟩ = some (.pointer (some ⟨rb, 0, none⟩)) := by
    rw [kept_cell k2 (by omega) (by omega)]
    exact bx1
  have hw2 : w1.heap.size ≤ w2.heap.size := k2.size
  have P2 := hid p2
  have K2 := hid (K1.out.trans k2)
  have Z2 := hid (Z1.out.kept k2 hr)
  clear p2 k2 bx1
  cases hi : isS T st kBool with
  | true =>
    have p := P2.out
    rw [take_yes hi] at p
    have P := hid p
    have e4 := HS.out
    unfold oneS at e4
    rw [if_neg (by rw [HI0.out]; decide), if_pos hi] at e4
    cases e4
    clear hi p
    go_wp2
    go_ret
    obtain ⟨H7, z7, x7, h7⟩ := q_new Z2.out #[.string (B kBool)] 277
    exact ⟨K2.out.alloc _, Or.inl ⟨_, H7, 1, rfl, P.out.alloc _, z7, x7.from (by omega), w2.heap.size, Or.inr (Or.inl ⟨Or.inr rfl, rfl, rfl, h7⟩)⟩⟩
  | false =>
  have HI1 := hid hi
  have p := P2.out
  rw [take_no hi] at p
  clear hi P2
  obtain ⟨J, hat, hrd⟩ := p.place
  have ha := asked tyKw tyKw_ok s.data.toList J hat.1
  have P2' := hid p
  have hlt2 := p.lt
  clear p
  have hnm := ha.name
  rw [← hat.tk] at hnm
  have hwd : ∀ x, x ∈ tyKw → (nxT s.data.toList J = x ↔ (tk T st.k).is = x) := fun x hx => by rw [hat.tk]; exact ha.word x hx
  have hnokw : nxT s.data.toList J ∉ tyKw := fun hx => by
    have e := (hwd _ hx).1 rfl
    have hx' := hx
    simp only [tyKw, List.mem_cons, List.not_mem_nil, or_false] at hx'
    rcases hx' with e2 | e2
    · have := HI0.out
      rw [e2] at e
      simp [isS, hneg, e] at this
    · have := HI1.out
      rw [e2] at e
      simp [isS, hneg, e] at this
  obtain ⟨c0, c1, c2, c3, f1, f2, f3⟩ := four_p hrd
  clear c0 c2 c3 f1 f2 f3 hwd
  by_cases hk2 : nxK s.data.toList J = 2
  · have hk := hnm.1 ⟨hk2, hnokw⟩
    rw [hk2] at c1
    have hnx := hat.next tyKw_ok (by rw [hk]; decide) (by rw [hk]; decide)
    have hre := ha.real (by rw [← hat.tk, hk]; decide) (by rw [← hat.tk, hk]; decide)
    have HN := hid hnx.1
    have HJ := hid (show J + (nxT s.data.toList J).length ≤ s.size by rw [← hsl]; exact hnx.2)
    have HT := hid (show nxT s.data.toList J = (tk T st.k).s by rw [hat.tk]; exact hre.1)
    have RD := hid hrd
    have e4 := HS.out
    unfold oneS at e4
    have hi3 : isS T st kSq = false := by simp [isS, hk]; intro _; decide
    have hi4 : isS T st kOpen = false := by simp [isS, hk]; intro _; decide
    have hi5 : isS T st kName = true := by simp [isS, hneg, hk]
    rw [if_neg (by rw [HI0.out]; decide), if_neg (by rw [HI1.out]; decide), if_neg (by rw [hi3]; decide), if_neg (by rw [hi4]; decide), need_yes hi5, take_yes hi5] at e4
    cases e4
    clear hat hrd ha hk hnx hre hi3 hi4 hi5 hk2 hnm hnokw
    go_wp2_with (go_at_call 125; refine (take_p _ rb s J hss RD.out HJ.out).mono ?_; rintro e wT ⟨rfl, rT, kT⟩; have hwT : w2.heap.size ≤ wT.heap.size := kT.size; have RT := hid rT; have KT := hid kT; clear rT kT)
    go_ret
    obtain ⟨g1, g2, g3⟩ := num_get ns (tk T st.k).s
    obtain ⟨H7, z7, x7, h7⟩ := q_new (Z2.out.kept KT.out hr) #[.string (B (nxT s.data.toList J))] 246
    rw [HT.out] at h7 z7
    rw [HT.out]
    exact ⟨(K2.out.trans KT.out).alloc _, Or.inl ⟨_, H7, 1, rfl, PSt.alloc (st := st.up) ⟨hneg, ⟨_, HN.out, RT.out⟩, hss⟩ _, z7, x7.from (by omega), wT.heap.size, Or.inl ⟨rfl, rfl, ⟨g1, by rw [g2, ← HT.out]; have := HJ.out; omega⟩, rfl, by rw [g2]; exact h7⟩⟩⟩
  · have hq : (((nxK s.data.toList J : Nat) : Int) == 2) = false := by simp; omega
    have hi5 : isS T st kName = false := by
      have : ¬ (tk T st.k).is = kName := fun e => hk2 (hnm.2 e).1
      simp [isS, this]
    have HI5 := hid hi5
    clear hi5 hnm hnokw hk2 hrd ha hat
    generalize nxK s.data.toList J = kk at *
    go_wp2_with fail
    refine (skips_p tyKw tyKw_ok _ rb s T st kSq P2'.out (Or.inr (by decide))).mono ?_
    rintro e w3 ⟨rfl, p3, k3⟩
    have bx3 : w3.cell? ⟨w.heap.size, 0, none⟩ = some (.pointer (some ⟨rb, 0, none⟩)) := by
      rw [kept_cell k3 (by omega) (by omega)]
      exact bx2
    have hw3 : w2.heap.size ≤ w3.heap.size := k3.size
    have P3 := hid p3
    have K3 := hid (K2.out.trans k3)
    have Z3 := hid (Z2.out.kept k3 hr)
    clear p3 k3 bx2 c1 hq
    cases hi : isS T st kSq with
    | true =>
      have p := P3.out
      rw [take_yes hi] at p
      have P := hid p
      have e4 := HS.out
      unfold oneS at e4
      rw [if_neg (by rw [HI0.out]; decide), if_neg (by rw [HI1.out]; decide), if_pos hi] at e4
      cases hx : arrS T n ns st.up with
      | none => rw [hx] at e4; cases e4
      | some q =>
      obtain ⟨x, n1, s1⟩ := q
      rw [hx] at e4
      cases e4
      have HX := hid hx
      clear hi p hx
      go_wp2_with fail
      refine (HE.out _ rb s H ns _ x _ s1 HX.out P.out Z3.out hr).mono ?_
      rintro e w4 ⟨k4, (⟨v1, H1, m1, rfl, p4, z4, e4, r4⟩ | ⟨hb, b, rfl, hrf⟩)⟩
      case inr =>
        unfold refusal
        go_wp2
        exact ⟨rfl, K3.out.trans k4, Or.inr ⟨by rw [need_bad hb]; exact hb, b, rfl, by rw [need_bad hb]; exact hrf⟩⟩
      case inl =>
      obtain ⟨t1, b1, ht1, rfl, hb1⟩ := r4.val z4
      have bx4 : w4.cell? ⟨w.heap.size, 0, none⟩ = some (.pointer (some ⟨rb, 0, none⟩)) := by
        rw [kept_cell k4 (by omega) (by omega)]
        exact bx3
      have hw4 : w3.heap.size ≤ w4.heap.size := k4.size
      have hr4 : H1 rb = none := by rw [e4.2 rb (by omega)]; exact hr
      have P4 := hid p4
      have K4 := hid (K3.out.trans k4)
      have Z4 := hid z4
      have E4 := hid (e4.from (n := w.heap.size) (by omega))
      have R4 := hid r4
      clear p4 k4 z4 e4 r4 hb1 ht1 bx3
      go_wp2_with fail
      refine (must_p tyKw tyKw_ok _ rb s T s1 kQs P4.out (Or.inr (by decide))).mono ?_
      rintro e w5 ⟨k5, (⟨rfl, p5⟩ | ⟨hb, b, rfl, hrf⟩)⟩
      case inr =>
        unfold refusal
        go_wp2
        exact ⟨rfl, K4.out.trans k5, Or.inr ⟨hb, b, rfl, hrf⟩⟩
      case inl =>
      have hw5 : w4.heap.size ≤ w5.heap.size := k5.size
      have Z5 := hid (Z4.out.kept k5 hr4)
      have P5 := hid p5
      have K5 := hid (K4.out.trans k5)
      clear p5 k5 bx4
      go_wp2
      go_ret
      obtain ⟨H7, z7, x7, h7⟩ := q_new Z5.out #[(.iface t1 (.pointer (some ⟨b1, 0, none⟩)))] 281
      exact ⟨K5.out.alloc _, Or.inl ⟨_, H7, m1 + 1, rfl, P5.out.alloc _, z7, E4.out.trans x7 (by omega), w5.heap.size, Or.inr (Or.inr (Or.inl ⟨rfl, x, (.iface t1 (.pointer (some ⟨b1, 0, none⟩))), rfl, rfl, h7, QRep.ext x7 _ _ _ R4.out⟩))⟩⟩
    | false =>
      have HI3 := hid hi
      have p := P3.out
      rw [take_no hi] at p
      have P := hid p
      clear hi p
      go_wp2_with fail
      refine (must_p tyKw tyKw_ok _ rb s T st kOpen P.out (Or.inr (by decide))).mono ?_
      rintro e w4 ⟨k4, (⟨rfl, p4⟩ | ⟨hb, b, rfl, hrf⟩)⟩
      case inr =>
        have e4 := HS.out
        unfold oneS at e4
        have hi4 : isS T st kOpen = false := by
          cases h : isS T st kOpen with
          | false => rfl
          | true =>
            rw [need_yes h, take_yes h] at hb
            exact absurd hb (by show ¬ 0 ≤ st.bad; omega)
        rw [if_neg (by rw [HI0.out]; decide), if_neg (by rw [HI1.out]; decide), if_neg (by rw [HI3.out]; decide), if_neg (by rw [hi4]; decide), need_same HI5.out hi4] at e4
        cases e4
        unfold refusal
        go_wp2
        exact ⟨rfl, K3.out.trans k4, Or.inr ⟨hb, b, rfl, hrf⟩⟩
      case inl =>
      have hi4 : isS T st kOpen = true := by
        cases h : isS T st kOpen with
        | true => rfl
        | false =>
          have := p4.neg
          rw [need_no hneg h] at this
          exact absurd this (by show ¬ ((tk T st.k).pos : Int) < 0; omega)
      rw [need_yes hi4, take_yes hi4] at p4
      have bx4 : w4.cell? ⟨w.heap.size, 0, none⟩ = some (.pointer (some ⟨rb, 0, none⟩)) := by
        rw [kept_cell k4 (by omega) (by omega)]
        exact bx3
      have hw4 : w3.heap.size ≤ w4.heap.size := k4.size
      have e4 := HS.out
      unfold oneS at e4
      rw [if_neg (by rw [HI0.out]; decide), if_neg (by rw [HI1.out]; decide), if_neg (by rw [HI3.out]; decide), if_pos hi4] at e4
      cases hx : arrS T n ns st.up with
      | none => rw [hx] at e4; cases e4
      | some q =>
      obtain ⟨x, n1, s1⟩ := q
      rw [hx] at e4
      simp only at e4
      have CB := hid (bracketed_q T n HE.out w4 rb s H ns _ x n1 s1 t ns' st' hx e4 p4 (Z3.out.kept k4 hr) hr)
      unfold rdV at CB
      have K4 := hid (K3.out.trans k4)
      clear e4 hx p4 k4 hi4 bx3
      go_wp2_with fail
      refine CB.out.mono ?_
      rintro e w5 ho
      have HO := hid ho
      rcases ho with ⟨_, (⟨v, H', m, rfl, _⟩ | ⟨_, bb, rfl, _⟩)⟩
      · go_wp2
        go_ret
        obtain ⟨k5, ho⟩ := HO.out
        refine ⟨K4.out.trans k5, ?_⟩
        rcases ho with ⟨v, H', m, q1, q2, q3, q4, q5⟩ | ho
        · exact Or.inl ⟨v, H', m, q1, q2, q3, q4.from (by omega), q5⟩
        · exact Or.inr ho
      · unfold refusal at HO ⊢
        go_wp2
        obtain ⟨k5, ho⟩ := HO.out
        refine ⟨rfl, K4.out.trans k5, ?_⟩
        rcases ho with ⟨v, H', m, q1, q2, q3, q4, q5⟩ | ho
        · cases q1
        · exact Or.inr ho

theorem whole_all (T : List Tok) : ∀ n, WHQ T n
  | 0 => fun w rb s H ns st t ns' st' hs => by cases hs
  | n + 1 => whole_q T n (one_q T n (whole_all T n)) (whole_all T n)
end Go.Proofs.YtcdijppegfcoaabGreatDoor

/-
  OUR OWN TEXT (written by mkqwh.py). The program's reader of types: tokens.Whole at types.
-/
namespace Go.Proofs.YtcdijppegfcoaabGreatDoor
open Go.RowKit

theorem catch_idleQ (p q : Addr) (w : World) :
    CallsD Tryz.prog 81 #[.pointer (some p), .pointer (some q)] .returning w fun e u' w' => e = .returned (.tuple #[]) ∧ u' = .returning ∧ w' = w := by
  refine callsD_of_wpS Tryz.func81 rfl fun c₀ cs hu => ?_
  apply wpS_seq
  apply wpS_region
  simp [wpOpsS, go_sem, recoverD, hu, Tryz.ntmps81, Exit.thenS]
  refine wpS_of_wp ?_
  go_wp2
  cases c₀
  simp_all [bodyPostS, results, Tryz.results81]

theorem frozen_pastQ {w : World} {b o : Nat} {v : Value} (h : w.cell? ⟨b, o, none⟩ = some v) (hf : w.frozen? ⟨b, o, none⟩ = false) (x : Obj) : (w.alloc x).frozen? ⟨b, o, none⟩ = false := by
  have hl : b < w.heap.size := by
    rcases Nat.lt_or_ge b w.heap.size with h' | h'
    · exact h'
    · simp [World.cell?, Array.getElem?_eq_none h'] at h
  rw [World.frozen?_of_block (a := ⟨b, o, none⟩) (Below.heap_alloc _ _ _ hl)]
  exact hf
theorem assert_refusalQ (v : Value) (w : World) : (Instr.typeAssert (.iface 202 v) 20 202 true).run Tryz.prog w = .ok (.tuple #[v, .bool true]) w := by kernel_rfl

set_option maxRecDepth 100000 in
theorem catch_refusalQ (p q : Nat) (t b : TypeId) (v0 v1 : Value) (w : World) (h0 : w.cell? ⟨p, 0, none⟩ = some v0) (f0 : w.frozen? ⟨p, 0, none⟩ = false) (h1 : w.cell? ⟨q, 0, none⟩ = some v1) (f1 : w.frozen? ⟨q, 0, none⟩ = false) (hpq : p ≠ q) (hpl : p < w.heap.size) (hql : q < w.heap.size) :
    CallsD Tryz.prog 81 #[.pointer (some ⟨p, 0, none⟩), .pointer (some ⟨q, 0, none⟩)] (.panicking [{ v := .iface 202 (.agg #[(.iface t (.pointer (some ⟨b, 0, none⟩)))]), recovered := false }]) w fun e u' w' =>
      e = .returned (.tuple #[]) ∧ u' = .panicking [{ v := .iface 202 (.agg #[(.iface t (.pointer (some ⟨b, 0, none⟩)))]), recovered := true }] ∧ w' = (((w.setCell ⟨p, 0, none⟩ .nilIface).setCell ⟨q, 0, none⟩ (.iface t (.pointer (some ⟨b, 0, none⟩)))).alloc (.cells #[(.iface t (.pointer (some ⟨b, 0, none⟩)))] 202)).drew := by
  have a0 := fun x => cell_past h0 x
  have a1 := fun x => cell_past h1 x
  have g0 := fun x => frozen_pastQ h0 f0 x
  have g1 := fun x => frozen_pastQ h1 f1 x
  have hqp : q ≠ p := fun e => hpq e.symm
  have hp1 : p ≠ w.heap.size := by omega
  have hp2 : w.heap.size ≠ p := by omega
  have hq1 : q ≠ w.heap.size := by omega
  have hq2 : w.heap.size ≠ q := by omega
  refine callsD_of_wpS Tryz.func81 rfl fun c₀ cs hu => ?_
  have e0 : (#[Value.pointer (some ⟨p, 0, none⟩), .pointer (some ⟨q, 0, none⟩)] ++ Array.replicate (Tryz.f81.ntmps - (#[Value.pointer (some ⟨p, 0, none⟩), .pointer (some ⟨q, 0, none⟩)] : Array Value).size) undef) = #[Value.pointer (some ⟨p, 0, none⟩), .pointer (some ⟨q, 0, none⟩), undef, undef, undef, undef, undef, undef, undef, undef, undef, undef, undef, undef, undef] := rfl
  rw [e0]
  clear e0
  apply wpS_seq
  apply wpS_region
  simp [wpOpsS, go_sem, recoverD, hu, Exit.thenS]
  refine wpS_of_wp ?_
  have hta := assert_refusalQ
  go_wp2_with fail
  go_region
  refine ⟨rfl, _, rfl, .tuple #[], ?_, rfl, rfl, rfl⟩
  simp [results, Tryz.results81]

set_option maxRecDepth 100000 in
set_option maxHeartbeats 2000000 in
theorem read1_pQ (T : List Tok) (n : Nat) (w : World) (rb : Nat) (s : ByteArray) (H : Nat → Option Obj) (ns : List (List UInt8)) (st : St) (t : Ty) (ns' : List (List UInt8)) (st' : St) (hs : arrS T n ns st = some (t, ns', st')) (h : PSt tyKw w rb s T st) (hz : Fz H w) (hr : H rb = none) :
    Calls Tryz.prog 51 #[.pointer (some ⟨rb, 0, none⟩)] w fun e w' => TOut w w' rb s T H ns' st' e t := by
  have HC := hid (whole_all T n w rb s H ns st t ns' st' hs h hz hr)
  unfold rdV at HC
  clear hs h hz
  go_enter Tryz.func51, Tryz.ntmps51
  go_wp2_with fail
  refine HC.out.mono ?_
  rintro e w5 ho
  have HO := hid ho
  rcases ho with ⟨_, (⟨v, H', m, rfl, _⟩ | ⟨_, bb, rfl, _⟩)⟩
  · go_wp2
    go_ret
    exact HO.out
  · unfold refusal at HO ⊢
    go_wp2
    exact ⟨rfl, HO.out⟩


/-- What Whole leaves. -/
def WOutQ (w w' : World) (ns : List (List UInt8)) (s2 : St) (e : Ending) (ex : Ty) : Prop :=
  w.grownBy w' none ∧ ((s2.bad < 0 ∧ ∃ v H' m, e = .returned (.tuple #[v, .nilIface]) ∧ Fz H' w' ∧ QRep ns m H' v ex) ∨
    (0 ≤ s2.bad ∧ ∃ b, e = .returned (.tuple #[.nilIface, .iface 81 (.pointer (some ⟨b, 0, none⟩))]) ∧ w'.heap[b]? = some (.cells #[.int .i64 s2.bad] 92 (0, 0))))

/-- What the way out leaves in memory. -/
theorem caughtQ {w2 w'' : World} {N bb : Nat} {x : Int} {tx te ts : TypeId} (hw : w'' = (((w2.setCell ⟨N, 0, none⟩ .nilIface).setCell ⟨N + 1, 0, none⟩ (.iface ts (.pointer (some ⟨bb, 0, none⟩)))).alloc (.cells #[.iface ts (.pointer (some ⟨bb, 0, none⟩))] 202)).drew)
    {v0 v1 : Value} (h0 : w2.heap[N]? = some (.cells #[v0] tx (0, 0))) (h1 : w2.heap[N + 1]? = some (.cells #[v1] te (0, 0))) (hb : w2.heap[bb]? = some (.cells #[.int .i64 x] 92 (0, 0))) (hx : tx ≠ 92 := by decide) (he : te ≠ 92 := by decide) :
    w''.cell? ⟨N, 0, none⟩ = some .nilIface ∧ w''.cell? ⟨N + 1, 0, none⟩ = some (.iface ts (.pointer (some ⟨bb, 0, none⟩))) ∧ w''.heap[bb]? = some (.cells #[.int .i64 x] 92 (0, 0)) ∧
      (w2.heap.size ≤ w''.heap.size ∧ w''.os = w2.os ∧ w''.tape = w2.tape ∧ w''.output = w2.output ∧ ∀ k, k < N → w''.heap[k]? = w2.heap[k]?) := by
  have n0 : bb ≠ N := fun e => by rw [e, h0] at hb; simp at hb; exact hx hb.2
  have n1 : bb ≠ N + 1 := fun e => by rw [e, h1] at hb; simp at hb; exact he hb.2
  have l0 := lt_of_block h0
  have l1 := lt_of_block h1
  have lb := lt_of_block hb
  obtain ⟨w3, hw3⟩ : ∃ w3, w3 = (w2.setCell ⟨N, 0, none⟩ .nilIface).setCell ⟨N + 1, 0, none⟩ (.iface ts (.pointer (some ⟨bb, 0, none⟩))) := ⟨_, rfl⟩
  rw [← hw3] at hw
  have s3 : w3.heap.size = w2.heap.size := by rw [hw3]; simp [World.setCell]
  have old : ∀ k, k ≠ N → k ≠ N + 1 → w3.heap[k]? = w2.heap[k]? := fun k e1 e2 => by
    rw [hw3, Below.heap_setCell _ _ _ _ (by show k ≠ N + 1; exact e2), Below.heap_setCell _ _ _ _ (by show k ≠ N; exact e1)]
  have b0 : w3.heap[N]? = some (.cells #[.nilIface] tx (0, 0)) := by
    rw [hw3, Below.heap_setCell _ _ _ _ (by show N ≠ N + 1; omega)]
    simp [World.setCell, Array.getElem?_modify, h0]
  have b1 : w3.heap[N + 1]? = some (.cells #[.iface ts (.pointer (some ⟨bb, 0, none⟩))] te (0, 0)) := by
    have h1' : (w2.setCell ⟨N, 0, none⟩ .nilIface).heap[N + 1]? = some (.cells #[v1] te (0, 0)) := by
      rw [Below.heap_setCell _ _ _ _ (by show N + 1 ≠ N; omega)]
      exact h1
    rw [hw3]
    generalize w2.setCell ⟨N, 0, none⟩ .nilIface = w4 at h1'
    simp [World.setCell, Array.getElem?_modify, h1']
  have up : ∀ k, k < w3.heap.size → w''.heap[k]? = w3.heap[k]? := fun k hk => by rw [hw]; exact Below.heap_alloc _ _ _ hk
  refine ⟨?_, ?_, ?_, ?_, by rw [hw, hw3]; rfl, by rw [hw, hw3]; rfl, by rw [hw, hw3]; rfl, fun k hk => ?_⟩
  · simp [World.cell?, up N (by omega), b0]
  · simp [World.cell?, up (N + 1) (by omega), b1]
  · rw [up bb (by omega), old bb n0 n1]; exact hb
  · rw [hw]; simp; omega
  · rw [up k (by omega), old k (by omega) (by omega)]
theorem storedQ {w2 w'' : World} {N : Nat} {v u v0 v1 : Value} {tx te : TypeId} (hw : w'' = ((w2.setCell ⟨N, 0, none⟩ v).setCell ⟨N, 0, none⟩ v).setCell ⟨N + 1, 0, none⟩ u) (h0 : w2.heap[N]? = some (.cells #[v0] tx (0, 0))) (h1 : w2.heap[N + 1]? = some (.cells #[v1] te (0, 0))) :
    w''.cell? ⟨N, 0, none⟩ = some v ∧ w''.cell? ⟨N + 1, 0, none⟩ = some u ∧ (w2.heap.size ≤ w''.heap.size ∧ w''.os = w2.os ∧ w''.tape = w2.tape ∧ w''.output = w2.output ∧ ∀ k, k < N → w''.heap[k]? = w2.heap[k]?) := by
  have b0 : w''.heap[N]? = some (.cells #[v] tx (0, 0)) := by
    rw [hw, Below.heap_setCell _ _ _ _ (by show N ≠ N + 1; omega)]
    simp [World.setCell, Array.getElem?_modify, h0]
  have b1 : w''.heap[N + 1]? = some (.cells #[u] te (0, 0)) := by
    have h1' : ((w2.setCell ⟨N, 0, none⟩ v).setCell ⟨N, 0, none⟩ v).heap[N + 1]? = some (.cells #[v1] te (0, 0)) := by
      rw [Below.heap_setCell _ _ _ _ (by show N + 1 ≠ N; omega), Below.heap_setCell _ _ _ _ (by show N + 1 ≠ N; omega)]
      exact h1
    rw [hw]
    generalize (w2.setCell ⟨N, 0, none⟩ v).setCell ⟨N, 0, none⟩ v = w4 at h1'
    simp [World.setCell, Array.getElem?_modify, h1']
  refine ⟨by simp [World.cell?, b0], by simp [World.cell?, b1], by rw [hw]; simp [World.setCell], by rw [hw]; rfl, by rw [hw]; rfl, by rw [hw]; rfl, fun k hk => ?_⟩
  rw [hw, Below.heap_setCell _ _ _ _ (by show k ≠ N + 1; omega), Below.heap_setCell _ _ _ _ (by show k ≠ N; omega), Below.heap_setCell _ _ _ _ (by show k ≠ N; omega)]
theorem whole_grownQ {w w1 w2 w'' : World} {o : Obj} (h1 : w.grownBy w1 none) (hl : w.heap.size ≤ w1.heap.size) (h2 : Kept w1.heap.size (w1.alloc o) w2) (h3 : w2.heap.size ≤ w''.heap.size ∧ w''.os = w2.os ∧ w''.tape = w2.tape ∧ w''.output = w2.output ∧ ∀ k, k < w.heap.size → w''.heap[k]? = w2.heap[k]?) : w.grownBy w'' none := by
  obtain ⟨q1, q2, q3, q4, q5⟩ := h3
  refine ⟨q2.trans (h2.os.trans h1.os), q3.trans (h2.tape.trans h1.tape), q4.trans (h2.output.trans h1.output), ?_, fun k hk _ => ?_⟩
  · have := h2.size
    simp at this
    omega
  · rw [q5 k hk, h2.block k (by simp; omega) (by simp; omega), Below.heap_alloc _ _ _ (by omega), h1.block k hk (by simp)]

set_option maxRecDepth 100000 in
set_option maxHeartbeats 4000000 in
theorem whole_pQ (s : ByteArray) (hs : s.size ≤ 300) (w : World) (n : Nat) (ex : Ty) (ns : List (List UInt8)) (s1 : St) (hx : arrS (toksOf tyKw s) n [] ⟨0, -1⟩ = some (ex, ns, s1)) :
    Calls Tryz.prog 50 #[.string s, .func (.func 51) #[] #[]] w fun e w' => WOutQ w w' ns (needS (toksOf tyKw s) s1 kEnd) e ex := by
  have hmf : ∀ (fn : Fn) (first cap : Array Value) (w : World), (Instr.makeFunc fn first cap).run Tryz.prog w = .ok (.func fn first cap) w := fun _ _ _ _ => rfl
  have hsl : s.data.toList.length = s.size := by rw [Array.length_toList]; rfl
  obtain ⟨T, hT⟩ : ∃ T, T = toksOf tyKw s := ⟨_, rfl⟩
  have hat : At tyKw s.data.toList T 0 (upto isB s.data.toList 0) := by
    rw [hT]
    have := At.start tyKw s.data.toList
    rw [hsl] at this
    exact this
  rw [← hT] at hx ⊢
  have hz300 : ((s.size : Nat) : Int) ≤ 300 := by omega
  have HX := hid hx
  have HAT := hid hat
  clear hx hat hT
  go_enter_defers Tryz.func50, Tryz.ntmps50
  go_wp2_with fail
  refine (next_any s 0 (by omega) hs _).mono ?_
  rintro e w1 ⟨rfl, g1⟩
  dsimp only [tokV]
  have ra1 : w1.heap[w.heap.size]? = some (.cells #[.nilIface] 77 (0, 0)) := by
    rw [g1.block _ (by simp; omega) (by simp), Below.heap_alloc _ _ _ (by simp)]
    exact heap_alloc_new _ _
  have rb1 : w1.heap[w.heap.size + 1]? = some (.cells #[.nilIface] 56 (0, 0)) := by
    rw [g1.block _ (by simp) (by simp)]
    exact heap_alloc_at _ _ _ (by simp)
  have hw1 := lt_of_block rb1
  have G1 := hid (((World.grownBy_alloc w (.cells #[.nilIface] 77) none).trans (World.grownBy_alloc _ (.cells #[.nilIface] 56) none)).trans g1)
  obtain ⟨J, hJ⟩ : ∃ J, J = upto isB s.data.toList 0 := ⟨_, rfl⟩
  rw [← hJ] at HAT ⊢
  clear g1 hJ
  have PS : Hid (PSt tyKw (w1.alloc (.cells #[.string s, .int .i64 ((nxK s.data.toList J : Nat) : Int), .string (B (nxT s.data.toList J)), .int .i64 (J : Int)] 208)) w1.heap.size s T ⟨0, -1⟩) :=
    ⟨by decide, ⟨J, HAT.out, heap_alloc_new _ _⟩, hs⟩
  go_wp2_with fail
  refine (read1_pQ T n _ w1.heap.size s (fun _ => none) [] ⟨0, -1⟩ ex ns s1 HX.out PS.out (fz_none _) rfl).mono ?_
  rintro e w2 ⟨k2, (⟨v, H2, m, rfl, p2, z2, e2, r2⟩ | ⟨hb, bb, rfl, hrf⟩)⟩
  case inr =>
    have ra2 : w2.heap[w.heap.size]? = some (.cells #[.nilIface] 77 (0, 0)) := by
      rw [k2.block _ (by simp; omega) (by simp; omega), Below.heap_alloc _ _ _ (by omega)]
      exact ra1
    have rb2 : w2.heap[w.heap.size + 1]? = some (.cells #[.nilIface] 56 (0, 0)) := by
      rw [k2.block _ (by simp; omega) (by simp; omega), Below.heap_alloc _ _ _ (by omega)]
      exact rb1
    have K2 := hid k2
    have HB := hid hb
    have HRF := hid hrf
    clear k2 hb hrf ra1 rb1
    unfold refusal
    go_wp2
    refine leaves_cons (f := 81) (args := #[.pointer (some ⟨w.heap.size, 0, none⟩), .pointer (some ⟨w.heap.size + 1, 0, none⟩)]) (by simp) (by simp [go_sem]) ?_
    refine (catch_refusalQ w.heap.size (w.heap.size + 1) 81 bb .nilIface .nilIface w2 (by simp [World.cell?, ra2]) (by simp [World.frozen?, ra2]) (by simp [World.cell?, rb2]) (by simp [World.frozen?, rb2]) (by omega) (lt_of_block ra2) (lt_of_block rb2)).mono ?_
    rintro e u' w'' ⟨rfl, rfl, hw''⟩
    obtain ⟨q0, q1, q2, q3⟩ := caughtQ hw'' ra2 rb2 HRF.out
    refine ⟨.tuple #[.nilIface, .iface 81 (.pointer (some ⟨bb, 0, none⟩))], ?_, ?_⟩
    · simp [results, Tryz.results50, go_sem, q0, q1]
    · have e5 := need_bad (T := T) (x := kEnd) HB.out
      refine ⟨whole_grownQ G1.out (by omega) K2.out q3, Or.inr ⟨by rw [e5]; exact HB.out, bb, rfl, by rw [e5]; exact q2⟩⟩
  case inl =>
    obtain ⟨t1, b1, ht1, rfl, hb1⟩ := r2.val z2
    have ra2 : w2.heap[w.heap.size]? = some (.cells #[.nilIface] 77 (0, 0)) := by
      rw [k2.block _ (by simp; omega) (by simp; omega), Below.heap_alloc _ _ _ (by omega)]
      exact ra1
    have rb2 : w2.heap[w.heap.size + 1]? = some (.cells #[.nilIface] 56 (0, 0)) := by
      rw [k2.block _ (by simp; omega) (by simp; omega), Below.heap_alloc _ _ _ (by omega)]
      exact rb1
    have la2 := lt_of_block ra2
    have lb2 := lt_of_block rb2
    have a0 : w2.cell? ⟨w.heap.size, 0, none⟩ = some .nilIface := by simp [World.cell?, ra2]
    have a1 : w2.cell? ⟨w.heap.size + 1, 0, none⟩ = some .nilIface := by simp [World.cell?, rb2]
    have u0 : w2.frozen? ⟨w.heap.size, 0, none⟩ = false := by simp [World.frozen?, ra2]
    have u1 : w2.frozen? ⟨w.heap.size + 1, 0, none⟩ = false := by simp [World.frozen?, rb2]
    have hkk := p2.klt
    have hn2 := p2.neg
    obtain ⟨J2, hat2, hrd2⟩ := p2.place
    have hrl := lt_of_block hrd2
    have hend := (asked tyKw tyKw_ok s.data.toList J2 hat2.1).theEnd
    have hpos := (asked tyKw tyKw_ok s.data.toList J2 hat2.1).pos
    rw [← hat2.tk] at hend hpos
    obtain ⟨c0, c1, c2, c3, f1, f2, f3⟩ := four_p hrd2
    have hne : w1.heap.size ≠ w.heap.size := by omega
    have hne2 : w.heap.size ≠ w1.heap.size := by omega
    have K2 := hid k2
    have Z2 := hid z2
    have E2 := hid e2
    have R2 := hid r2
    have RD := hid hrd2
    have RA := hid ra2
    have RB := hid rb2
    have HEND := hid hend
    have HPOS := hid hpos
    have HN2 := hid hn2
    clear k2 p2 z2 e2 r2 ra1 rb1 ra2 rb2 hb1 hat2 hrd2 hend hpos c0 c2 c3 f1 f2 f3 hn2
    by_cases hk : nxK s.data.toList J2 = 0
    · rw [hk] at c1
      have HK := hid hk
      clear hk
      go_wp2
      refine leaves_cons (f := 81) (args := #[.pointer (some ⟨w.heap.size, 0, none⟩), .pointer (some ⟨w.heap.size + 1, 0, none⟩)]) (by simp) (by simp [go_sem]) ?_
      refine (catch_idleQ ⟨w.heap.size, 0, none⟩ ⟨w.heap.size + 1, 0, none⟩ _).mono ?_
      rintro e u' w'' ⟨rfl, rfl, hw''⟩
      obtain ⟨q0, q1, q3⟩ := storedQ hw'' RA.out RB.out
      refine ⟨.tuple #[(.iface t1 (.pointer (some ⟨b1, 0, none⟩))), .nilIface], ?_, ?_⟩
      · simp [results, Tryz.results50, go_sem, q0, q1]
      · have hh0 : H2 w.heap.size = none := E2.out.2 _ (by simp; omega)
        have hh1 : H2 (w.heap.size + 1) = none := E2.out.2 _ (by simp; omega)
        have e5 : (needS T s1 kEnd).bad < 0 := by
          have hi : isS T s1 kEnd = true := by simp [isS, HN2.out, HEND.out.1 HK.out]
          rw [need_yes hi, take_yes hi]
          exact HN2.out
        refine ⟨whole_grownQ G1.out (by omega) K2.out q3, Or.inl ⟨e5, _, H2, m, rfl, ?_, R2.out⟩⟩
        rw [hw'']
        exact ((Z2.out.set hh0 _ _).set hh0 _ _).set hh1 _ _
    · have hq : (((nxK s.data.toList J2 : Nat) : Int) == 0) = false := by simp; omega
      have HK := hid hk
      clear hk
      generalize nxK s.data.toList J2 = kk at *
      go_wp2_with fail
      have rd3 : Rdr (w2.setCell ⟨w.heap.size, 0, none⟩ (.iface t1 (.pointer (some ⟨b1, 0, none⟩)))) w1.heap.size s J2 := by
        unfold Rdr
        rw [Below.heap_setCell _ _ _ _ (by show w1.heap.size ≠ w.heap.size; omega)]
        exact RD.out
      refine (refuse_p _ w1.heap.size s J2 rd3).mono ?_
      rintro e w4 ⟨⟨bb, rfl, hbb⟩, g4⟩
      have ra4 : w4.heap[w.heap.size]? = some (.cells #[(.iface t1 (.pointer (some ⟨b1, 0, none⟩)))] 77 (0, 0)) := by
        rw [g4.block _ (by simp [World.setCell]; omega) (by simp)]
        simp [World.setCell, Array.getElem?_modify, RA.out]
      have rb4 : w4.heap[w.heap.size + 1]? = some (.cells #[.nilIface] 56 (0, 0)) := by
        rw [g4.block _ (by simp [World.setCell]; omega) (by simp), Below.heap_setCell _ _ _ _ (by show w.heap.size + 1 ≠ w.heap.size; omega)]
        exact RB.out
      have HB := hid hbb
      have G4 := hid g4
      clear hbb g4 rd3 a0 a1 u0 u1
      unfold refusal
      go_wp2
      refine leaves_cons (f := 81) (args := #[.pointer (some ⟨w.heap.size, 0, none⟩), .pointer (some ⟨w.heap.size + 1, 0, none⟩)]) (by simp) (by simp [go_sem]) ?_
      refine (catch_refusalQ w.heap.size (w.heap.size + 1) 81 bb (.iface t1 (.pointer (some ⟨b1, 0, none⟩))) .nilIface w4 (by simp [World.cell?, ra4]) (by simp [World.frozen?, ra4]) (by simp [World.cell?, rb4]) (by simp [World.frozen?, rb4]) (by omega) (lt_of_block ra4) (lt_of_block rb4)).mono ?_
      rintro e u' w'' ⟨rfl, rfl, hw''⟩
      obtain ⟨q0, q1, q2, q3⟩ := caughtQ hw'' ra4 rb4 HB.out
      refine ⟨.tuple #[.nilIface, .iface 81 (.pointer (some ⟨bb, 0, none⟩))], ?_, ?_⟩
      · simp [results, Tryz.results50, go_sem, q0, q1]
      · have hi : isS T s1 kEnd = false := by
          have : ¬ (tk T s1.k).is = kEnd := fun e => HK.out (HEND.out.2 e)
          simp [isS, this]
        have e5 := need_no HN2.out hi
        obtain ⟨r1, r2, r3, r4, r5⟩ := q3
        have q3' : w2.heap.size ≤ w''.heap.size ∧ w''.os = w2.os ∧ w''.tape = w2.tape ∧ w''.output = w2.output ∧ ∀ k, k < w.heap.size → w''.heap[k]? = w2.heap[k]? := by
          have hs4 := G4.out.size
          refine ⟨by simp [World.setCell] at hs4; omega, r2.trans G4.out.os, r3.trans G4.out.tape, r4.trans G4.out.output, fun k hk => ?_⟩
          rw [r5 k hk, G4.out.block k (by simp [World.setCell]; omega) (by simp), Below.heap_setCell _ _ _ _ (by show k ≠ w.heap.size; omega)]
        refine ⟨whole_grownQ G1.out (by omega) K2.out q3', Or.inr ⟨by rw [e5]; simp, bb, rfl, ?_⟩⟩
        rw [e5]
        show w''.heap[bb]? = some (.cells #[.int .i64 ((tk T s1.k).pos : Int)] _ (0, 0))
        rw [HPOS.out]
        exact q2
end Go.Proofs.YtcdijppegfcoaabGreatDoor

/-
  OUR OWN TEXT. The program's types: what lies right below one; room, Big.
-/
namespace Go.Proofs.YtcdijppegfcoaabGreatDoor
open Go.RowKit

/-- What Below leaves. -/
def BLW (w w' : World) (e : Ending) (us : List Value) : Prop :=
  ∃ ao cap, e = .returned (.slice ao us.length cap) ∧ w.grownBy w' none ∧ ∀ (j : Nat) (u : Value), us[j]? = some u → ∃ gn, ao = some ⟨gn, 0, none⟩ ∧ gn < w'.heap.size ∧ w'.cell? ⟨gn, j, none⟩ = some u

theorem mBelowVar (b : Nat) (w : World) : (Go.method 502 242 (.pointer (some ⟨b, 0, none⟩)) "Below").run Tryz.prog w = .ok (255, .pointer (some ⟨b, 0, none⟩)) w := by kernel_rfl
theorem mBelowBasic (b : Nat) (w : World) : (Go.method 502 275 (.pointer (some ⟨b, 0, none⟩)) "Below").run Tryz.prog w = .ok (256, .pointer (some ⟨b, 0, none⟩)) w := by kernel_rfl
theorem mBelowList (b : Nat) (w : World) : (Go.method 502 279 (.pointer (some ⟨b, 0, none⟩)) "Below").run Tryz.prog w = .ok (257, .pointer (some ⟨b, 0, none⟩)) w := by kernel_rfl
theorem mBelowPair (b : Nat) (w : World) : (Go.method 502 291 (.pointer (some ⟨b, 0, none⟩)) "Below").run Tryz.prog w = .ok (258, .pointer (some ⟨b, 0, none⟩)) w := by kernel_rfl
theorem mBelowArrow (b : Nat) (w : World) : (Go.method 502 209 (.pointer (some ⟨b, 0, none⟩)) "Below").run Tryz.prog w = .ok (242, .pointer (some ⟨b, 0, none⟩)) w := by kernel_rfl

set_option maxRecDepth 100000 in
theorem below_var (b : Nat) (w : World) : Calls Tryz.prog 255 #[.pointer (some ⟨b, 0, none⟩)] w fun e w' => BLW w w' e [] := by
  go_enter Tryz.func255, Tryz.ntmps255
  go_wp2
  go_ret
  exact ⟨none, 0, rfl, World.grownBy.refl _ _, fun j u h => by simp at h⟩
set_option maxRecDepth 100000 in
theorem below_basic (b : Nat) (w : World) : Calls Tryz.prog 256 #[.pointer (some ⟨b, 0, none⟩)] w fun e w' => BLW w w' e [] := by
  go_enter Tryz.func256, Tryz.ntmps256
  go_wp2
  go_ret
  exact ⟨none, 0, rfl, World.grownBy.refl _ _, fun j u h => by simp at h⟩
theorem blw_one (w : World) (u : Value) (t : TypeId) : BLW w (w.alloc (.cells #[u] t)) (.returned (.slice (some ⟨w.heap.size, 0, none⟩) 1 1)) [u] := by
  refine ⟨_, 1, rfl, World.grownBy_alloc _ _ _, fun j x h => ⟨_, rfl, by simp, ?_⟩⟩
  match j, h with
  | 0, h => simp at h; subst h; simp [go_sem]
  | j + 1, h => simp at h
theorem blw_two (w : World) (u z : Value) (t : TypeId) : BLW w (w.alloc (.cells #[u, z] t)).drew (.returned (.slice (some ⟨w.heap.size, 0, none⟩) 2 2)) [u, z] := by
  have g := World.grownBy_alloc w (.cells #[u, z] t) none
  refine ⟨_, 2, rfl, ⟨g.os, g.tape, g.output, g.size, g.block⟩, fun j x h => ⟨_, rfl, by simp, ?_⟩⟩
  match j, h with
  | 0, h => simp at h; subst h; simp [go_sem]
  | 1, h => simp at h; subst h; simp [go_sem]
  | j + 2, h => simp at h
set_option maxRecDepth 100000 in
theorem below_list (b : Nat) (w : World) (t1 : TypeId) (b1 : Nat) (h : w.heap[b]? = some (.cells #[(.iface t1 (.pointer (some ⟨b1, 0, none⟩)))] 281 (0, 0))) :
    Calls Tryz.prog 257 #[.pointer (some ⟨b, 0, none⟩)] w fun e w' => BLW w w' e [(.iface t1 (.pointer (some ⟨b1, 0, none⟩)))] := by
  have c0 : w.cell? ⟨b, 0, none⟩ = some (.iface t1 (.pointer (some ⟨b1, 0, none⟩))) := by simp [World.cell?, h]
  clear h
  go_enter Tryz.func257, Tryz.ntmps257
  go_wp2
  go_ret
  exact blw_one w _ _
set_option maxRecDepth 100000 in
theorem below_pair (b : Nat) (w : World) (t1 t2 : TypeId) (b1 b2 : Nat) (h : w.heap[b]? = some (.cells #[(.iface t1 (.pointer (some ⟨b1, 0, none⟩))), (.iface t2 (.pointer (some ⟨b2, 0, none⟩)))] 319 (0, 0))) :
    Calls Tryz.prog 258 #[.pointer (some ⟨b, 0, none⟩)] w fun e w' => BLW w w' e [(.iface t1 (.pointer (some ⟨b1, 0, none⟩))), (.iface t2 (.pointer (some ⟨b2, 0, none⟩)))] := by
  have c0 : w.cell? ⟨b, 0, none⟩ = some (.iface t1 (.pointer (some ⟨b1, 0, none⟩))) := by simp [World.cell?, h]
  have c1 : w.cell? ⟨b, 1, none⟩ = some (.iface t2 (.pointer (some ⟨b2, 0, none⟩))) := by simp [World.cell?, h]
  clear h
  go_enter Tryz.func258, Tryz.ntmps258
  go_wp2_with fail
  (try go_region)
  go_wp2
  go_ret
  exact blw_two w _ _ _
set_option maxRecDepth 100000 in
theorem below_arrow (b : Nat) (w : World) (t1 t2 : TypeId) (b1 b2 : Nat) (h : w.heap[b]? = some (.cells #[(.iface t1 (.pointer (some ⟨b1, 0, none⟩))), (.iface t2 (.pointer (some ⟨b2, 0, none⟩)))] 211 (0, 0))) :
    Calls Tryz.prog 242 #[.pointer (some ⟨b, 0, none⟩)] w fun e w' => BLW w w' e [(.iface t1 (.pointer (some ⟨b1, 0, none⟩))), (.iface t2 (.pointer (some ⟨b2, 0, none⟩)))] := by
  have c0 : w.cell? ⟨b, 0, none⟩ = some (.iface t1 (.pointer (some ⟨b1, 0, none⟩))) := by simp [World.cell?, h]
  have c1 : w.cell? ⟨b, 1, none⟩ = some (.iface t2 (.pointer (some ⟨b2, 0, none⟩))) := by simp [World.cell?, h]
  clear h
  go_enter Tryz.func242, Tryz.ntmps242
  go_wp2_with fail
  (try go_region)
  go_wp2
  go_ret
  exact blw_two w _ _ _
/-- What lies below a type. -/
theorem below_any {ns : List (List UInt8)} {m : Nat} {H : Nat → Option Obj} {v : Value} {x : Ty} (h : QRep ns (m + 1) H v x) :
    ∃ t b us F, v = .iface t (.pointer (some ⟨b, 0, none⟩)) ∧ us.length = x.kids.length ∧ us.length ≤ 2 ∧ (∀ (i : Nat) (u : Value) (y : Ty), us[i]? = some u → x.kids[i]? = some y → QRep ns m H u y) ∧ (∀ w, (Go.method 502 t (.pointer (some ⟨b, 0, none⟩)) "Below").run Tryz.prog w = .ok (F, .pointer (some ⟨b, 0, none⟩)) w) ∧
      (∀ w, Fz H w → Calls Tryz.prog F #[.pointer (some ⟨b, 0, none⟩)] w fun e w' => BLW w w' e us) ∧ (F = 255 ∨ F = 256 ∨ F = 257 ∨ F = 258 ∨ F = 242) := by
  obtain ⟨b, h⟩ := h
  rcases h with ⟨h1, h2, h3, h4, h5⟩ | ⟨h1, h2, h3, h4⟩ | ⟨h1, a, u, h2, h3, h4, h5⟩ | ⟨h1, a, c, u, z, h2, h3, h4, h5, h6⟩ | ⟨h1, a, c, u, z, h2, h3, h4, h5, h6⟩
  · exact ⟨_, b, [], _, h4, by rw [h2]; rfl, by simp, fun i u y e => by simp at e, fun w => mBelowVar b w, fun w _ => below_var b w, Or.inl rfl⟩
  · exact ⟨_, b, [], _, h3, by rw [h2]; rfl, by simp, fun i u y e => by simp at e, fun w => mBelowBasic b w, fun w _ => below_basic b w, Or.inr (Or.inl rfl)⟩
  · refine ⟨_, b, [u], _, h3, by rw [h2]; rfl, by simp, fun i u' y e1 e2 => ?_, fun w => mBelowList b w, fun w hz => ?_, Or.inr (Or.inr (Or.inl rfl))⟩
    · rw [h2] at e2
      match i, e1, e2 with
      | 0, e1, e2 => simp at e1 e2; subst e1 e2; exact h5
      | i + 1, e1, e2 => simp at e1
    · obtain ⟨t1, b1, _, rfl, _⟩ := h5.val hz
      exact below_list b w t1 b1 (hz _ _ h4)
  · refine ⟨_, b, [u, z], _, h3, by rw [h2]; rfl, by simp, fun i u' y e1 e2 => ?_, fun w => mBelowPair b w, fun w hz => ?_, Or.inr (Or.inr (Or.inr (Or.inl rfl)))⟩
    · rw [h2] at e2
      match i, e1, e2 with
      | 0, e1, e2 => simp at e1 e2; subst e1 e2; exact h5
      | 1, e1, e2 => simp at e1 e2; subst e1 e2; exact h6
      | i + 2, e1, e2 => simp at e1
    · obtain ⟨t1, b1, _, rfl, _⟩ := h5.val hz
      obtain ⟨t2, b2, _, rfl, _⟩ := h6.val hz
      exact below_pair b w t1 t2 b1 b2 (hz _ _ h4)
  · refine ⟨_, b, [u, z], _, h3, by rw [h2]; rfl, by simp, fun i u' y e1 e2 => ?_, fun w => mBelowArrow b w, fun w hz => ?_, Or.inr (Or.inr (Or.inr (Or.inr (rfl))))⟩
    · rw [h2] at e2
      match i, e1, e2 with
      | 0, e1, e2 => simp at e1 e2; subst e1 e2; exact h5
      | 1, e1, e2 => simp at e1 e2; subst e1 e2; exact h6
      | i + 2, e1, e2 => simp at e1
    · obtain ⟨t1, b1, _, rfl, _⟩ := h5.val hz
      obtain ⟨t2, b2, _, rfl, _⟩ := h6.val hz
      exact below_arrow b w t1 t2 b1 b2 (hz _ _ h4)

theorem sum_le_of (l : List Nat) (j : Nat) : (l.take j).sum ≤ l.sum := sum_take_le l j

set_option maxRecDepth 100000 in
set_option maxHeartbeats 2000000 in
theorem room_any (ns : List (List UInt8)) : ∀ (m : Nat) (H : Nat → Option Obj) (v : Value) (x : Ty) (w : World) (L : Nat), QRep ns m H v x → Fz H w → tySize m x ≤ 100000 → L ≤ 100000 →
    Calls Tryz.prog 86 #[v, .int .i64 (L : Int)] w fun e w' => e = .returned (.int .i64 (max ((L : Int) - (tySize m x : Int)) (-1))) ∧ w.grownBy w' none := by
  intro m
  induction m with
  | zero => intro H v x w L h; exact absurd h id
  | succ m ih =>
    intro H v x w L h hz hs hL
    obtain ⟨t, b, us, F, rfl, hl, hl2, hk, hm, hb, hF⟩ := below_any h
    have hsz : tySize (m + 1) x = 1 + (x.kids.map (tySize m)).sum := rfl
    rw [hsz] at hs ⊢
    have hm1 := hm w
    have HB := hid (hb w hz)
    have HK := hid hk
    have IH := hid ih
    have HL := hid hl
    have HZ := hid hz
    have HS := hid hs
    have hLi : (L : Int) ≤ 100000 := by omega
    obtain ⟨S, hS⟩ : ∃ S, S = (x.kids.map (tySize m)).sum := ⟨_, rfl⟩
    rw [← hS]
    have HSS := hid hS
    clear h hz hs hm hb hk ih hl hsz hS
    rcases hF with rfl | rfl | rfl | rfl | rfl
    all_goals
      go_enter Tryz.func86, Tryz.ntmps86
      go_wp2_with fail
      refine HB.out.mono ?_
      rintro e w1 ⟨ao, cap, rfl, g1, hrow⟩
      have HROW := hid hrow
      have G1 := hid g1
      clear hrow g1 HB hm1
      go_wp2_with fail
      go_loopg [1, 12] (us.length + 1) (fun gh v i wi => ∃ j k : Nat, j ≤ us.length ∧ i = .int .i64 j ∧ gh = us.length - j + 1 ∧ k ≤ 100000 ∧ Hid (k = 1 + ((x.kids.take j).map (tySize m)).sum) ∧ v = .int .i64 (max ((L : Int) - (k : Int)) (-1)) ∧ Hid (w1.grownBy wi none))
      case atStart => exact ⟨0, 1, by omega, rfl, by omega, by omega, hid rfl, by congr 1; omega, World.grownBy.refl _ _⟩
      case round =>
        obtain ⟨j, k, hj, rfl, hgj, hk, HKJ, rfl, HG⟩ := hrel
        by_cases hjl : j < us.length
        · obtain ⟨u, hu⟩ : ∃ u, us[j]? = some u := ⟨us[j], List.getElem?_eq_getElem hjl⟩
          obtain ⟨y, hy⟩ : ∃ y, x.kids[j]? = some y := ⟨x.kids[j]'(by rw [← HL.out]; exact hjl), List.getElem?_eq_getElem _⟩
          obtain ⟨gn, rfl, hgl, hcell0⟩ := HROW.out j u hu
          have hcell : wr.cell? ⟨gn, j, none⟩ = some u := by rw [World.cell?_of_block (a := ⟨gn, j, none⟩) (HG.out.block gn hgl (by simp))]; exact hcell0
          have hry := HK.out j u y hu hy
          have hzr : Fz H wr := (HZ.out.grown G1.out).grown HG.out
          obtain ⟨t1, b1, _, rfl, _⟩ := hry.val hzr
          have hstep : 1 + ((x.kids.take (j + 1)).map (tySize m)).sum = k + tySize m y := by
            rw [List.take_add_one, hy, List.map_append, List.sum_append, HKJ.out]
            simp
            omega
          have hle : k + tySize m y ≤ 1 + S := by
            have h1 := sum_take_le (x.kids.map (tySize m)) (j + 1)
            rw [← List.map_take] at h1
            rw [HSS.out]
            omega
          have hS1 : 1 + S ≤ 100000 := by rw [HSS.out]; exact HS.out
          by_cases hneg : (L : Int) - (k : Int) < 0
          · have h1 : max ((L : Int) - (k : Int)) (-1) < 0 := by omega
            have e9 : max ((L : Int) - (k : Int)) (-1) = -1 := by omega
            rw [e9]
            have e8 : max ((L : Int) - ((1 + S : Nat) : Int)) (-1) = -1 := by omega
            clear hu hy hry hzr hcell0 hstep h1 e9
            go_wp2
            go_ret
            exact ⟨by rw [e8]; rfl, G1.out.trans HG.out⟩
          · have e9 : max ((L : Int) - (k : Int)) (-1) = ((L - k : Nat) : Int) := by omega
            rw [e9]
            have CON := hid (IH.out H _ y wr (L - k) hry hzr (by omega) (by omega))
            obtain ⟨dy, hdy2⟩ : ∃ dy : Nat, dy = tySize m y := ⟨_, rfl⟩
            rw [← hdy2] at hstep CON hle
            have HST := hid hstep
            have h1 : ¬ (((L - k : Nat) : Int) < 0) := by omega
            have e7 : max (((L - k : Nat) : Int) - (dy : Int)) (-1) = max ((L : Int) - ((k + dy : Nat) : Int)) (-1) := by omega
            rw [e7] at CON
            clear hu hy hry hzr hcell0 hstep hdy2 e9 e7 hneg
            go_wp2_with fail
            refine CON.out.mono ?_
            rintro e w' ⟨rfl, g'⟩
            have G' := hid g'
            clear g'
            go_wp2_with fail
            go_roundg (us.length - (j + 1) + 1)
            case measure => omega
            case rel => exact ⟨j + 1, k + dy, by omega, by go_num, rfl, by omega, hid HST.out.symm, rfl, hid (HG.out.trans G'.out)⟩
        · have hje : j = us.length := by omega
          subst hje
          have e : k = 1 + S := by
            have := HKJ.out
            rw [HL.out, List.take_length] at this
            rw [HSS.out]
            exact this
          subst e
          go_wp2
          go_ret
          exact ⟨rfl, G1.out.trans HG.out⟩

set_option maxRecDepth 100000 in
set_option maxHeartbeats 2000000 in
theorem big_any (ns : List (List UInt8)) (m : Nat) (H : Nat → Option Obj) (v : Value) (x : Ty) (w : World) (h : QRep ns m H v x) (hz : Fz H w) (hs : tySize m x ≤ 100000) :
    Calls Tryz.prog 53 #[v] w fun e w' => e = .returned (.bool (decide (120 < tySize m x))) ∧ w.grownBy w' none := by
  have CON := hid (room_any ns m H v x w 120 h hz hs (by omega))
  obtain ⟨t, b, _, rfl, _⟩ := h.val hz
  clear h hz
  by_cases hd : 120 < tySize m x
  · have e9 : max (((120 : Nat) : Int) - (tySize m x : Int)) (-1) = -1 := by omega
    rw [e9] at CON
    rw [decide_eq_true hd]
    clear hd e9
    go_enter Tryz.func53, Tryz.ntmps53
    go_wp2_with fail
    refine CON.out.mono ?_
    rintro e w1 ⟨rfl, g1⟩
    have G1 := hid g1
    clear g1
    go_wp2
    go_ret
    exact ⟨rfl, G1.out⟩
  · have e9 : max (((120 : Nat) : Int) - (tySize m x : Int)) (-1) = ((120 - tySize m x : Nat) : Int) := by omega
    rw [e9] at CON
    rw [decide_eq_false hd]
    have h1 : ¬ (((120 - tySize m x : Nat) : Int) < 0) := by omega
    clear hd e9
    generalize 120 - tySize m x = q at *
    go_enter Tryz.func53, Tryz.ntmps53
    go_wp2_with fail
    refine CON.out.mono ?_
    rintro e w1 ⟨rfl, g1⟩
    have G1 := hid g1
    clear g1
    go_wp2
    go_ret
    exact ⟨rfl, G1.out⟩

end Go.Proofs.YtcdijppegfcoaabGreatDoor

/-
  OUR OWN TEXT. The program's types.Read.
-/
namespace Go.Proofs.YtcdijppegfcoaabGreatDoor
open Go.RowKit


set_option maxRecDepth 100000 in
set_option maxHeartbeats 1000000 in
theorem whole_longQ (s : ByteArray) (hs : 300 < s.size) (f : Value) (w : World) (bl : Addr) (hg : w.cell? ⟨0, 0, none⟩ = some (errV bl)) (hgl : 0 < w.heap.size) :
    Calls Tryz.prog 50 #[.string s, f] w fun e w' => e = .returned (.tuple #[.nilIface, errV bl]) ∧ w.grownBy w' none := by
  have hz : (300 : Int) < ((s.size : Nat) : Int) := by omega
  have a1 := cell_past (cell_past hg (.cells #[.nilIface] 77)) (.cells #[.nilIface] 56)
  unfold errV at hg a1 ⊢
  have hn : ¬ 0 = w.heap.size := by omega
  go_enter_defers Tryz.func50, Tryz.ntmps50
  go_wp2_with fail
  go_region
  go_wp2
  refine ⟨.tuple #[.nilIface, .iface 372 (.pointer (some bl))], ?_, rfl, grown_drew ((World.grownBy_alloc _ _ _).trans (World.grownBy_alloc _ _ _))⟩
  have q0 : ((w.alloc (.cells #[.nilIface] 77)).alloc (.cells #[.iface 372 (.pointer (some bl))] 56)).cell? ⟨w.heap.size, 0, none⟩ = some .nilIface := cell_past (by simp [go_sem]) _
  simp [results, Tryz.results50, go_sem, q0]

/-- What Read leaves; bd: where ErrBig lies. -/
def ROutQ (w w' : World) (ns : List (List UInt8)) (s2 : St) (e : Ending) (x : Ty) (bd : Addr) : Prop :=
  w.grownBy w' none ∧ ((0 ≤ s2.bad ∧ ∃ b, e = .returned (.tuple #[.nilIface, .iface 81 (.pointer (some ⟨b, 0, none⟩))]) ∧ w'.heap[b]? = some (.cells #[.int .i64 s2.bad] 92 (0, 0))) ∨
    (s2.bad < 0 ∧ ∃ v H' m, Fz H' w' ∧ QRep ns m H' v x ∧ TyOk ns.length m x ∧ ((120 < tySize m x ∧ e = .returned (.tuple #[.nilIface, errV bd])) ∨ (tySize m x ≤ 120 ∧ e = .returned (.tuple #[v, .nilIface])))))

set_option maxRecDepth 100000 in
set_option maxHeartbeats 2000000 in
theorem read_q (s : ByteArray) (hs : s.size ≤ 300) (w : World) (n : Nat) (x : Ty) (ns : List (List UInt8)) (s1 : St) (hx : arrS (toksOf tyKw s) n [] ⟨0, -1⟩ = some (x, ns, s1)) (hk1 : s1.k < (toksOf tyKw s).length) (bd : Addr) (hg : w.cell? ⟨4, 0, none⟩ = some (errV bd)) (hgl : 4 < w.heap.size) :
    Calls Tryz.prog 35 #[.string s] w fun e w' => ROutQ w w' ns (needS (toksOf tyKw s) s1 kEnd) e x bd := by
  have HC := hid (whole_pQ s hs w n x ns s1 hx)
  obtain ⟨m', ok, sz1, _⟩ := arr_made (toksOf tyKw s) n [] ⟨0, -1⟩ x ns s1 (by show (-1 : Int) < 0; omega) hx
  have hsz : tySize m' x ≤ 400 := by
    have h1 : tySize m' x + 0 ≤ s1.k + 1 := sz1
    have h2 := toksOf_len tyKw s
    omega
  have OK := hid ok
  clear hx sz1 hk1 ok
  generalize needS (toksOf tyKw s) s1 kEnd = s2 at *
  go_enter Tryz.func35, Tryz.ntmps35
  go_wp2_with fail
  refine HC.out.mono ?_
  rintro e w1 ⟨g1, (⟨hb, v, H', m, rfl, z1, r1⟩ | ⟨hb, b, rfl, hbk⟩)⟩
  · obtain ⟨t1, b1, ht1, rfl, hb1⟩ := r1.val z1
    have hg1 : w1.cell? ⟨4, 0, none⟩ = some (errV bd) := by
      rw [World.cell?_of_block (a := ⟨4, 0, none⟩) (g1.block _ hgl (by simp))]
      exact hg
    obtain ⟨M, hM⟩ : ∃ M, M = max m m' := ⟨_, rfl⟩
    have okM : TyOk ns.length M x := OK.out.le (by omega)
    have esz : tySize M x = tySize m' x := TyOk.size _ _ _ OK.out (by omega)
    have rM : QRep ns M H' (.iface t1 (.pointer (some ⟨b1, 0, none⟩))) x := r1.le (by omega)
    have CB := hid (big_any ns M H' _ x w1 rM z1 (by omega))
    have Q := hid (And.intro hb (And.intro z1 (And.intro rM okM)))
    have G1 := hid g1
    have hl1 : 4 < w1.heap.size := Nat.lt_of_lt_of_le hgl g1.size
    clear hb z1 r1 rM g1 hg hb1 HC hM okM esz hsz ht1
    obtain ⟨d, hd⟩ : ∃ d, d = tySize M x := ⟨_, rfl⟩
    rw [← hd] at CB
    have HD := hid hd
    clear hd
    by_cases hdd : 120 < d
    · rw [decide_eq_true hdd] at CB
      go_wp2_with fail
      refine CB.out.mono ?_
      rintro e w2 ⟨rfl, g2⟩
      have hg2 : w2.cell? ⟨4, 0, none⟩ = some (errV bd) := by
        rw [World.cell?_of_block (a := ⟨4, 0, none⟩) (g2.block _ hl1 (by simp))]
        exact hg1
      unfold errV at hg2
      have G2 := hid g2
      clear g2 hg1
      go_wp2_with fail
      go_region
      go_wp2
      go_ret2
      obtain ⟨hb, z1, r1, ok⟩ := Q.out
      exact ⟨grown_drew (G1.out.trans G2.out), Or.inr ⟨hb, _, H', M, (z1.grown G2.out).drew, r1, ok, Or.inl ⟨by rw [← HD.out]; exact hdd, rfl⟩⟩⟩
    · rw [decide_eq_false hdd] at CB
      clear hg1
      go_wp2_with fail
      refine CB.out.mono ?_
      rintro e w2 ⟨rfl, g2⟩
      have G2 := hid g2
      clear g2
      go_wp2
      go_ret2
      obtain ⟨hb, z1, r1, ok⟩ := Q.out
      exact ⟨G1.out.trans G2.out, Or.inr ⟨hb, _, H', M, z1.grown G2.out, r1, ok, Or.inr ⟨by rw [← HD.out]; omega, rfl⟩⟩⟩
  · have Q := hid (And.intro g1 (And.intro hb hbk))
    clear g1 hb hbk HC
    go_wp2
    go_ret2
    exact ⟨Q.out.1, Or.inl ⟨Q.out.2.1, b, rfl, Q.out.2.2⟩⟩

set_option maxRecDepth 100000 in
theorem read_qlong (s : ByteArray) (hs : 300 < s.size) (w : World) (bl : Addr) (hg : w.cell? ⟨0, 0, none⟩ = some (errV bl)) (hgl : 0 < w.heap.size) :
    Calls Tryz.prog 35 #[.string s] w fun e w' => e = .returned (.tuple #[.nilIface, errV bl]) ∧ w.grownBy w' none := by
  have HC := hid (whole_longQ s hs (.func (.func 51) #[] #[]) w bl hg hgl)
  clear hg
  unfold errV at HC ⊢
  go_enter Tryz.func35, Tryz.ntmps35
  go_wp2_with (go_at_call 50; refine HC.out.mono ?_; rintro e w' ⟨rfl, g1⟩; have G1 := hid g1; clear g1)
  go_ret2
  exact ⟨rfl, G1.out⟩
end Go.Proofs.YtcdijppegfcoaabGreatDoor

/-
  OUR OWN TEXT. What variables stand for, in a map of the program's.
-/
namespace Go.Proofs.YtcdijppegfcoaabGreatDoor
open Go.RowKit Go.Maps Go.WideMaps

/-- How a Typed reads. -/
def tyR1 (v : Value) : Option (DataW Unit × List MemPlace) :=
  match v with
  | .string s => if s.size ≤ maxLen then some (.lit (.string s.data.toList), []) else none
  | _ => none
def tyR (v : Value) : Option (DataW Unit × List MemPlace) :=
  match v with
  | .agg a => if a.size = 1 then tyR1 (a.getD 0 undef) else none
  | _ => none
theorem tyR_mk {t : List UInt8} (h : t.length ≤ 1000000) : tyR (.agg #[.string (B t)]) = some (.lit (.string t), []) := by
  have hs : (B t).size ≤ maxLen := by rw [size_B]; unfold maxLen; omega
  show (if (B t).size ≤ maxLen then some (DataW.lit (.string (B t).data.toList), []) else none) = _
  rw [if_pos hs]
  rfl
theorem tyR_inv {v : Value} {z : DataW Unit × List MemPlace} (h : tyR v = some z) : ∃ s : ByteArray, v = .agg #[.string s] ∧ z = (.lit (.string s.data.toList), []) := by
  unfold tyR at h
  split at h
  · rename_i a
    split at h
    · rename_i hs
      unfold tyR1 at h
      split at h
      · rename_i s hs0
        split at h
        · cases h
          refine ⟨s, ?_, rfl⟩
          congr 1
          apply Array.ext
          · simp [hs]
          · intro i h1 h2
            have hi : i = 0 := by omega
            subst hi
            have : a.getD 0 undef = a[0] := by simp [Array.getD, h1]
            rw [this] at hs0
            simpa using hs0
        · cases h
      · cases h
    · cases h
  · cases h
theorem zeroTyped (w : World) : (zeroValue 68).run Tryz.prog w = .ok (.agg #[.string (B [])]) w := by kernel_rfl

/-- Block mb is a map from the names of the variables that stand for something to those texts. -/
def FM (w : World) (mb : Nat) (ns : List (List UInt8)) (g : List (Option (List UInt8))) : Prop :=
  ∃ D : DataW Unit, w.ownsMap Tryz.prog 9 tyR mb (g.filter Option.isSome).length D ∧ Maps.size D = (g.filter Option.isSome).length ∧
    (∀ v, v < ns.length → Maps.has D (.string (ns.getD v [])) = (g.getD v none).isSome) ∧
    (∀ v t, v < ns.length → g.getD v none = some t → D.atKey (.string (ns.getD v [])) (.lit (.string [])) = .lit (.string t)) ∧
    ∀ k, Maps.has D k = true → ∃ v, v < ns.length ∧ k = .string (ns.getD v [])
theorem filter_set : ∀ (g : List (Option (List UInt8))) (v : Nat) (t : List UInt8), v < g.length → g.getD v none = none → ((g.set v (some t)).filter Option.isSome).length = (g.filter Option.isSome).length + 1
  | [], v, t, h, _ => by simp at h
  | a :: g, 0, t, h, e => by
    simp at e
    subst e
    simp
  | a :: g, v + 1, t, h, e => by
    have ih := filter_set g v t (by simpa using h) (by simpa using e)
    simp only [List.set_cons_succ, List.filter_cons]
    split <;> simp [ih]
theorem FM.new (w : World) (ns : List (List UInt8)) (n : Nat) : FM (w.alloc (.map #[] 0)) w.heap.size ns (List.replicate n none) := by
  have hf : ((List.replicate n (none : Option (List UInt8))).filter Option.isSome) = [] := by
    rw [List.filter_eq_nil_iff]
    intro a ha
    rw [List.eq_of_mem_replicate ha]
    simp
  have hg : ∀ v, (List.replicate n (none : Option (List UInt8))).getD v none = none := fun v => by
    rw [List.getD_eq_getElem?_getD]
    cases e : (List.replicate n (none : Option (List UInt8)))[v]? with
    | none => rfl
    | some o => rw [List.eq_of_mem_replicate (List.mem_of_getElem? e)]; rfl
  refine ⟨.map [], ?_, by rw [hf]; rfl, fun v hv => by rw [hg v]; rfl, (fun v t hv e => absurd (e.symm.trans (hg v)) (by simp)), (fun k h => absurd h (by simp [Maps.has]))⟩
  rw [hf]
  exact World.ownsMap_made _ _ _ _
theorem FM.kept {w w' : World} {mb : Nat} {ns : List (List UInt8)} {g : List (Option (List UInt8))} {r : Option Nat} (h : FM w mb ns g) (hg : w.grownBy w' r) (hne : some mb ≠ r) : FM w' mb ns g := by
  obtain ⟨D, h1, h2⟩ := h
  exact ⟨D, h1.kept hg hne, h2⟩
theorem FM.lt {w : World} {mb : Nat} {ns : List (List UInt8)} {g : List (Option (List UInt8))} (h : FM w mb ns g) : mb < w.heap.size := by
  obtain ⟨D, h1, _⟩ := h
  exact h1.lt
theorem FM.look_in {w : World} {mb : Nat} {ns : List (List UInt8)} {g : List (Option (List UInt8))} (h : FM w mb ns g) {v : Nat} (hv : v < ns.length) (hl : (ns.getD v []).length ≤ 300) {t : List UInt8} (ht : g.getD v none = some t) :
    (Instr.lookup 60 (.map (some mb)) (.string (B (ns.getD v []))) true).run Tryz.prog w = .ok (.tuple #[.agg #[.string (B t)], .bool true]) w := by
  obtain ⟨D, h1, h2, h3, h4, h5⟩ := h
  obtain ⟨u, ps, hr, hu⟩ := h1.look_ok keyLaw Tryz.underlying60 (zeroTyped w) (tyR_mk (t := []) (by simp)) (keyB hl)
  obtain ⟨s, rfl, hs⟩ := tyR_inv hu
  rw [hr, h3 v hv, ht]
  rw [h4 v t hv ht] at hs
  have := congrArg Prod.fst hs
  simp at this
  have e : s = B t := by
    cases s
    simp at this
    simp [B, this]
  rw [e]
  rfl
theorem FM.look1 {w : World} {mb : Nat} {ns : List (List UInt8)} {g : List (Option (List UInt8))} (h : FM w mb ns g) {v : Nat} (hv : v < ns.length) (hl : (ns.getD v []).length ≤ 300) {t : List UInt8} (ht : g.getD v none = some t) :
    (Instr.lookup 60 (.map (some mb)) (.string (B (ns.getD v []))) false).run Tryz.prog w = .ok (.agg #[.string (B t)]) w := by
  obtain ⟨D, h1, h2, h3, h4, h5⟩ := h
  obtain ⟨u, ps, hr, hu⟩ := h1.lookup keyLaw Tryz.underlying60 (zeroTyped w) (tyR_mk (t := []) (by simp)) (keyB hl)
  obtain ⟨s, rfl, hs⟩ := tyR_inv hu
  rw [hr]
  rw [h4 v t hv ht] at hs
  have := congrArg Prod.fst hs
  simp at this
  have e : s = B t := by
    cases s
    simp at this
    simp [B, this]
  rw [e]
theorem FM.look_out {w : World} {mb : Nat} {ns : List (List UInt8)} {g : List (Option (List UInt8))} (h : FM w mb ns g) {v : Nat} (hv : v < ns.length) (hl : (ns.getD v []).length ≤ 300) (ht : g.getD v none = none) :
    (Instr.lookup 60 (.map (some mb)) (.string (B (ns.getD v []))) true).run Tryz.prog w = .ok (.tuple #[.agg #[.string (B [])], .bool false]) w := by
  obtain ⟨D, h1, h2, h3, h4, h5⟩ := h
  obtain ⟨u, ps, hr, hu⟩ := h1.look_ok keyLaw Tryz.underlying60 (zeroTyped w) (tyR_mk (t := []) (by simp)) (keyB hl)
  obtain ⟨s, rfl, hs⟩ := tyR_inv hu
  have hf : Maps.has D (.string (ns.getD v [])) = false := by rw [h3 v hv, ht]; rfl
  rw [hr, hf]
  rw [atKey_of_not_has hf] at hs
  have := congrArg Prod.fst hs
  simp at this
  have e : s = B [] := by
    cases s
    simp at this
    simp [B, this]
  rw [e]
theorem FM.store {w : World} {mb : Nat} {ns : List (List UInt8)} {g : List (Option (List UInt8))} (h : FM w mb ns g) (hlen : g.length = ns.length) (hL : ns.length ≤ 1000) (hd : ns.Nodup) {v : Nat} (hv : v < ns.length) (hl : (ns.getD v []).length ≤ 300) (ht : g.getD v none = none) {t : List UInt8} (htl : t.length ≤ 1000000) :
    ∃ w', (Instr.mapUpdate 60 (.map (some mb)) (.string (B (ns.getD v []))) (.agg #[.string (B t)])).run Tryz.prog w = .ok () w' ∧ FM w' mb ns (g.set v (some t)) ∧ w.grownBy w' (some mb) := by
  obtain ⟨D, h1, h2, h3, h4, h5⟩ := h
  have td := h1.tidy keyLaw
  have hfl : (g.filter Option.isSome).length ≤ 1000 := Nat.le_trans (List.length_filter_le _ _) (by omega)
  obtain ⟨w', r1, r2, r3⟩ := h1.update keyLaw Tryz.underlying60 (by unfold maxLen; omega) (keyB hl) (tyR_mk htl)
  have hf : Maps.has D (.string (ns.getD v [])) = false := by rw [h3 v hv, ht]; rfl
  have hfs := filter_set g v t (by omega) ht
  have ne : ∀ i, i < ns.length → i ≠ v → (Lit.string (ns.getD i [])) ≠ .string (ns.getD v []) := fun i hi hne e => hne (getD_inj2 hd hi hv (by simpa using e))
  have gs : ∀ i, (g.set v (some t)).getD i none = if i = v then some t else g.getD i none := fun i => by
    rw [List.getD_eq_getElem?_getD, List.getD_eq_getElem?_getD, List.getElem?_set]
    by_cases e : v = i
    · rw [if_pos e, if_pos e.symm, if_pos (by omega)]; rfl
    · rw [if_neg e, if_neg (fun h => e h.symm)]
  refine ⟨w', r1, ⟨_, by rw [hfs]; exact r2, ?_, fun i hi => ?_, fun i t' hi e => ?_, fun k hk => ?_⟩, r3⟩
  · rw [size_put td, hf, h2, hfs]
    simp
  · rw [gs i]
    by_cases e : i = v
    · subst e
      rw [if_pos rfl, has_put_same (k := .string (ns.getD i [])) td.isMap (by trivial)]
      rfl
    · rw [if_neg e, has_put_other (ne i hi e), h3 i hi]
  · rw [gs i] at e
    by_cases e2 : i = v
    · subst e2
      rw [if_pos rfl] at e
      cases e
      exact atKey_put_same (k := .string (ns.getD i [])) td.isMap (by trivial) _ _
    · rw [if_neg e2] at e
      rw [atKey_put_other (ne i hi e2)]
      exact h4 i t' hi e
  · by_cases e : k = .string (ns.getD v [])
    · exact ⟨v, hv, e⟩
    · rw [has_put_other e] at hk
      exact h5 k hk
end Go.Proofs.YtcdijppegfcoaabGreatDoor

/-
  OUR OWN TEXT (written by mkqfit.py). The program's types.alike.
-/
namespace Go.Proofs.YtcdijppegfcoaabGreatDoor
open Go.RowKit

set_option maxRecDepth 100000 in
theorem al_Basic_Basic (w : World) (a b : Nat) (s t : List UInt8) (c0 : w.cell? ⟨a, 0, none⟩ = some (.string (B s))) (c1 : w.cell? ⟨b, 0, none⟩ = some (.string (B t))) : Calls Tryz.prog 97 #[.iface 275 (.pointer (some ⟨a, 0, none⟩)), .iface 275 (.pointer (some ⟨b, 0, none⟩))] w fun e w' => e = .returned (.bool (decide (s = t))) ∧ w.grownBy w' none := by
  have pBasic := e_Basic_Basic a
  have pb := e_Basic_Basic b
  have hd := str_eq s t
  generalize decide (s = t) = r at *
  go_enter Tryz.func97, Tryz.ntmps97
  go_wp2_with fail
  go_quiet (fail)
  go_wp2
  go_ret
  exact ⟨rfl, ⟨rfl, rfl, rfl, Nat.le_refl _, fun _ _ _ => rfl⟩⟩
set_option maxRecDepth 100000 in
theorem al_Basic_Var (w : World) (a b : Nat)  : Calls Tryz.prog 97 #[.iface 275 (.pointer (some ⟨a, 0, none⟩)), .iface 242 (.pointer (some ⟨b, 0, none⟩))] w fun e w' => e = .returned (.bool (false)) ∧ w.grownBy w' none := by
  have pBasic := e_Basic_Basic a
  have pb := e_Var_Basic b
  go_enter Tryz.func97, Tryz.ntmps97
  go_wp2_with fail
  go_quiet (fail)
  go_wp2
  go_ret
  exact ⟨rfl, ⟨rfl, rfl, rfl, Nat.le_refl _, fun _ _ _ => rfl⟩⟩
set_option maxRecDepth 100000 in
theorem al_Basic_List (w : World) (a b : Nat)  : Calls Tryz.prog 97 #[.iface 275 (.pointer (some ⟨a, 0, none⟩)), .iface 279 (.pointer (some ⟨b, 0, none⟩))] w fun e w' => e = .returned (.bool (false)) ∧ w.grownBy w' none := by
  have pBasic := e_Basic_Basic a
  have pb := e_List_Basic b
  go_enter Tryz.func97, Tryz.ntmps97
  go_wp2_with fail
  go_quiet (fail)
  go_wp2
  go_ret
  exact ⟨rfl, ⟨rfl, rfl, rfl, Nat.le_refl _, fun _ _ _ => rfl⟩⟩
set_option maxRecDepth 100000 in
theorem al_Basic_Pair (w : World) (a b : Nat)  : Calls Tryz.prog 97 #[.iface 275 (.pointer (some ⟨a, 0, none⟩)), .iface 291 (.pointer (some ⟨b, 0, none⟩))] w fun e w' => e = .returned (.bool (false)) ∧ w.grownBy w' none := by
  have pBasic := e_Basic_Basic a
  have pb := e_Pair_Basic b
  go_enter Tryz.func97, Tryz.ntmps97
  go_wp2_with fail
  go_quiet (fail)
  go_wp2
  go_ret
  exact ⟨rfl, ⟨rfl, rfl, rfl, Nat.le_refl _, fun _ _ _ => rfl⟩⟩
set_option maxRecDepth 100000 in
theorem al_Basic_Arrow (w : World) (a b : Nat)  : Calls Tryz.prog 97 #[.iface 275 (.pointer (some ⟨a, 0, none⟩)), .iface 209 (.pointer (some ⟨b, 0, none⟩))] w fun e w' => e = .returned (.bool (false)) ∧ w.grownBy w' none := by
  have pBasic := e_Basic_Basic a
  have pb := e_Arrow_Basic b
  go_enter Tryz.func97, Tryz.ntmps97
  go_wp2_with fail
  go_quiet (fail)
  go_wp2
  go_ret
  exact ⟨rfl, ⟨rfl, rfl, rfl, Nat.le_refl _, fun _ _ _ => rfl⟩⟩
set_option maxRecDepth 100000 in
theorem al_List_Basic (w : World) (a b : Nat)  : Calls Tryz.prog 97 #[.iface 279 (.pointer (some ⟨a, 0, none⟩)), .iface 275 (.pointer (some ⟨b, 0, none⟩))] w fun e w' => e = .returned (.bool (false)) ∧ w.grownBy w' none := by
  have pBasic := e_List_Basic a
  have pList := e_List_List a
  have pb := e_Basic_List b
  go_enter Tryz.func97, Tryz.ntmps97
  go_wp2
  go_ret
  exact ⟨rfl, World.grownBy.refl _ _⟩
set_option maxRecDepth 100000 in
theorem al_List_Var (w : World) (a b : Nat)  : Calls Tryz.prog 97 #[.iface 279 (.pointer (some ⟨a, 0, none⟩)), .iface 242 (.pointer (some ⟨b, 0, none⟩))] w fun e w' => e = .returned (.bool (false)) ∧ w.grownBy w' none := by
  have pBasic := e_List_Basic a
  have pList := e_List_List a
  have pb := e_Var_List b
  go_enter Tryz.func97, Tryz.ntmps97
  go_wp2
  go_ret
  exact ⟨rfl, World.grownBy.refl _ _⟩
set_option maxRecDepth 100000 in
theorem al_List_List (w : World) (a b : Nat)  : Calls Tryz.prog 97 #[.iface 279 (.pointer (some ⟨a, 0, none⟩)), .iface 279 (.pointer (some ⟨b, 0, none⟩))] w fun e w' => e = .returned (.bool (true)) ∧ w.grownBy w' none := by
  have pBasic := e_List_Basic a
  have pList := e_List_List a
  have pb := e_List_List b
  go_enter Tryz.func97, Tryz.ntmps97
  go_wp2
  go_ret
  exact ⟨rfl, World.grownBy.refl _ _⟩
set_option maxRecDepth 100000 in
theorem al_List_Pair (w : World) (a b : Nat)  : Calls Tryz.prog 97 #[.iface 279 (.pointer (some ⟨a, 0, none⟩)), .iface 291 (.pointer (some ⟨b, 0, none⟩))] w fun e w' => e = .returned (.bool (false)) ∧ w.grownBy w' none := by
  have pBasic := e_List_Basic a
  have pList := e_List_List a
  have pb := e_Pair_List b
  go_enter Tryz.func97, Tryz.ntmps97
  go_wp2
  go_ret
  exact ⟨rfl, World.grownBy.refl _ _⟩
set_option maxRecDepth 100000 in
theorem al_List_Arrow (w : World) (a b : Nat)  : Calls Tryz.prog 97 #[.iface 279 (.pointer (some ⟨a, 0, none⟩)), .iface 209 (.pointer (some ⟨b, 0, none⟩))] w fun e w' => e = .returned (.bool (false)) ∧ w.grownBy w' none := by
  have pBasic := e_List_Basic a
  have pList := e_List_List a
  have pb := e_Arrow_List b
  go_enter Tryz.func97, Tryz.ntmps97
  go_wp2
  go_ret
  exact ⟨rfl, World.grownBy.refl _ _⟩
set_option maxRecDepth 100000 in
theorem al_Pair_Basic (w : World) (a b : Nat)  : Calls Tryz.prog 97 #[.iface 291 (.pointer (some ⟨a, 0, none⟩)), .iface 275 (.pointer (some ⟨b, 0, none⟩))] w fun e w' => e = .returned (.bool (false)) ∧ w.grownBy w' none := by
  have pBasic := e_Pair_Basic a
  have pList := e_Pair_List a
  have pPair := e_Pair_Pair a
  have pb := e_Basic_Pair b
  go_enter Tryz.func97, Tryz.ntmps97
  go_wp2
  go_ret
  exact ⟨rfl, World.grownBy.refl _ _⟩
set_option maxRecDepth 100000 in
theorem al_Pair_Var (w : World) (a b : Nat)  : Calls Tryz.prog 97 #[.iface 291 (.pointer (some ⟨a, 0, none⟩)), .iface 242 (.pointer (some ⟨b, 0, none⟩))] w fun e w' => e = .returned (.bool (false)) ∧ w.grownBy w' none := by
  have pBasic := e_Pair_Basic a
  have pList := e_Pair_List a
  have pPair := e_Pair_Pair a
  have pb := e_Var_Pair b
  go_enter Tryz.func97, Tryz.ntmps97
  go_wp2
  go_ret
  exact ⟨rfl, World.grownBy.refl _ _⟩
set_option maxRecDepth 100000 in
theorem al_Pair_List (w : World) (a b : Nat)  : Calls Tryz.prog 97 #[.iface 291 (.pointer (some ⟨a, 0, none⟩)), .iface 279 (.pointer (some ⟨b, 0, none⟩))] w fun e w' => e = .returned (.bool (false)) ∧ w.grownBy w' none := by
  have pBasic := e_Pair_Basic a
  have pList := e_Pair_List a
  have pPair := e_Pair_Pair a
  have pb := e_List_Pair b
  go_enter Tryz.func97, Tryz.ntmps97
  go_wp2
  go_ret
  exact ⟨rfl, World.grownBy.refl _ _⟩
set_option maxRecDepth 100000 in
theorem al_Pair_Pair (w : World) (a b : Nat)  : Calls Tryz.prog 97 #[.iface 291 (.pointer (some ⟨a, 0, none⟩)), .iface 291 (.pointer (some ⟨b, 0, none⟩))] w fun e w' => e = .returned (.bool (true)) ∧ w.grownBy w' none := by
  have pBasic := e_Pair_Basic a
  have pList := e_Pair_List a
  have pPair := e_Pair_Pair a
  have pb := e_Pair_Pair b
  go_enter Tryz.func97, Tryz.ntmps97
  go_wp2
  go_ret
  exact ⟨rfl, World.grownBy.refl _ _⟩
set_option maxRecDepth 100000 in
theorem al_Pair_Arrow (w : World) (a b : Nat)  : Calls Tryz.prog 97 #[.iface 291 (.pointer (some ⟨a, 0, none⟩)), .iface 209 (.pointer (some ⟨b, 0, none⟩))] w fun e w' => e = .returned (.bool (false)) ∧ w.grownBy w' none := by
  have pBasic := e_Pair_Basic a
  have pList := e_Pair_List a
  have pPair := e_Pair_Pair a
  have pb := e_Arrow_Pair b
  go_enter Tryz.func97, Tryz.ntmps97
  go_wp2
  go_ret
  exact ⟨rfl, World.grownBy.refl _ _⟩
set_option maxRecDepth 100000 in
theorem al_Arrow_Basic (w : World) (a b : Nat)  : Calls Tryz.prog 97 #[.iface 209 (.pointer (some ⟨a, 0, none⟩)), .iface 275 (.pointer (some ⟨b, 0, none⟩))] w fun e w' => e = .returned (.bool (false)) ∧ w.grownBy w' none := by
  have pBasic := e_Arrow_Basic a
  have pList := e_Arrow_List a
  have pPair := e_Arrow_Pair a
  have pArrow := e_Arrow_Arrow a
  have pb := e_Basic_Arrow b
  go_enter Tryz.func97, Tryz.ntmps97
  go_wp2
  go_ret
  exact ⟨rfl, World.grownBy.refl _ _⟩
set_option maxRecDepth 100000 in
theorem al_Arrow_Var (w : World) (a b : Nat)  : Calls Tryz.prog 97 #[.iface 209 (.pointer (some ⟨a, 0, none⟩)), .iface 242 (.pointer (some ⟨b, 0, none⟩))] w fun e w' => e = .returned (.bool (false)) ∧ w.grownBy w' none := by
  have pBasic := e_Arrow_Basic a
  have pList := e_Arrow_List a
  have pPair := e_Arrow_Pair a
  have pArrow := e_Arrow_Arrow a
  have pb := e_Var_Arrow b
  go_enter Tryz.func97, Tryz.ntmps97
  go_wp2
  go_ret
  exact ⟨rfl, World.grownBy.refl _ _⟩
set_option maxRecDepth 100000 in
theorem al_Arrow_List (w : World) (a b : Nat)  : Calls Tryz.prog 97 #[.iface 209 (.pointer (some ⟨a, 0, none⟩)), .iface 279 (.pointer (some ⟨b, 0, none⟩))] w fun e w' => e = .returned (.bool (false)) ∧ w.grownBy w' none := by
  have pBasic := e_Arrow_Basic a
  have pList := e_Arrow_List a
  have pPair := e_Arrow_Pair a
  have pArrow := e_Arrow_Arrow a
  have pb := e_List_Arrow b
  go_enter Tryz.func97, Tryz.ntmps97
  go_wp2
  go_ret
  exact ⟨rfl, World.grownBy.refl _ _⟩
set_option maxRecDepth 100000 in
theorem al_Arrow_Pair (w : World) (a b : Nat)  : Calls Tryz.prog 97 #[.iface 209 (.pointer (some ⟨a, 0, none⟩)), .iface 291 (.pointer (some ⟨b, 0, none⟩))] w fun e w' => e = .returned (.bool (false)) ∧ w.grownBy w' none := by
  have pBasic := e_Arrow_Basic a
  have pList := e_Arrow_List a
  have pPair := e_Arrow_Pair a
  have pArrow := e_Arrow_Arrow a
  have pb := e_Pair_Arrow b
  go_enter Tryz.func97, Tryz.ntmps97
  go_wp2
  go_ret
  exact ⟨rfl, World.grownBy.refl _ _⟩
set_option maxRecDepth 100000 in
theorem al_Arrow_Arrow (w : World) (a b : Nat)  : Calls Tryz.prog 97 #[.iface 209 (.pointer (some ⟨a, 0, none⟩)), .iface 209 (.pointer (some ⟨b, 0, none⟩))] w fun e w' => e = .returned (.bool (true)) ∧ w.grownBy w' none := by
  have pBasic := e_Arrow_Basic a
  have pList := e_Arrow_List a
  have pPair := e_Arrow_Pair a
  have pArrow := e_Arrow_Arrow a
  have pb := e_Arrow_Arrow b
  go_enter Tryz.func97, Tryz.ntmps97
  go_wp2
  go_ret
  exact ⟨rfl, World.grownBy.refl _ _⟩
/-- alike: types of one kind. -/
theorem alike_any {na nb : List (List UInt8)} {m m' : Nat} {H : Nat → Option Obj} {u v : Value} {x y : Ty} (w : World) (hu : QRep na m H u x) (hv : QRep nb m' H v y) (hz : Fz H w) (hk : x.kind ≠ []) :
    Calls Tryz.prog 97 #[u, v] w fun e w' => e = .returned (.bool (decide (x.kind = y.kind))) ∧ w.grownBy w' none := by
  cases m with
  | zero => exact absurd hu id
  | succ m =>
  cases m' with
  | zero => exact absurd hv id
  | succ m' =>
  obtain ⟨a, hu⟩ := hu
  obtain ⟨b, hv⟩ := hv
  rcases hu with ⟨h1, _⟩ | ⟨h1, _, rfl, h4⟩ | ⟨h1, _, _, _, rfl, _⟩ | ⟨h1, _, _, _, _, _, rfl, _⟩ | ⟨h1, _, _, _, _, _, rfl, _⟩
  · exact absurd h1 hk
  · rcases hv with ⟨g1, _, _, rfl, _⟩ | ⟨g1, _, rfl, g4⟩ | ⟨g1, _, _, _, rfl, _⟩ | ⟨g1, _, _, _, _, _, rfl, _⟩ | ⟨g1, _, _, _, _, _, rfl, _⟩
    · rw [decide_eq_false (by rcases h1 with h1 | h1 <;> rw [h1, g1] <;> decide)]; exact al_Basic_Var w a b
    · exact al_Basic_Basic w a b x.kind y.kind (by simp [World.cell?, hz _ _ h4]) (by simp [World.cell?, hz _ _ g4])
    · rw [decide_eq_false (by rcases h1 with h1 | h1 <;> rw [h1, g1] <;> decide)]; exact al_Basic_List w a b
    · rw [decide_eq_false (by rcases h1 with h1 | h1 <;> rw [h1, g1] <;> decide)]; exact al_Basic_Pair w a b
    · rw [decide_eq_false (by rcases h1 with h1 | h1 <;> rw [h1, g1] <;> decide)]; exact al_Basic_Arrow w a b
  · rcases hv with ⟨g1, _, _, rfl, _⟩ | ⟨g1, _, rfl, g4⟩ | ⟨g1, _, _, _, rfl, _⟩ | ⟨g1, _, _, _, _, _, rfl, _⟩ | ⟨g1, _, _, _, _, _, rfl, _⟩
    · rw [decide_eq_false (by rw [h1, g1] <;> decide)]; exact al_List_Var w a b
    · rw [decide_eq_false (by rcases g1 with g1 | g1 <;> rw [h1, g1] <;> decide)]; exact al_List_Basic w a b
    · rw [decide_eq_true (by rw [h1, g1])]; exact al_List_List w a b
    · rw [decide_eq_false (by rw [h1, g1] <;> decide)]; exact al_List_Pair w a b
    · rw [decide_eq_false (by rw [h1, g1] <;> decide)]; exact al_List_Arrow w a b
  · rcases hv with ⟨g1, _, _, rfl, _⟩ | ⟨g1, _, rfl, g4⟩ | ⟨g1, _, _, _, rfl, _⟩ | ⟨g1, _, _, _, _, _, rfl, _⟩ | ⟨g1, _, _, _, _, _, rfl, _⟩
    · rw [decide_eq_false (by rw [h1, g1] <;> decide)]; exact al_Pair_Var w a b
    · rw [decide_eq_false (by rcases g1 with g1 | g1 <;> rw [h1, g1] <;> decide)]; exact al_Pair_Basic w a b
    · rw [decide_eq_false (by rw [h1, g1] <;> decide)]; exact al_Pair_List w a b
    · rw [decide_eq_true (by rw [h1, g1])]; exact al_Pair_Pair w a b
    · rw [decide_eq_false (by rw [h1, g1] <;> decide)]; exact al_Pair_Arrow w a b
  · rcases hv with ⟨g1, _, _, rfl, _⟩ | ⟨g1, _, rfl, g4⟩ | ⟨g1, _, _, _, rfl, _⟩ | ⟨g1, _, _, _, _, _, rfl, _⟩ | ⟨g1, _, _, _, _, _, rfl, _⟩
    · rw [decide_eq_false (by rw [h1, g1] <;> decide)]; exact al_Arrow_Var w a b
    · rw [decide_eq_false (by rcases g1 with g1 | g1 <;> rw [h1, g1] <;> decide)]; exact al_Arrow_Basic w a b
    · rw [decide_eq_false (by rw [h1, g1] <;> decide)]; exact al_Arrow_List w a b
    · rw [decide_eq_false (by rw [h1, g1] <;> decide)]; exact al_Arrow_Pair w a b
    · rw [decide_eq_true (by rw [h1, g1])]; exact al_Arrow_Arrow w a b
end Go.Proofs.YtcdijppegfcoaabGreatDoor

/-
  OUR OWN TEXT. The program's types.standsFor.
-/
namespace Go.Proofs.YtcdijppegfcoaabGreatDoor
open Go.RowKit

/-- A variable stands for one type wherever it stands. -/
def stdS (tx : List UInt8) (g : List (Option (List UInt8))) (v : Nat) : Option (List (Option (List UInt8))) :=
  match g.getD v none with
  | some t => if t = tx then some g else none
  | none => some (g.set v (some tx))
theorem standS_known {tx t : List UInt8} {g : List (Option (List UInt8))} {v : Nat} (e : g.getD v none = some t) : stdS tx g v = if t = tx then some g else none := by
  unfold stdS
  rw [e]
theorem standS_new {tx : List UInt8} {g : List (Option (List UInt8))} {v : Nat} (e : g.getD v none = none) : stdS tx g v = some (g.set v (some tx)) := by
  unfold stdS
  rw [e]
theorem matchS_stand {M : Nat} {ns : List (List UInt8)} {n : Nat} {x y : Ty} {g : List (Option (List UInt8))} (hk : x.kind = []) : matchS M ns (n + 1) x y g = stdS (tyText M ns y) g x.var := by
  cases e : g.getD x.var none with
  | some t => rw [standS_known e, matchS, if_pos hk, e]
  | none => rw [standS_new e, matchS, if_pos hk, e]
/-- What standsFor, fits leave: res: what variables stand for behind it. -/
def FO (w w' : World) (mb : Nat) (ns : List (List UInt8)) (e : Ending) (res : Option (List (Option (List UInt8)))) : Prop :=
  w.grownBy w' (some mb) ∧ ((res = none ∧ e = .returned (.bool false)) ∨ ∃ g, res = some g ∧ e = .returned (.bool true) ∧ FM w' mb ns g)
theorem grown_some {w w' : World} {r : Option Nat} (h : w.grownBy w' none) : w.grownBy w' r := ⟨h.os, h.tape, h.output, h.size, fun k hk _ => h.block k hk (by simp)⟩
theorem typed_eq (s t : List UInt8) (w : World) : (binOp .eql 68 (.agg #[.string (B s)]) (.agg #[.string (B t)])).run Tryz.prog w = .ok (.bool (decide (s = t))) w := by
  have := str_eq s t
  by_cases h : s = t <;> simp [go_sem, this, h]

set_option maxRecDepth 100000 in
theorem clone_q (s : ByteArray) (w : World) (h : s.size ≤ 281474976710656) : Calls Tryz.prog 48 #[.string s] w fun e w' => e = .returned (.string s) ∧ w.grownBy w' none := by
  go_enter Tryz.func48, Tryz.ntmps48
  go_wp2_with (go_at_call 76; refine (Tryz.stringslite_Clone _ _ h).mono ?_; rintro e w3 ⟨rfl, g3⟩; have G3 := hid g3; clear g3)
  go_ret
  exact ⟨rfl, G3.out.os, G3.out.tape, G3.out.output, G3.out.size, fun k hk _ => G3.out.block k hk⟩

set_option maxRecDepth 100000 in
set_option maxHeartbeats 4000000 in
theorem stands_q {na nb : List (List UInt8)} {N m : Nat} {H : Nat → Option Obj} {u : Value} {y : Ty} (w : World) (mb v : Nat) (g : List (Option (List UInt8))) (hn : ∀ i, i < N → (nb.getD i []).length ≤ 300) (hu : QRep nb m H u y) (ok : TyOk N m y) (hs : tySize m y ≤ 150) (hz : Fz H w)
    (hd : na.Nodup) (hv : v < na.length) (hnl : (na.getD v []).length ≤ 300) (hL : na.length ≤ 1000) (hgl : g.length = na.length) (hF : FM w mb na g) :
    Calls Tryz.prog 96 #[.string (B (na.getD v [])), u, .map (some mb)] w fun e w' => FO w w' mb na e (stdS (tyText m nb y) g v) := by
  have CO := hid (ownText_q hn m H u y w hu hz ok hs)
  have htl : (tyText m nb y).length ≤ 1000000 := by have := text_len hn m y ok; omega
  obtain ⟨t0, b0, _, rfl, _⟩ := hu.val hz
  obtain ⟨tx, htx⟩ : ∃ tx, tx = tyText m nb y := ⟨_, rfl⟩
  rw [← htx] at CO htl ⊢
  clear htx hu ok hs hz hn
  obtain ⟨nm, hnm⟩ : ∃ nm, nm = na.getD v [] := ⟨_, rfl⟩
  rw [← hnm]
  have HNM := hid hnm
  have hml := hF.lt
  have hszn : (B nm).size ≤ 281474976710656 := by rw [hnm, size_B]; omega
  have HV := hid (And.intro hv (And.intro hnl (And.intro hL (And.intro hgl hd))))
  clear hnm hv hnl hL hgl hd
  have HF := hid hF
  clear hF
  cases ht : g.getD v none with
  | some t =>
    rw [standS_known ht]
    have HT := hid ht
    have te := typed_eq t tx
    clear ht
    have HQ : Hid (∀ w', FM w' mb na g → w.grownBy w' none → FO w w' mb na (.returned (.bool (decide (t = tx)))) (if t = tx then some g else none)) := fun w' hF hg => by
      by_cases hq : t = tx
      · rw [if_pos hq, decide_eq_true hq]
        exact ⟨grown_some hg, Or.inr ⟨g, rfl, rfl, hF⟩⟩
      · rw [if_neg hq, decide_eq_false hq]
        exact ⟨grown_some hg, Or.inl ⟨rfl, rfl⟩⟩
    generalize (if t = tx then some g else none) = res at *
    generalize decide (t = tx) = dq at *
    go_enter Tryz.func96, Tryz.ntmps96
    go_wp2_with fail
    refine CO.out.mono ?_
    rintro e w1 ⟨rfl, g1⟩
    have F1 : FM (w1.alloc (.cells #[.string (B tx)] 68)) mb na g := (HF.out.kept g1 (by simp)).kept (World.grownBy_alloc _ _ none) (by simp)
    have hlk := F1.look_in HV.out.1 HV.out.2.1 HT.out
    rw [← HNM.out] at hlk
    have Q := hid (HQ.out ((w1.alloc (.cells #[.string (B tx)] 68)).alloc (.cells #[.string (B t)] 68)) (F1.kept (World.grownBy_alloc _ _ none) (by simp)) (g1.trans ((World.grownBy_alloc w1 _ none).trans (World.grownBy_alloc _ _ none))))
    clear g1 F1 CO HF HQ
    go_wp2
    go_ret
    exact Q.out
  | none =>
    rw [standS_new ht]
    have HT := hid ht
    clear ht
    go_enter Tryz.func96, Tryz.ntmps96
    go_wp2_with fail
    refine CO.out.mono ?_
    rintro e w1 ⟨rfl, g1⟩
    have F1 : FM (w1.alloc (.cells #[.string (B tx)] 68)) mb na g := (HF.out.kept g1 (by simp)).kept (World.grownBy_alloc _ _ none) (by simp)
    have hlk := F1.look_out HV.out.1 HV.out.2.1 HT.out
    rw [← HNM.out] at hlk
    have HF1 := hid F1
    have G1 := hid g1
    have hl1 : w.heap.size ≤ w1.heap.size := g1.size
    clear g1 F1 CO HF
    go_wp2_with fail
    have HF2 := hid (HF1.out.kept (World.grownBy_alloc (w1.alloc (.cells #[.string (B tx)] 68)) (.cells #[.string (B [])] 68) none) (by simp))
    have AC := hid (show ∀ w5, (((w1.alloc (.cells #[.string (B tx)] 68)).alloc (.cells #[.string (B [])] 68)).drew).grownBy w5 none → w5.cell? ⟨w1.heap.size, 0, none⟩ = some (.string (B tx)) ∧
        ∃ w6, (Instr.mapUpdate 60 (.map (some mb)) (.string (B nm)) (.agg #[.string (B tx)])).run Tryz.prog w5 = .ok () w6 ∧ FM w6 mb na (g.set v (some tx)) ∧ w5.grownBy w6 (some mb) from fun w5 g5 => by
      refine ⟨(World.cell?_of_block (a := ⟨w1.heap.size, 0, none⟩) (g5.block w1.heap.size (by simp; omega) (by simp))).trans (by simp [go_sem]), ?_⟩
      have st := (FM.kept (w := ((w1.alloc (.cells #[.string (B tx)] 68)).alloc (.cells #[.string (B [])] 68)).drew) HF2.out g5 (by simp)).store HV.out.2.2.2.1 HV.out.2.2.1 HV.out.2.2.2.2 HV.out.1 HV.out.2.1 HT.out htl
      rw [← HNM.out] at st
      exact st)
    clear hlk HF1
    go_region_with (go_at_call 48; refine (clone_q _ _ hszn).mono ?_; rintro e w5 ⟨rfl, g5⟩; obtain ⟨c7, w6, hst, hF6, g6⟩ := AC.out w5 g5; have A6 := hid (And.intro hF6 g6); have G5 := hid g5; clear hF6 g6 g5)
    all_goals
      go_wp2
      go_ret
      exact ⟨(grown_some (G1.out.trans ((World.grownBy_alloc w1 _ none).trans ((World.grownBy_alloc _ _ none).trans ((grown_drew (World.grownBy.refl _ none)).trans G5.out))))).trans A6.out.2, Or.inr ⟨_, rfl, rfl, A6.out.1⟩⟩
end Go.Proofs.YtcdijppegfcoaabGreatDoor

/-
  OUR OWN TEXT. The program's types.fits, types.Match.
-/
namespace Go.Proofs.YtcdijppegfcoaabGreatDoor
open Go.RowKit

/-- What lies below two types of one kind. -/
theorem below_two {na nb : List (List UInt8)} {m m' : Nat} {H : Nat → Option Obj} {u v : Value} {x y : Ty} (hu : QRep na (m + 1) H u x) (hv : QRep nb (m' + 1) H v y) (hk : x.kind = y.kind) (hx : x.kind ≠ []) :
    ∃ t a b us vs F, u = .iface t (.pointer (some ⟨a, 0, none⟩)) ∧ v = .iface t (.pointer (some ⟨b, 0, none⟩)) ∧ us.length = x.kids.length ∧ vs.length = y.kids.length ∧ us.length = vs.length ∧ us.length ≤ 2 ∧
      (∀ (i : Nat) (p : Value) (q : Ty), us[i]? = some p → x.kids[i]? = some q → QRep na m H p q) ∧ (∀ (i : Nat) (p : Value) (q : Ty), vs[i]? = some p → y.kids[i]? = some q → QRep nb m' H p q) ∧
      (∀ w, (Go.method 502 t (.pointer (some ⟨a, 0, none⟩)) "Below").run Tryz.prog w = .ok (F, .pointer (some ⟨a, 0, none⟩)) w) ∧ (∀ w, (Go.method 502 t (.pointer (some ⟨b, 0, none⟩)) "Below").run Tryz.prog w = .ok (F, .pointer (some ⟨b, 0, none⟩)) w) ∧
      (∀ w, Fz H w → Calls Tryz.prog F #[.pointer (some ⟨a, 0, none⟩)] w fun e w' => BLW w w' e us) ∧ (∀ w, Fz H w → Calls Tryz.prog F #[.pointer (some ⟨b, 0, none⟩)] w fun e w' => BLW w w' e vs) ∧
      (∀ w, (Instr.typeAssert (.iface t (.pointer (some ⟨a, 0, none⟩))) 77 242 true).run Tryz.prog w = .ok (.tuple #[.pointer none, .bool false]) w) ∧
      (F = 256 ∨ F = 257 ∨ F = 258 ∨ F = 242) := by
  obtain ⟨a, hu⟩ := hu
  obtain ⟨b, hv⟩ := hv
  rcases hu with ⟨h1, _⟩ | ⟨h1, h2, rfl, h4⟩ | ⟨h1, p, u1, h2, rfl, h4, h5⟩ | ⟨h1, p, p', u1, u2, h2, rfl, h4, h5, h6⟩ | ⟨h1, p, p', u1, u2, h2, rfl, h4, h5, h6⟩
  · exact absurd h1 hx
  · rcases hv with ⟨g1, _⟩ | ⟨g1, g2, rfl, g4⟩ | ⟨g1, q, v1, g2, rfl, g4, g5⟩ | ⟨g1, q, q', v1, v2, g2, rfl, g4, g5, g6⟩ | ⟨g1, q, q', v1, v2, g2, rfl, g4, g5, g6⟩
    · rw [hk] at hx; exact absurd g1 hx
    · exact ⟨_, a, b, [], [], _, rfl, rfl, by rw [h2]; rfl, by rw [g2]; rfl, rfl, by simp, fun i p q e => by simp at e, fun i p q e => by simp at e, fun w => mBelowBasic a w, fun w => mBelowBasic b w, fun w _ => below_basic a w, fun w _ => below_basic b w, fun w => e_Basic_Var a w, Or.inl rfl⟩
    · exfalso; rw [g1] at hk; rcases h1 with h1 | h1 <;> rw [h1] at hk <;> exact absurd hk (by decide)
    · exfalso; rw [g1] at hk; rcases h1 with h1 | h1 <;> rw [h1] at hk <;> exact absurd hk (by decide)
    · exfalso; rw [g1] at hk; rcases h1 with h1 | h1 <;> rw [h1] at hk <;> exact absurd hk (by decide)
  · rcases hv with ⟨g1, _⟩ | ⟨g1, g2, rfl, g4⟩ | ⟨g1, q, v1, g2, rfl, g4, g5⟩ | ⟨g1, q, q', v1, v2, g2, rfl, g4, g5, g6⟩ | ⟨g1, q, q', v1, v2, g2, rfl, g4, g5, g6⟩
    · rw [hk] at hx; exact absurd g1 hx
    · exfalso; rw [h1] at hk; rcases g1 with g1 | g1 <;> rw [g1] at hk <;> exact absurd hk (by decide)
    · refine ⟨_, a, b, [u1], [v1], _, rfl, rfl, by rw [h2]; rfl, by rw [g2]; rfl, rfl, by simp, fun i x' y' e1 e2 => ?_, fun i x' y' e1 e2 => ?_, fun w => mBelowList a w, fun w => mBelowList b w, fun w hz => ?_, fun w hz => ?_, fun w => e_List_Var a w, Or.inr (Or.inl rfl)⟩
      · rw [h2] at e2
        match i, e1, e2 with
        | 0, e1, e2 => simp at e1 e2; subst e1 e2; exact h5
        | i + 1, e1, e2 => simp at e1
      · rw [g2] at e2
        match i, e1, e2 with
        | 0, e1, e2 => simp at e1 e2; subst e1 e2; exact g5
        | i + 1, e1, e2 => simp at e1
      · obtain ⟨t1, b1, _, rfl, _⟩ := h5.val hz
        exact below_list a w t1 b1 (hz _ _ h4)
      · obtain ⟨t1, b1, _, rfl, _⟩ := g5.val hz
        exact below_list b w t1 b1 (hz _ _ g4)
    · exfalso; rw [h1, g1] at hk; exact absurd hk (by decide)
    · exfalso; rw [h1, g1] at hk; exact absurd hk (by decide)
  · rcases hv with ⟨g1, _⟩ | ⟨g1, g2, rfl, g4⟩ | ⟨g1, q, v1, g2, rfl, g4, g5⟩ | ⟨g1, q, q', v1, v2, g2, rfl, g4, g5, g6⟩ | ⟨g1, q, q', v1, v2, g2, rfl, g4, g5, g6⟩
    · rw [hk] at hx; exact absurd g1 hx
    · exfalso; rw [h1] at hk; rcases g1 with g1 | g1 <;> rw [g1] at hk <;> exact absurd hk (by decide)
    · exfalso; rw [h1, g1] at hk; exact absurd hk (by decide)
    · refine ⟨_, a, b, [u1, u2], [v1, v2], _, rfl, rfl, by rw [h2]; rfl, by rw [g2]; rfl, rfl, by simp, fun i x' y' e1 e2 => ?_, fun i x' y' e1 e2 => ?_, fun w => mBelowPair a w, fun w => mBelowPair b w, fun w hz => ?_, fun w hz => ?_, fun w => e_Pair_Var a w, Or.inr (Or.inr (Or.inl rfl))⟩
      · rw [h2] at e2
        match i, e1, e2 with
        | 0, e1, e2 => simp at e1 e2; subst e1 e2; exact h5
        | 1, e1, e2 => simp at e1 e2; subst e1 e2; exact h6
        | i + 2, e1, e2 => simp at e1
      · rw [g2] at e2
        match i, e1, e2 with
        | 0, e1, e2 => simp at e1 e2; subst e1 e2; exact g5
        | 1, e1, e2 => simp at e1 e2; subst e1 e2; exact g6
        | i + 2, e1, e2 => simp at e1
      · obtain ⟨t1, b1, _, rfl, _⟩ := h5.val hz
        obtain ⟨t2, b2, _, rfl, _⟩ := h6.val hz
        exact below_pair a w t1 t2 b1 b2 (hz _ _ h4)
      · obtain ⟨t1, b1, _, rfl, _⟩ := g5.val hz
        obtain ⟨t2, b2, _, rfl, _⟩ := g6.val hz
        exact below_pair b w t1 t2 b1 b2 (hz _ _ g4)
    · exfalso; rw [h1, g1] at hk; exact absurd hk (by decide)
  · rcases hv with ⟨g1, _⟩ | ⟨g1, g2, rfl, g4⟩ | ⟨g1, q, v1, g2, rfl, g4, g5⟩ | ⟨g1, q, q', v1, v2, g2, rfl, g4, g5, g6⟩ | ⟨g1, q, q', v1, v2, g2, rfl, g4, g5, g6⟩
    · rw [hk] at hx; exact absurd g1 hx
    · exfalso; rw [h1] at hk; rcases g1 with g1 | g1 <;> rw [g1] at hk <;> exact absurd hk (by decide)
    · exfalso; rw [h1, g1] at hk; exact absurd hk (by decide)
    · exfalso; rw [h1, g1] at hk; exact absurd hk (by decide)
    · refine ⟨_, a, b, [u1, u2], [v1, v2], _, rfl, rfl, by rw [h2]; rfl, by rw [g2]; rfl, rfl, by simp, fun i x' y' e1 e2 => ?_, fun i x' y' e1 e2 => ?_, fun w => mBelowArrow a w, fun w => mBelowArrow b w, fun w hz => ?_, fun w hz => ?_, fun w => e_Arrow_Var a w, Or.inr (Or.inr (Or.inr rfl))⟩
      · rw [h2] at e2
        match i, e1, e2 with
        | 0, e1, e2 => simp at e1 e2; subst e1 e2; exact h5
        | 1, e1, e2 => simp at e1 e2; subst e1 e2; exact h6
        | i + 2, e1, e2 => simp at e1
      · rw [g2] at e2
        match i, e1, e2 with
        | 0, e1, e2 => simp at e1 e2; subst e1 e2; exact g5
        | 1, e1, e2 => simp at e1 e2; subst e1 e2; exact g6
        | i + 2, e1, e2 => simp at e1
      · obtain ⟨t1, b1, _, rfl, _⟩ := h5.val hz
        obtain ⟨t2, b2, _, rfl, _⟩ := h6.val hz
        exact below_arrow a w t1 t2 b1 b2 (hz _ _ h4)
      · obtain ⟨t1, b1, _, rfl, _⟩ := g5.val hz
        obtain ⟨t2, b2, _, rfl, _⟩ := g6.val hz
        exact below_arrow b w t1 t2 b1 b2 (hz _ _ g4)
theorem novar {na : List (List UInt8)} {m : Nat} {H : Nat → Option Obj} {u : Value} {x : Ty} (hu : QRep na m H u x) (hx : x.kind ≠ []) : ∃ t a, u = .iface t (.pointer (some ⟨a, 0, none⟩)) ∧ ∀ w, (Instr.typeAssert (.iface t (.pointer (some ⟨a, 0, none⟩))) 77 242 true).run Tryz.prog w = .ok (.tuple #[.pointer none, .bool false]) w := by
  cases m with
  | zero => exact absurd hu id
  | succ m =>
  obtain ⟨a, hu⟩ := hu
  rcases hu with ⟨h1, _⟩ | ⟨h1, h2, rfl, h4⟩ | ⟨h1, p, u1, h2, rfl, h4, h5⟩ | ⟨h1, p, p', u1, u2, h2, rfl, h4, h5, h6⟩ | ⟨h1, p, p', u1, u2, h2, rfl, h4, h5, h6⟩
  · exact absurd h1 hx
  · exact ⟨_, a, rfl, fun w => e_Basic_Var a w⟩
  · exact ⟨_, a, rfl, fun w => e_List_Var a w⟩
  · exact ⟨_, a, rfl, fun w => e_Pair_Var a w⟩
  · exact ⟨_, a, rfl, fun w => e_Arrow_Var a w⟩
theorem FM.notCell {w : World} {mb : Nat} {ns : List (List UInt8)} {g : List (Option (List UInt8))} (h : FM w mb ns g) {b j : Nat} {v : Value} (hc : w.cell? ⟨b, j, none⟩ = some v) : some b ≠ some mb := fun e => by
  cases e
  obtain ⟨D, ⟨es, clock, hb, _⟩, _⟩ := h
  simp [World.cell?, hb] at hc

set_option maxRecDepth 100000 in
set_option maxHeartbeats 4000000 in
theorem fits_any {na nb : List (List UInt8)} {N M : Nat} (mb : Nat) (hn : ∀ i, i < N → (nb.getD i []).length ≤ 300) (hd : na.Nodup) (hL : na.length ≤ 1000) (H : Nat → Option Obj) (hmb : H mb = none) : ∀ (n : Nat) (u v : Value) (x y : Ty) (g : List (Option (List UInt8))) (w : World), QRep na n H u x → QRep nb M H v y → TyOk N M y → tySize M y ≤ 150 → n ≤ M → Fz H w → FM w mb na g → g.length = na.length →
    Calls Tryz.prog 63 #[u, v, .map (some mb)] w fun e w' => FO w w' mb na e (matchS M nb n x y g) := by
  intro n
  induction n with
  | zero => intro u v x y g w h; exact absurd h id
  | succ n ih =>
    intro u v x y g w hu hv ok hs hnM hz hF hgl
    by_cases hk : x.kind = []
    · obtain ⟨a, hu⟩ := hu
      rcases hu with ⟨h1, h2, h3, rfl, h5⟩ | ⟨h1, _⟩ | ⟨h1, _⟩ | ⟨h1, _⟩ | ⟨h1, _⟩
      · rw [matchS_stand hk]
        have CS := hid (stands_q (na := na) w mb x.var g hn hv ok hs hz hd h3.1 h3.2 hL hgl hF)
        have c0 : w.cell? ⟨a, 0, none⟩ = some (.string (B (na.getD x.var []))) := by simp [World.cell?, hz _ _ h5]
        obtain ⟨tv, bv, _, rfl, _⟩ := hv.val hz
        have qv := e_Var_Var a
        clear h1 h2 h3 h5 hv ok hs hz hF hgl ih hk
        generalize stdS (tyText M nb y) g x.var = res at *
        generalize na.getD x.var [] = nm at *
        go_enter Tryz.func63, Tryz.ntmps63
        go_wp2_with fail
        refine CS.out.mono ?_
        rintro e w1 ho
        have HO := hid ho
        rcases ho with ⟨_, (⟨_, rfl⟩ | ⟨_, _, rfl, _⟩)⟩
        · go_wp2
          go_ret
          exact HO.out
        · go_wp2
          go_ret
          exact HO.out
      · exfalso; rw [hk] at h1; rcases h1 with h1 | h1 <;> exact absurd h1 (by decide)
      · exfalso; rw [hk] at h1; exact absurd h1 (by decide)
      · exfalso; rw [hk] at h1; exact absurd h1 (by decide)
      · exfalso; rw [hk] at h1; exact absurd h1 (by decide)
    · have CA := hid (alike_any w hu hv hz hk)
      by_cases hkk : x.kind = y.kind
      · rw [decide_eq_true hkk] at CA
        have hm : matchS M nb (n + 1) x y g = mKids (matchS M nb n) (x.kids.drop 0) (y.kids.drop 0) g := by rw [matchS, if_neg hk, if_pos hkk]; rfl
        rw [hm]
        obtain ⟨M', rfl⟩ : ∃ M', M = M' + 1 := ⟨M - 1, by omega⟩
        obtain ⟨t, a, b, us, vs, F, rfl, rfl, hl1, hl2, hl3, hl4, hku, hkv, hmu, hmv, hbu, hbv, hqa, hFF⟩ := below_two hu hv hkk hk
        have HOK := hid (show ∀ q, q ∈ y.kids → TyOk N M' q ∧ tySize M' q ≤ 150 from fun q hq => ⟨(ok.kids q hq).1, Nat.le_trans (ok.kids q hq).2 hs⟩)
        have HL := hid (And.intro hl1 (And.intro hl2 hl3))
        have HKU := hid hku
        have HKV := hid hkv
        have HBU := hid hbu
        have HBV := hid hbv
        have HZ := hid hz
        have HF := hid (And.intro hF hgl)
        have IH := hid ih
        obtain ⟨res, hres⟩ : ∃ res, res = mKids (matchS (M' + 1) nb n) (x.kids.drop 0) (y.kids.drop 0) g := ⟨_, rfl⟩
        rw [← hres]
        have HRES := hid hres.symm
        clear hres hu hv ok hs hz hF hgl ih hm hkk hk hku hkv hbu hbv hl1 hl2 hl3
        rcases hFF with rfl | rfl | rfl | rfl
        all_goals
          go_enter Tryz.func63, Tryz.ntmps63
          go_wp2_with fail
          refine CA.out.mono ?_
          rintro e w1 ⟨rfl, g1⟩
          have z1 := HZ.out.grown g1
          have CV := hid (HBV.out w1 z1)
          have G1 := hid g1
          have Z1 := hid z1
          clear g1 z1 CA
          go_wp2_with fail
          refine CV.out.mono ?_
          rintro e w2 ⟨ao, cp, rfl, g2, hrowV⟩
          have z2 := Z1.out.grown g2
          have CU := hid (HBU.out w2 z2)
          have G2 := hid (G1.out.trans g2)
          have Z2 := hid z2
          have HRV := hid hrowV
          clear g2 z2 CV hrowV Z1 G1
          go_wp2_with fail
          refine CU.out.mono ?_
          rintro e w3 ⟨bo, cq, rfl, g3, hrowU⟩
          have Z3 := hid (Z2.out.grown g3)
          have G3 := hid (G2.out.trans g3)
          have G23 := hid g3
          have HRU := hid hrowU
          have F3 := hid (show FM w3 mb na g from HF.out.1.kept (G2.out.trans g3) (by simp))
          clear g3 CU hrowU Z2 G2
          go_wp2_with fail
          go_loopg [34] (us.length + 1) (fun gh i wi => ∃ (j : Nat) (g : List (Option (List UInt8))), j ≤ us.length ∧ i = .int .i64 j ∧ gh = us.length - j + 1 ∧ Hid (w3.grownBy wi (some mb)) ∧ Hid (FM wi mb na g ∧ g.length = na.length) ∧ Hid (mKids (matchS (M' + 1) nb n) (x.kids.drop j) (y.kids.drop j) g = res))
          case atStart => exact ⟨0, g, by omega, rfl, by omega, hid (World.grownBy.refl _ _), hid ⟨F3.out, HF.out.2⟩, HRES⟩
          case round =>
            obtain ⟨j, g, hj, rfl, hgj, HG, HFM, HR⟩ := hrel
            by_cases hjl : j < us.length
            · obtain ⟨hl1, hl2, hl3⟩ := HL.out
              have hjv : j < vs.length := by omega
              have hjv' : (j : Int) < (vs.length : Int) := by omega
              obtain ⟨p, hp⟩ : ∃ p, us[j]? = some p := ⟨us[j], List.getElem?_eq_getElem hjl⟩
              obtain ⟨q, hq⟩ : ∃ q, vs[j]? = some q := ⟨vs[j], List.getElem?_eq_getElem hjv⟩
              obtain ⟨x1, hx1⟩ : ∃ x1, x.kids[j]? = some x1 := ⟨x.kids[j]'(by omega), List.getElem?_eq_getElem _⟩
              obtain ⟨y1, hy1⟩ : ∃ y1, y.kids[j]? = some y1 := ⟨y.kids[j]'(by omega), List.getElem?_eq_getElem _⟩
              obtain ⟨gu, rfl, hgul, hcu⟩ := HRU.out j p hp
              obtain ⟨gv, rfl, hgvl, hcv2⟩ := HRV.out j q hq
              have hcv : w3.cell? ⟨gv, j, none⟩ = some q := by rw [World.cell?_of_block (a := ⟨gv, j, none⟩) (G23.out.block gv hgvl (by simp))]; exact hcv2
              have hgv3 : gv < w3.heap.size := Nat.lt_of_lt_of_le hgvl G23.out.size
              have ru : wr.cell? ⟨gu, j, none⟩ = some p := by rw [World.cell?_of_block (a := ⟨gu, j, none⟩) (HG.out.block gu hgul (F3.out.notCell hcu))]; exact hcu
              have rv : wr.cell? ⟨gv, j, none⟩ = some q := by rw [World.cell?_of_block (a := ⟨gv, j, none⟩) (HG.out.block gv hgv3 (F3.out.notCell hcv))]; exact hcv
              have zr : Fz H wr := Z3.out.turned HG.out hmb
              have hru := HKU.out j p x1 hp hx1
              have hrv := HKV.out j q y1 hq hy1
              obtain ⟨oky, sy⟩ := HOK.out y1 (List.mem_of_getElem? hy1)
              have sy' : tySize (M' + 1) y1 ≤ 150 := by rw [TyOk.size M' (M' + 1) y1 oky (by omega)]; exact sy
              have CF := hid (IH.out p q x1 y1 g wr hru (hrv.le (by omega)) (oky.le (by omega)) sy' (by omega) zr HFM.out.1 HFM.out.2)
              obtain ⟨tp, bp, _, rfl, _⟩ := hru.val zr
              obtain ⟨tq, bq, _, rfl, _⟩ := hrv.val zr
              have HST := hid (mKids_drop (f := matchS (M' + 1) nb n) hx1 hy1 g)
              obtain ⟨r1, hr1⟩ : ∃ r1, r1 = matchS (M' + 1) nb n x1 y1 g := ⟨_, rfl⟩
              rw [← hr1] at CF HST
              have HR1 := hid hr1
              clear hr1 hl1 hl2 hl3 hp hq hx1 hy1 hcu hcv hcv2 zr hru hrv oky sy sy'
              cases r1 with
              | none =>
                have hres : res = none := by
                  have := HR.out
                  rw [HST.out] at this
                  exact this.symm
                subst hres
                go_wp2_with fail
                refine CF.out.mono ?_
                rintro e w5 ⟨g5, (⟨_, rfl⟩ | ⟨_, h9, _⟩)⟩
                · have G5 := hid g5
                  clear g5 CF HST HR
                  go_wp2
                  go_ret
                  exact ⟨(grown_some G3.out).trans (HG.out.trans G5.out), Or.inl ⟨rfl, rfl⟩⟩
                · cases h9
              | some g9 =>
                have hl9 : g9.length = na.length := by rw [matchS_len _ _ _ _ _ HR1.out.symm]; exact HFM.out.2
                have HR9 := hid (show mKids (matchS (M' + 1) nb n) (x.kids.drop (j + 1)) (y.kids.drop (j + 1)) g9 = res by
                  have := HR.out
                  rw [HST.out] at this
                  exact this)
                go_wp2_with fail
                refine CF.out.mono ?_
                rintro e w5 ⟨g5, (⟨h9, _⟩ | ⟨g8, h9, rfl, hF5⟩)⟩
                · cases h9
                · cases h9
                  have G5 := hid g5
                  have HF5 := hid (And.intro hF5 hl9)
                  clear g5 CF HST HR hF5 hl9
                  go_wp2_with fail
                  go_roundg (us.length - (j + 1) + 1)
                  case measure => omega
                  case rel => exact ⟨j + 1, g9, by omega, by go_num, rfl, hid (HG.out.trans G5.out), HF5, HR9⟩
            · have hje : j = us.length := by omega
              subst hje
              have hres : res = some g := by
                have := HR.out
                rw [mKids_end _ _ _ (by have := HL.out.1; omega)] at this
                exact this.symm
              have Q := hid (show FO w wr mb na (.returned (.bool true)) res from ⟨(grown_some G3.out).trans HG.out, Or.inr ⟨g, hres, rfl, HFM.out.1⟩⟩)
              clear hres
              go_wp2
              go_ret
              exact Q.out
      · rw [decide_eq_false hkk] at CA
        have hm : matchS M nb (n + 1) x y g = none := by rw [matchS, if_neg hk, if_neg hkk]
        rw [hm]
        obtain ⟨t, a, rfl, hq⟩ := novar hu hk
        obtain ⟨tv, bv, _, rfl, _⟩ := hv.val hz
        clear hu hv ok hs hz hF hgl ih hm hkk hk
        go_enter Tryz.func63, Tryz.ntmps63
        go_wp2_with fail
        refine CA.out.mono ?_
        rintro e w1 ⟨rfl, g1⟩
        have G1 := hid g1
        clear g1 CA
        go_wp2
        go_ret
        exact ⟨grown_some G1.out, Or.inl ⟨rfl, rfl⟩⟩
end Go.Proofs.YtcdijppegfcoaabGreatDoor

/-
  OUR OWN TEXT. The program's types.Match; two types over blocks that no longer change.
-/
namespace Go.Proofs.YtcdijppegfcoaabGreatDoor
open Go.RowKit

/-- What Match leaves. -/
def MaO (w w' : World) (na : List (List UInt8)) (e : Ending) (res : Option (List (Option (List UInt8)))) : Prop :=
  w.grownBy w' none ∧ ((res = none ∧ e = .returned (.tuple #[.map none, .bool false])) ∨ ∃ g mb, res = some g ∧ e = .returned (.tuple #[.map (some mb), .bool true]) ∧ FM w' mb na g)

set_option maxRecDepth 100000 in
theorem match_q {na nb : List (List UInt8)} {N M n : Nat} (hn : ∀ i, i < N → (nb.getD i []).length ≤ 300) (hd : na.Nodup) (hL : na.length ≤ 1000) (H : Nat → Option Obj) (u v : Value) (x y : Ty) (w : World) (hu : QRep na n H u x) (hv : QRep nb M H v y) (ok : TyOk N M y) (hs : tySize M y ≤ 150) (hnM : n ≤ M) (hz : Fz H w) :
    Calls Tryz.prog 40 #[u, v] w fun e w' => MaO w w' na e (matchS M nb n x y (List.replicate na.length none)) := by
  have CF := hid (fits_any (mb := w.heap.size) hn hd hL H (hz.none (Nat.le_refl _)) n u v x y (List.replicate na.length none) (w.alloc (.map #[] 0)) hu hv ok hs hnM (hz.alloc _) (FM.new w na na.length) (by simp))
  obtain ⟨tp, bp, _, rfl, _⟩ := hu.val hz
  obtain ⟨tq, bq, _, rfl, _⟩ := hv.val hz
  have hmm := @run_makeMap Tryz.prog
  clear hu hv ok hs hz hn
  generalize matchS M nb n x y (List.replicate na.length none) = res at *
  go_enter Tryz.func40, Tryz.ntmps40
  go_wp2_with fail
  refine CF.out.mono ?_
  rintro e w1 ⟨g1, (⟨rfl, rfl⟩ | ⟨g, rfl, rfl, hF⟩)⟩
  · have G1 := hid g1
    clear g1 CF
    go_wp2
    go_ret2
    refine ⟨?_, Or.inl ⟨rfl, rfl⟩⟩
    have a := G1.out
    exact ⟨a.os, a.tape, a.output, Nat.le_trans (by simp) a.size, fun k hk _ => by rw [a.block k (by simp; omega) (by simp; omega), Below.heap_alloc _ _ _ hk]⟩
  · have G1 := hid g1
    have HF := hid hF
    clear g1 CF hF
    go_wp2
    go_ret2
    refine ⟨?_, Or.inr ⟨g, _, rfl, rfl, HF.out⟩⟩
    have a := G1.out
    exact ⟨a.os, a.tape, a.output, Nat.le_trans (by simp) a.size, fun k hk _ => by rw [a.block k (by simp; omega) (by simp; omega), Below.heap_alloc _ _ _ hk]⟩

def both (H1 H2 : Nat → Option Obj) (k : Nat) : Option Obj := match H1 k with
  | some o => some o
  | none => H2 k
theorem fz_both {H1 H2 : Nat → Option Obj} {w : World} (h1 : Fz H1 w) (h2 : Fz H2 w) : Fz (both H1 H2) w ∧ Ext 0 H1 (both H1 H2) ∧ Ext 0 H2 (both H1 H2) := by
  refine ⟨fun k o e => ?_, ⟨fun k o e => ?_, fun k hk => by omega⟩, ⟨fun k o e => ?_, fun k hk => by omega⟩⟩
  · unfold both at e
    cases e1 : H1 k with
    | some o' => rw [e1] at e; cases e; exact h1 k _ e1
    | none => rw [e1] at e; exact h2 k o e
  · unfold both; rw [e]
  · unfold both
    cases e1 : H1 k with
    | some o' =>
      have a := h1 k o' e1
      have b := h2 k o e
      rw [a] at b
      exact b
    | none => exact e
end Go.Proofs.YtcdijppegfcoaabGreatDoor

/-
  OUR OWN TEXT. The program's infer.Canon.
-/
namespace Go.Proofs.YtcdijppegfcoaabGreatDoor
open Go.RowKit

/-- What Canon leaves; bd: where ErrBig lies. -/
def COut (w w' : World) (ns : List (List UInt8)) (s2 : St) (e : Ending) (x : Ty) (bd : Addr) : Prop :=
  w.grownBy w' none ∧ ((0 ≤ s2.bad ∧ ∃ b, e = .returned (.tuple #[.string (B []), .iface 81 (.pointer (some ⟨b, 0, none⟩))]) ∧ w'.heap[b]? = some (.cells #[.int .i64 s2.bad] 92 (0, 0))) ∨
    (s2.bad < 0 ∧ ∃ m, TyOk ns.length m x ∧ ((120 < tySize m x ∧ e = .returned (.tuple #[.string (B []), errV bd])) ∨ (tySize m x ≤ 120 ∧ e = .returned (.tuple #[.string (B (tyCanon m x)), .nilIface])))))

set_option maxRecDepth 100000 in
set_option maxHeartbeats 2000000 in
theorem canon_q (s : ByteArray) (hs : s.size ≤ 300) (w : World) (n : Nat) (x : Ty) (ns : List (List UInt8)) (s1 : St) (hx : arrS (toksOf tyKw s) n [] ⟨0, -1⟩ = some (x, ns, s1)) (hk1 : s1.k < (toksOf tyKw s).length) (bd : Addr) (hg : w.cell? ⟨4, 0, none⟩ = some (errV bd)) (hgl : 4 < w.heap.size) :
    Calls Tryz.prog 21 #[.string s] w fun e w' => COut w w' ns (needS (toksOf tyKw s) s1 kEnd) e x bd := by
  have HC := hid (read_q s hs w n x ns s1 hx hk1 bd hg hgl)
  have hnd := arr_nodup n [] ⟨0, -1⟩ x ns s1 hx (by simp)
  have HND := hid hnd
  clear hx hg hk1 hnd
  generalize needS (toksOf tyKw s) s1 kEnd = s2 at *
  go_enter Tryz.func21, Tryz.ntmps21
  go_wp2_with fail
  refine HC.out.mono ?_
  rintro e w1 ⟨g1, (⟨hb, b, rfl, hbk⟩ | ⟨hb, v, H', m, z1, r1, ok, (⟨hd, rfl⟩ | ⟨hd, rfl⟩)⟩)⟩
  · have Q := hid (And.intro g1 (And.intro hb hbk))
    clear g1 hb hbk HC
    go_wp2
    go_ret2
    exact ⟨Q.out.1, Or.inl ⟨Q.out.2.1, b, rfl, Q.out.2.2⟩⟩
  · have Q := hid (And.intro g1 (And.intro hb (And.intro ok hd)))
    clear g1 hb z1 r1 ok hd HC
    unfold errV
    go_wp2
    go_ret2
    obtain ⟨g1, hb, ok, hd⟩ := Q.out
    exact ⟨g1, Or.inr ⟨hb, m, ok, Or.inl ⟨hd, rfl⟩⟩⟩
  · have PT := hid (oneText_q ns HND.out m H' v x w1 r1 z1 ok (by omega))
    obtain ⟨t1, b1, _, rfl, _⟩ := r1.val z1
    have Q := hid (And.intro g1 (And.intro hb (And.intro ok hd)))
    clear g1 hb z1 r1 ok hd HC
    go_wp2_with fail
    refine PT.out.mono ?_
    rintro e w2 ⟨rfl, g2⟩
    have G2 := hid g2
    clear g2 PT
    go_wp2
    go_ret2
    obtain ⟨g1, hb, ok, hd⟩ := Q.out
    exact ⟨g1.trans G2.out, Or.inr ⟨hb, m, ok, Or.inr ⟨hd, rfl⟩⟩⟩

set_option maxRecDepth 100000 in
theorem canon_qlong (s : ByteArray) (hs : 300 < s.size) (w : World) (bl : Addr) (hg : w.cell? ⟨0, 0, none⟩ = some (errV bl)) (hgl : 0 < w.heap.size) :
    Calls Tryz.prog 21 #[.string s] w fun e w' => e = .returned (.tuple #[.string (B []), errV bl]) ∧ w.grownBy w' none := by
  have HC := hid (read_qlong s hs w bl hg hgl)
  clear hg
  unfold errV at HC ⊢
  go_enter Tryz.func21, Tryz.ntmps21
  go_wp2_with (go_at_call 35; refine HC.out.mono ?_; rintro e w' ⟨rfl, g1⟩; have G1 := hid g1; clear g1)
  go_ret2
  exact ⟨rfl, G1.out⟩
end Go.Proofs.YtcdijppegfcoaabGreatDoor
