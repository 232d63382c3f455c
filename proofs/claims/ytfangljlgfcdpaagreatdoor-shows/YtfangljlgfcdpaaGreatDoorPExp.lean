/-
  OUR OWN TEXT. The program's reader: exp, whole, by induction.
-/
import Derived.Test.YtfangljlgfcdpaaGreatDoorPRec
namespace Go.Proofs.YtfangljlgfcdpaaGreatDoor
open Go.RowKit

/-- The last call of exp hands on what it has. -/
theorem EOut.via {w w1 w' : World} {rb : Nat} {s : ByteArray} {T : List Tok} {H : Nat → Option Obj} {k0 k1 : Nat} {st' : St} {e : Ending} {ex : Ex} (hk : Kept rb w w1) (h : EOut w1 w' rb s T H k1 st' e ex) (hk0 : k0 ≤ k1) : EOut w w' rb s T H k0 st' e ex := by
  obtain ⟨h1, h2⟩ := h
  refine ⟨hk.trans h1, ?_⟩
  rcases h2 with ⟨v, H', m, q1, q2, q3, q4, q5, q6⟩ | h2
  · exact Or.inl ⟨v, H', m, q1, q2, q3, q4.from hk.size, q5, by omega⟩
  · exact Or.inr h2
theorem Kept.le {rb : Nat} {w w' : World} (h : Kept rb w w') : w.heap.size ≤ w'.heap.size := h.size

set_option maxRecDepth 100000 in
set_option maxHeartbeats 2000000 in
theorem exp_p (T : List Tok) (hl : T.length ≤ 400) : ∀ n, EXPP T n
  | 0 => fun w rb s H st ex st' hs => by simp [expS] at hs
  | n + 1 => fun w rb s H st ex st' hs h hz hr => by
    have hE := exp_p T hl n
    have hlt := h.lt
    have hneg := h.neg
    rw [expS, if_neg (by omega)] at hs
    have HP := hid (h.alloc (.cells #[.pointer (some ⟨rb, 0, none⟩)] 164))
    have HZ := hid (hz.alloc (.cells #[.pointer (some ⟨rb, 0, none⟩)] 164))
    have HE := hid hE
    have HS := hid hs
    have K0 := hid ((Kept.refl rb w).alloc (.cells #[.pointer (some ⟨rb, 0, none⟩)] 164))
    clear h hz hE hs
    unfold rdV
    go_enter Tryz.func87, Tryz.ntmps87
    go_wp2_with fail
    refine (skips_p exKw exKw_ok _ rb s T st kFun HP.out (Or.inl (by decide))).mono ?_
    rintro e w1 ⟨rfl, p1, k1⟩
    have bx1 : w1.cell? ⟨w.heap.size, 0, none⟩ = some (.pointer (some ⟨rb, 0, none⟩)) := by
      rw [kept_cell k1 (by simp) (by omega)]
      simp [go_sem]
    have hw1 : w.heap.size < w1.heap.size := by have := k1.size; simp at this; omega
    have K1 := hid (K0.out.trans k1)
    have Z1 := hid (HZ.out.kept k1 hr)
    clear HP HZ K0 k1
    cases h1 : isS T st kFun with
    | true =>
      rw [take_yes h1] at p1
      have e4 := HS.out
      rw [if_pos h1] at e4
      cases hx : expS T n (needS T (needS T st.up kName) kArrow) with
      | none => rw [hx] at e4; cases e4
      | some q =>
      obtain ⟨y, s4⟩ := q
      rw [hx] at e4
      cases e4
      have P1 := hid p1
      have HX := hid hx
      clear h1 hx p1
      go_wp2_with fail
      refine (fun_p T n hl HE.out _ rb s H st.up y st' (tk T st.k).pos HX.out P1.out Z1.out hr).mono ?_
      rintro e w2 ho
      have HO := hid (EOut.via (k0 := st.k) K1.out ho (by show st.k ≤ st.k + 1; omega))
      rcases ho with ⟨_, (⟨v, H', m, rfl, _⟩ | ⟨_, bb, rfl, _⟩)⟩
      · go_wp2
        go_ret
        exact HO.out
      · unfold refusal at HO ⊢
        go_wp2
        exact ⟨rfl, HO.out⟩
    | false =>
    rw [take_no h1] at p1
    have e4 := HS.out
    rw [if_neg (by rw [h1]; decide)] at e4
    have HS1 := hid e4
    have P1 := hid p1
    clear HS h1 p1 e4
    go_wp2_with fail
    refine (skips_p exKw exKw_ok _ rb s T st kIf P1.out (Or.inl (by decide))).mono ?_
    rintro e w2 ⟨rfl, p2, k2⟩
    have bx2 : w2.cell? ⟨w.heap.size, 0, none⟩ = some (.pointer (some ⟨rb, 0, none⟩)) := by
      rw [kept_cell k2 (by omega) (by omega)]
      exact bx1
    have hw2 : w1.heap.size ≤ w2.heap.size := k2.size
    have K2 := hid (K1.out.trans k2)
    have Z2 := hid (Z1.out.kept k2 hr)
    clear P1 K1 Z1 k2 bx1
    cases h1 : isS T st kIf with
    | true =>
      rw [take_yes h1] at p2
      have e4 := HS1.out
      rw [if_pos h1] at e4
      cases hx : expS T n st.up with
      | none => rw [hx] at e4; cases e4
      | some q =>
      obtain ⟨x, s1⟩ := q
      rw [hx] at e4
      dsimp only at e4
      cases hy : expS T n (needS T s1 kThen) with
      | none => rw [hy] at e4; cases e4
      | some q =>
      obtain ⟨y, s2⟩ := q
      rw [hy] at e4
      dsimp only at e4
      cases hw : expS T n (needS T s2 kElse) with
      | none => rw [hw] at e4; cases e4
      | some q =>
      obtain ⟨z, s3⟩ := q
      rw [hw] at e4
      cases e4
      have P2 := hid p2
      have HX := hid hx
      have HY := hid hy
      have HW := hid hw
      clear h1 hx hy hw p2
      go_wp2_with fail
      refine (choice_p T n hl HE.out _ rb s H st.up x y z s1 s2 st' (tk T st.k).pos HX.out HY.out HW.out P2.out Z2.out hr).mono ?_
      rintro e w3 ho
      have HO := hid (EOut.via (k0 := st.k) K2.out ho (by show st.k ≤ st.k + 1; omega))
      rcases ho with ⟨_, (⟨v, H', m, rfl, _⟩ | ⟨_, bb, rfl, _⟩)⟩
      · go_wp2
        go_ret
        exact HO.out
      · unfold refusal at HO ⊢
        go_wp2
        exact ⟨rfl, HO.out⟩
    | false =>
    rw [take_no h1] at p2
    have e4 := HS1.out
    rw [if_neg (by rw [h1]; decide)] at e4
    have HS2 := hid e4
    have P2 := hid p2
    clear HS1 h1 p2 e4
    go_wp2_with fail
    refine (skips_p exKw exKw_ok _ rb s T st kLet P2.out (Or.inl (by decide))).mono ?_
    rintro e w3 ⟨rfl, p3, k3⟩
    have bx3 : w3.cell? ⟨w.heap.size, 0, none⟩ = some (.pointer (some ⟨rb, 0, none⟩)) := by
      rw [kept_cell k3 (by omega) (by omega)]
      exact bx2
    have hw3 : w2.heap.size ≤ w3.heap.size := k3.size
    have K3 := hid (K2.out.trans k3)
    have Z3 := hid (Z2.out.kept k3 hr)
    clear P2 K2 Z2 k3 bx2
    cases h1 : isS T st kLet with
    | true =>
      rw [take_yes h1] at p3
      have e4 := HS2.out
      rw [if_pos h1] at e4
      have HS3 := hid e4
      have P3 := hid p3
      clear HS2 h1 p3 e4
      go_wp2_with fail
      refine (skips_p exKw exKw_ok _ rb s T st.up kRec P3.out (Or.inl (by decide))).mono ?_
      rintro e w4 ⟨rfl, p4, k4⟩
      have bx4 : w4.cell? ⟨w.heap.size, 0, none⟩ = some (.pointer (some ⟨rb, 0, none⟩)) := by
        rw [kept_cell k4 (by omega) (by omega)]
        exact bx3
      have hw4 : w3.heap.size ≤ w4.heap.size := k4.size
      have K4 := hid (K3.out.trans k4)
      have Z4 := hid (Z3.out.kept k4 hr)
      clear P3 K3 Z3 k4 bx3
      cases h1 : isS T st.up kRec with
      | true =>
        have e4 := HS3.out
        rw [if_pos h1] at e4
        cases hx : boundS (expS T n) T ⟨kRec, [], [], (tk T st.k).pos⟩ (takeS T st.up kRec) with
        | none => rw [hx] at e4; cases e4
        | some q =>
        obtain ⟨x, s1⟩ := q
        rw [hx] at e4
        dsimp only at e4
        cases hy : bindsS (expS T n) T (T.length + 1) x s1 with
        | none => rw [hy] at e4; cases e4
        | some q =>
        obtain ⟨y, s2⟩ := q
        rw [hy] at e4
        dsimp only at e4
        cases hw : expS T n (needS T s2 kIn) with
        | none => rw [hw] at e4; cases e4
        | some q =>
        obtain ⟨z, s3⟩ := q
        rw [hw] at e4
        cases e4
        rw [take_yes h1] at p4 hx
        have P4 := hid p4
        have HX := hid hx
        have HY := hid hy
        have HW := hid hw
        clear h1 hx hy hw p4
        go_wp2_with fail
        refine (letRec_p T n hl HE.out _ rb s H st.up.up x y z s1 s2 st' (tk T st.k).pos HX.out HY.out HW.out P4.out Z4.out hr).mono ?_
        rintro e w5 ho
        have HO := hid (EOut.via (k0 := st.k) K4.out ho (by show st.k ≤ st.k + 1 + 1; omega))
        rcases ho with ⟨_, (⟨v, H', m, rfl, _⟩ | ⟨_, bb, rfl, _⟩)⟩
        · go_wp2
          go_ret
          exact HO.out
        · unfold refusal at HO ⊢
          go_wp2
          exact ⟨rfl, HO.out⟩
      | false =>
        have e4 := HS3.out
        rw [if_neg (by rw [h1]; decide), take_no h1] at e4
        rw [take_no h1] at p4
        unfold boundS at e4
        rw [twice_same (by simp)] at e4
        dsimp only at e4
        cases hx : expS T n (needS T (needS T st.up kName) kEq) with
        | none => rw [hx] at e4; cases e4
        | some q =>
        obtain ⟨x, s1⟩ := q
        rw [hx] at e4
        dsimp only at e4
        have e2 : bindsS (expS T n) T (T.length + 1) ⟨kLet, [] ++ [(tk T st.up.k).s], [] ++ [x], (tk T st.k).pos⟩ s1 = some (⟨kLet, [] ++ [(tk T st.up.k).s], [] ++ [x], (tk T st.k).pos⟩, s1) := by
          rw [bindsS, if_neg]
          rintro ⟨e, _⟩
          exact absurd e (by show ¬ kLet = kRec; decide)
        rw [e2] at e4
        dsimp only at e4
        cases hw : expS T n (needS T s1 kIn) with
        | none => rw [hw] at e4; cases e4
        | some q =>
        obtain ⟨z, s3⟩ := q
        rw [hw] at e4
        cases e4
        have P4 := hid p4
        have HX := hid hx
        have HW := hid hw
        clear h1 hx hw p4 e2
        go_wp2_with fail
        refine (let_p T n hl HE.out _ rb s H st.up x z s1 st' (tk T st.k).pos HX.out HW.out P4.out Z4.out hr).mono ?_
        rintro e w5 ho
        have HO := hid (EOut.via (k0 := st.k) K4.out ho (by show st.k ≤ st.k + 1; omega))
        rcases ho with ⟨_, (⟨v, H', m, rfl, _⟩ | ⟨_, bb, rfl, _⟩)⟩
        · go_wp2
          go_ret
          exact HO.out
        · unfold refusal at HO ⊢
          go_wp2
          exact ⟨rfl, HO.out⟩
    | false =>
    rw [take_no h1] at p3
    have e4 := HS2.out
    rw [if_neg (by rw [h1]; decide)] at e4
    cases hx : atomS (expS T n) T st with
    | none => rw [hx] at e4; cases e4
    | some q =>
    obtain ⟨x, s1⟩ := q
    rw [hx] at e4
    have P3 := hid p3
    have HX := hid hx
    have HA := hid e4
    clear h1 hx p3 e4 HS2
    go_wp2_with fail
    refine (applied_p T n hl HE.out _ rb s H st x s1 ex st' HX.out HA.out P3.out Z3.out hr).mono ?_
    rintro e w5 ho
    have HO := hid (EOut.via (k0 := st.k) K3.out ho (Nat.le_refl _))
    rcases ho with ⟨_, (⟨v, H', m, rfl, _⟩ | ⟨_, bb, rfl, _⟩)⟩
    · go_wp2
      go_ret
      exact HO.out
    · unfold refusal at HO ⊢
      go_wp2
      exact ⟨rfl, HO.out⟩
end Go.Proofs.YtfangljlgfcdpaaGreatDoor
