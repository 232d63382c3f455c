import Derived.Test.YtcdijppegfcoaaaGreatDoorZT06
/-
  OUR OWN TEXT. The program's reader: atoms, and what is applied.
-/
namespace Go.Proofs.YtcdijppegfcoaaaGreatDoor
open Go.RowKit
set_option maxRecDepth 100000 in
set_option maxHeartbeats 4000000 in
theorem atom_p (T : List Tok) (n : Nat) (hl : T.length ≤ 400) (hE : EXPP T n) (w : World) (rb : Nat) (s : ByteArray) (H : Nat → Option Obj) (st : St) (ex : Ex) (st' : St)
    (hs : atomS (expS T n) T st = some (ex, st')) (h : PSt exKw w rb s T st) (hz : Fz H w) (hr : H rb = none) :
    Calls Tryz.prog 181 #[rdV rb] w fun e w' => EOut w w' rb s T H st.k st' e ex := by
  have hlt := h.lt
  have hss := h.size
  have hneg := h.neg
  have hsl : s.data.toList.length = s.size := by rw [Array.length_toList]; rfl
  have HP := hid (h.alloc (.cells #[.pointer (some ⟨rb, 0, none⟩)] 182))
  have HZ := hid (hz.alloc (.cells #[.pointer (some ⟨rb, 0, none⟩)] 182))
  have HE := hid hE
  have HS := hid hs
  have K0 := hid ((Kept.refl rb w).alloc (.cells #[.pointer (some ⟨rb, 0, none⟩)] 182))
  clear h hz hE hs
  unfold rdV
  go_enter Tryz.func181, Tryz.ntmps181
  go_wp2_with fail
  refine (isName_p _ rb s T st HP.out).mono ?_
  rintro e w1 ⟨rfl, g1⟩
  have bx1 : w1.cell? ⟨w.heap.size, 0, none⟩ = some (.pointer (some ⟨rb, 0, none⟩)) := by
    rw [World.cell?_of_block (a := ⟨w.heap.size, 0, none⟩) (g1.block w.heap.size (by simp) (by simp))]
    simp [go_sem]
  have hw1 : w.heap.size < w1.heap.size := by have := g1.size; simp at this; omega
  have p1 := HP.out.grown g1
  have K1 := hid (K0.out.trans (Kept.of0 rb g1))
  have Z1 := hid (HZ.out.grown g1)
  clear g1 HP HZ K0
  obtain ⟨J, hat, hrd⟩ := p1.place
  have ha := asked exKw exKw_ok s.data.toList J hat.1
  have P1 := hid p1
  have hlt1 := p1.lt
  clear p1
  cases hi : isS T st kName with
  | true =>
    have hk := isS_is hi
    have hnx := hat.next exKw_ok (by rw [hk]; decide) (by rw [hk]; decide)
    have hre := ha.real (by rw [← hat.tk, hk]; decide) (by rw [← hat.tk, hk]; decide)
    have HN := hid hnx.1
    have HJ := hid (show J + (nxT s.data.toList J).length ≤ s.size by rw [← hsl]; exact hnx.2)
    have HT := hid (show nxT s.data.toList J = (tk T st.k).s by rw [hat.tk]; exact hre.1)
    have HO := hid (show (tk T st.k).pos = J by rw [hat.tk, ha.pos])
    have RD := hid hrd
    obtain ⟨_, _, _, c3, _, _, _⟩ := four_p hrd
    have e4 := HS.out
    unfold atomS at e4
    rw [if_pos (Or.inl hi)] at e4
    cases e4
    have HK := hid hk
    clear hat hrd ha hi hk hnx hre
    go_wp2_with fail
    go_region_with (first | (go_at_call 178; refine (above_0 _).mono ?_; rintro e wA ⟨rfl, gA⟩; have GA := hid gA; have bxA := (World.cell?_of_block (a := ⟨w.heap.size, 0, none⟩) (gA.block w.heap.size (by show _ < _; first | (show w.heap.size < w1.heap.size; omega) | omega) (by simp))).trans (by first | exact bx1 | assumption); clear gA) | (go_at_call 175; refine (take_p _ rb s J hss (by first | exact RD.out | exact Rdr.grown (w := w1.drew) RD.out GA.out) HJ.out).mono ?_; rintro e wT ⟨rfl, rT, kT⟩; have hwT : w1.heap.size ≤ wT.heap.size := (by first | exact kT.size | exact Nat.le_trans GA.out.size kT.size); have bxT := (kept_cell kT (b := w.heap.size) (o := 0) (by first | (show w.heap.size < w1.heap.size; omega) | (exact Nat.lt_of_lt_of_le hw1 GA.out.size)) (by omega)).trans (by first | exact bx1 | assumption); have RT := hid rT; have KT := hid kT; clear rT kT))
    all_goals
      go_wp2
      go_ret
      rw [HK.out, ← HT.out, HO.out]
      exact leaf_out ((K1.out.drew.trans (Kept.of0 rb GA.out)).trans KT.out) ⟨hneg, ⟨_, HN.out, RT.out⟩, hss⟩ ((Z1.out.drew.grown GA.out).kept KT.out hr) kName _ _ _ (Or.inl ⟨rfl, rfl⟩)
  | false =>
    have hn := ha.num
    rw [← hat.tk] at hn
    obtain ⟨c0, c1, c2, c3, f1, f2, f3⟩ := four_p hrd
    clear c0 c2 c3 f1 f2 f3
    by_cases hk3 : nxK s.data.toList J = 3
    · have hk := hn.1 hk3
      rw [hk3] at c1
      have hnx := hat.next exKw_ok (by rw [hk]; decide) (by rw [hk]; decide)
      have hre := ha.real (by rw [← hat.tk, hk]; decide) (by rw [← hat.tk, hk]; decide)
      have HN := hid hnx.1
      have HJ := hid (show J + (nxT s.data.toList J).length ≤ s.size by rw [← hsl]; exact hnx.2)
      have HT := hid (show nxT s.data.toList J = (tk T st.k).s by rw [hat.tk]; exact hre.1)
      have RD := hid hrd
      have e4 := HS.out
      unfold atomS at e4
      rw [if_pos (Or.inr (by simp [isS, hneg, hk]))] at e4
      cases e4
      have HK := hid hk
      clear hat hrd ha hi hk hnx hre hn hk3
      go_wp2_with fail
      go_region_with (first | (go_at_call 178; refine (above_0 _).mono ?_; rintro e wA ⟨rfl, gA⟩; have GA := hid gA; have bxA := (World.cell?_of_block (a := ⟨w.heap.size, 0, none⟩) (gA.block w.heap.size (by show _ < _; first | (show w.heap.size < w1.heap.size; omega) | omega) (by simp))).trans (by first | exact bx1 | assumption); clear gA) | (go_at_call 175; refine (take_p _ rb s J hss (by first | exact RD.out | exact Rdr.grown (w := w1.drew) RD.out GA.out) HJ.out).mono ?_; rintro e wT ⟨rfl, rT, kT⟩; have hwT : w1.heap.size ≤ wT.heap.size := (by first | exact kT.size | exact Nat.le_trans GA.out.size kT.size); have bxT := (kept_cell kT (b := w.heap.size) (o := 0) (by first | (show w.heap.size < w1.heap.size; omega) | (exact Nat.lt_of_lt_of_le hw1 GA.out.size)) (by omega)).trans (by first | exact bx1 | assumption); have RT := hid rT; have KT := hid kT; clear rT kT))
      all_goals
        go_wp2
        go_ret
        rw [HK.out, ← HT.out]
        exact leaf_out ((K1.out.drew.trans (Kept.of0 rb GA.out)).trans KT.out) ⟨hneg, ⟨_, HN.out, RT.out⟩, hss⟩ ((Z1.out.drew.grown GA.out).kept KT.out hr) kNum _ _ _ (Or.inr ⟨rfl, rfl⟩)
    · have hq : (((nxK s.data.toList J : Nat) : Int) == 3) = false := by simp; omega
      have hkn : isS T st kNum = false := by
        have : ¬ (tk T st.k).is = kNum := fun e => hk3 (hn.2 e)
        simp [isS, this]
      have e4 := HS.out
      unfold atomS at e4
      rw [if_neg (by rw [hi, hkn]; decide)] at e4
      have HA := hid e4
      clear hat hrd ha hi hn hk3 hkn e4
      generalize nxK s.data.toList J = kk at *
      go_wp2_with fail
      refine (must_p exKw exKw_ok _ rb s T st kOpen P1.out (Or.inr (by decide))).mono ?_
      rintro e w2 ⟨k2, (⟨rfl, p2⟩ | ⟨hb, b, rfl, hrf⟩)⟩
      case inr =>
        have e4 := HA.out
        cases hx : expS T n (needS T st kOpen) with
        | none => rw [hx] at e4; cases e4
        | some q =>
        obtain ⟨x, s1⟩ := q
        rw [hx] at e4
        have e5 := exp_bad_st hb hx
        rw [e5] at e4
        dsimp only at e4
        rw [if_neg (by rw [isS_bad hb]; decide), need_bad hb] at e4
        cases e4
        unfold refusal
        go_wp2
        exact ⟨rfl, K1.out.trans k2, Or.inr ⟨hb, b, rfl, hrf⟩⟩
      case inl =>
      have bx2 : w2.cell? ⟨w.heap.size, 0, none⟩ = some (.pointer (some ⟨rb, 0, none⟩)) := by
        rw [kept_cell k2 hw1 (by omega)]
        exact bx1
      have hw2 : w1.heap.size ≤ w2.heap.size := k2.size
      have hn := need_good p2.neg
      have P2 := hid p2
      have K2 := hid (K1.out.trans k2)
      have Z2 := hid (Z1.out.kept k2 hr)
      clear p2 k2 bx1
      have e4 := HA.out
      cases hx : expS T n (needS T st kOpen) with
      | none => rw [hx] at e4; cases e4
      | some q =>
      obtain ⟨x, s1⟩ := q
      rw [hx] at e4
      have HX := hid hx
      have HY := hid e4
      clear e4 hx c1
      go_wp2_with fail
      refine (bracketed_p T n hl HE.out _ rb s H _ x s1 ex st' (tk T st.k).pos HX.out HY.out P2.out Z2.out hr).mono ?_
      rintro e w3 ⟨k3, (⟨v2, H3, m2, rfl, p3, z3, e3, r3, d3⟩ | ⟨hb, b, rfl, hrf⟩)⟩
      case inr =>
        unfold refusal
        go_wp2
        exact ⟨rfl, K2.out.trans k3, Or.inr ⟨hb, b, rfl, hrf⟩⟩
      case inl =>
      have Q := hid (And.intro p3 (And.intro (K2.out.trans k3) (And.intro z3 (And.intro (e3.from (n := w.heap.size) (by omega)) (And.intro r3 d3)))))
      clear p3 k3 z3 e3 r3 d3
      go_wp2
      go_ret
      obtain ⟨p3, k3, z3, e3, r3, d3⟩ := Q.out
      exact ⟨k3, Or.inl ⟨_, H3, m2, rfl, p3, z3, e3, r3, by omega⟩⟩
end Go.Proofs.YtcdijppegfcoaaaGreatDoor
