import Derived.Test.YtcdijppegfcoaabGreatDoorZC02
import Derived.Test.YtcdijppegfcoaabGreatDoorZC09
import Derived.Defers
import Derived.Recover
import Derived.Test.YtcdijppegfcoaabGreatDoorZC26
import Derived.WideMake
import Derived.Carry
import Derived.Laws.IdiomRangeMap
import Derived.Test.YtcdijppegfcoaabGreatDoorZC00
set_option maxRecDepth 100000
set_option maxHeartbeats 4000000
namespace Go.Proofs.YtcdijppegfcoaabGreatDoor
open Go.RowKit
theorem bracketed_q (T : List Tok) (n : Nat) (hE : WHQ T n) (w : World) (rb : Nat) (s : ByteArray) (H : Nat → Option Obj) (ns : List (List UInt8)) (st : St) (x : Ty) (n1 : List (List UInt8)) (s1 : St) (t : Ty) (ns' : List (List UInt8)) (st' : St)
    (hx : arrS T n ns st = some (x,n1,s1)) (hy : (if isS T s1 kComma = true then match arrS T n n1 s1.up with
        | none => none
        | some (y,n2,s2) => some (⟨oPair,0,[x,y]⟩,n2,needS T s2 kShut)
      else some (x,n1,needS T s1 kShut)) = some (t,ns',st')) (h : PSt tyKw w rb s T st) (hz : Fz H w) (hr : H rb = none) :
    Calls Tryz.prog 127 #[rdV rb] w fun e w' => TOut w w' rb s T H ns' st' e t := by
  have hlt := h.lt
  have HP := hid (h.alloc (.cells #[.pointer (some ⟨rb,0,none⟩)] 119))
  have HZ := hid (hz.alloc (.cells #[.pointer (some ⟨rb,0,none⟩)] 119))
  have HE := hid hE
  have HX := hid hx
  have HY := hid hy
  have K0 := hid ((Kept.refl rb w).alloc (.cells #[.pointer (some ⟨rb,0,none⟩)] 119))
  clear h hz hE hx hy
  unfold rdV
  go_enter Tryz.func127,Tryz.ntmps127
  go_wp2_with fail
  refine (HE.out _ rb s H ns st x n1 s1 HX.out HP.out HZ.out hr).mono ?_
  rintro e w1 ⟨k1,(⟨v1,H1,m1,rfl,p1,z1,e1,r1⟩ | ⟨hb,b,rfl,hrf⟩)⟩
  case inr =>
    have e4 := HY.out
    rw [if_neg (by rw [isS_bad hb]; decide),need_bad hb] at e4
    cases e4
    unfold refusal
    go_wp2
    exact ⟨rfl,K0.out.trans k1,Or.inr ⟨hb,b,rfl,hrf⟩⟩
  case inl =>
  obtain ⟨t1,b1,ht1,rfl,hb1⟩ := r1.val z1
  have bx1 : w1.cell? ⟨w.heap.size,0,none⟩ = some (.pointer (some ⟨rb,0,none⟩)) := by
    rw [kept_cell k1 (by simp) (by omega)]
    simp [go_sem]
  have hw1 : w.heap.size < w1.heap.size := by have := k1.size; simp at this; omega
  have hr1 : H1 rb = none := by rw [e1.2 rb (by simp; omega)]; exact hr
  have P1 := hid p1
  have K1 := hid (K0.out.trans k1)
  have Z1 := hid z1
  have E1 := hid (e1.from (n := w.heap.size) (by simp))
  have R1 := hid r1
  clear p1 k1 z1 e1 r1 hb1 ht1
  go_wp2_with fail
  refine (skips_p tyKw tyKw_ok _ rb s T s1 kComma P1.out (Or.inr (by decide))).mono ?_
  rintro e w2 ⟨rfl,p2,k2⟩
  have bx2 : w2.cell? ⟨w.heap.size,0,none⟩ = some (.pointer (some ⟨rb,0,none⟩)) := by
    rw [kept_cell k2 hw1 (by omega)]
    exact bx1
  have hw2 : w1.heap.size ≤ w2.heap.size := k2.size
  have P2 := hid p2
  have K2 := hid (K1.out.trans k2)
  have Z2 := hid (Z1.out.kept k2 hr1)
  clear p2 k2 bx1
  cases hi : isS T s1 kComma with
  | false =>
    have p2 := P2.out
    rw [take_no hi] at p2
    have P2' := hid p2
    have e4 := HY.out
    rw [if_neg (by rw [hi]; decide)] at e4
    cases e4
    clear hi p2
    go_wp2_with fail
    refine (must_p tyKw tyKw_ok _ rb s T s1 kShut P2'.out (Or.inr (by decide))).mono ?_
    rintro e w3 ⟨k3,(⟨rfl,p3⟩ | ⟨hb,b,rfl,hrf⟩)⟩
    case inr =>
      unfold refusal
      go_wp2
      exact ⟨rfl,K2.out.trans k3,Or.inr ⟨hb,b,rfl,hrf⟩⟩
    case inl =>
      have Q := hid (And.intro p3 k3)
      clear p3 k3
      go_wp2
      go_ret
      exact ⟨K2.out.trans Q.out.2,Or.inl ⟨_,H1,m1,rfl,Q.out.1,Z2.out.kept Q.out.2 hr1,E1.out,R1.out⟩⟩
  | true =>
    have p2 := P2.out
    rw [take_yes hi] at p2
    have P2' := hid p2
    have e4 := HY.out
    rw [if_pos hi] at e4
    cases hey : arrS T n n1 s1.up with
    | none => rw [hey] at e4; cases e4
    | some q =>
    obtain ⟨y,n2,s2⟩ := q
    rw [hey] at e4
    cases e4
    have HEY := hid hey
    clear hi p2 hey
    go_wp2_with fail
    refine (HE.out _ rb s H1 n1 _ y _ s2 HEY.out P2'.out Z2.out hr1).mono ?_
    rintro e w3 ⟨k3,(⟨v2,H3,m2,rfl,p3,z3,e3,r3⟩ | ⟨hb,b,rfl,hrf⟩)⟩
    case inr =>
      unfold refusal
      go_wp2
      exact ⟨rfl,K2.out.trans k3,Or.inr ⟨by rw [need_bad hb]; exact hb,b,rfl,by rw [need_bad hb]; exact hrf⟩⟩
    case inl =>
    obtain ⟨t2,b2,ht2,rfl,hb2⟩ := r3.val z3
    have bx3 : w3.cell? ⟨w.heap.size,0,none⟩ = some (.pointer (some ⟨rb,0,none⟩)) := by
      rw [kept_cell k3 (by omega) (by omega)]
      exact bx2
    have hw3 : w2.heap.size ≤ w3.heap.size := k3.size
    have hr3 : H3 rb = none := by rw [e3.2 rb (by omega)]; exact hr1
    have P3 := hid p3
    have K3 := hid (K2.out.trans k3)
    have Z3 := hid z3
    have E3 := hid (e3.from (n := w.heap.size) (by omega))
    have R3 := hid r3
    clear p3 k3 z3 e3 r3 hb2 ht2 bx2
    go_wp2_with fail
    refine (must_p tyKw tyKw_ok _ rb s T s2 kShut P3.out (Or.inr (by decide))).mono ?_
    rintro e w4 ⟨k4,(⟨rfl,p4⟩ | ⟨hb,b,rfl,hrf⟩)⟩
    case inr =>
      unfold refusal
      go_wp2
      exact ⟨rfl,K3.out.trans k4,Or.inr ⟨hb,b,rfl,hrf⟩⟩
    case inl =>
    have hw4 : w3.heap.size ≤ w4.heap.size := k4.size
    have Z4 := hid (Z3.out.kept k4 hr3)
    have P4 := hid p4
    have K4 := hid (K3.out.trans k4)
    clear p4 k4 bx3
    go_wp2
    go_ret
    obtain ⟨H7,z7,x7,h7⟩ := q_new Z4.out #[(.iface t1 (.pointer (some ⟨b1,0,none⟩))),(.iface t2 (.pointer (some ⟨b2,0,none⟩)))] 319
    have pre := arr_pre _ _ _ _ _ _ HEY.out
    refine ⟨K4.out.alloc _,Or.inl ⟨_,H7,max m1 m2 + 1,rfl,P4.out.alloc _,z7,(E1.out.trans E3.out (Nat.le_refl _)).trans x7 (by omega),w4.heap.size,Or.inr (Or.inr (Or.inr (Or.inl ⟨rfl,x,y,(.iface t1 (.pointer (some ⟨b1,0,none⟩))),(.iface t2 (.pointer (some ⟨b2,0,none⟩))),rfl,rfl,h7,?_,?_⟩)))⟩⟩
    · exact (QRep.ext x7 _ _ _ (QRep.ext E3.out _ _ _ (QRep.wide pre _ _ _ R1.out))).le (by omega)
    · exact (QRep.ext x7 _ _ _ R3.out).le (by omega)
theorem whole_q (T : List Tok) (n : Nat) (hO : ONQ T n) (hE : WHQ T n) : WHQ T (n + 1) := by
  intro w rb s H ns st t ns' st' hs h hz hr
  have hlt := h.lt
  have HP := hid (h.alloc (.cells #[.pointer (some ⟨rb,0,none⟩)] 119))
  have HZ := hid (hz.alloc (.cells #[.pointer (some ⟨rb,0,none⟩)] 119))
  have HE := hid hE
  have HO := hid hO
  rw [arrS] at hs
  cases hx : oneS (arrS T n) T ns st with
  | none => rw [hx] at hs; cases hs
  | some q =>
  obtain ⟨x,n1,s1⟩ := q
  rw [hx] at hs
  simp only at hs
  have HX := hid hx
  have HY := hid hs
  have K0 := hid ((Kept.refl rb w).alloc (.cells #[.pointer (some ⟨rb,0,none⟩)] 119))
  clear h hz hE hx hs hO
  unfold rdV
  go_enter Tryz.func52,Tryz.ntmps52
  go_wp2_with fail
  refine (HO.out _ rb s H ns st x n1 s1 HX.out HP.out HZ.out hr).mono ?_
  rintro e w1 ⟨k1,(⟨v1,H1,m1,rfl,p1,z1,e1,r1⟩ | ⟨hb,b,rfl,hrf⟩)⟩
  case inr =>
    have e4 := HY.out
    rw [if_neg (by rw [isS_bad hb]; decide)] at e4
    cases e4
    unfold refusal
    go_wp2
    exact ⟨rfl,K0.out.trans k1,Or.inr ⟨hb,b,rfl,hrf⟩⟩
  case inl =>
  obtain ⟨t1,b1,ht1,rfl,hb1⟩ := r1.val z1
  have bx1 : w1.cell? ⟨w.heap.size,0,none⟩ = some (.pointer (some ⟨rb,0,none⟩)) := by
    rw [kept_cell k1 (by simp) (by omega)]
    simp [go_sem]
  have hw1 : w.heap.size < w1.heap.size := by have := k1.size; simp at this; omega
  have hr1 : H1 rb = none := by rw [e1.2 rb (by simp; omega)]; exact hr
  have P1 := hid p1
  have K1 := hid (K0.out.trans k1)
  have Z1 := hid z1
  have E1 := hid (e1.from (n := w.heap.size) (by simp))
  have R1 := hid r1
  clear p1 k1 z1 e1 r1 hb1 ht1
  go_wp2_with fail
  refine (skips_p tyKw tyKw_ok _ rb s T s1 kArrow P1.out (Or.inr (by decide))).mono ?_
  rintro e w2 ⟨rfl,p2,k2⟩
  have bx2 : w2.cell? ⟨w.heap.size,0,none⟩ = some (.pointer (some ⟨rb,0,none⟩)) := by
    rw [kept_cell k2 hw1 (by omega)]
    exact bx1
  have hw2 : w1.heap.size ≤ w2.heap.size := k2.size
  have P2 := hid p2
  have K2 := hid (K1.out.trans k2)
  have Z2 := hid (Z1.out.kept k2 hr1)
  clear p2 k2 bx1
  cases hi : isS T s1 kArrow with
  | false =>
    have p2 := P2.out
    rw [take_no hi] at p2
    have P2' := hid p2
    have e4 := HY.out
    rw [if_neg (by rw [hi]; decide)] at e4
    cases e4
    clear hi p2
    go_wp2
    go_ret
    exact ⟨K2.out,Or.inl ⟨_,H1,m1,rfl,P2'.out,Z2.out,E1.out,R1.out⟩⟩
  | true =>
    have p2 := P2.out
    rw [take_yes hi] at p2
    have P2' := hid p2
    have e4 := HY.out
    rw [if_pos hi] at e4
    cases hey : arrS T n n1 s1.up with
    | none => rw [hey] at e4; cases e4
    | some q =>
    obtain ⟨y,n2,s2⟩ := q
    rw [hey] at e4
    cases e4
    have HEY := hid hey
    clear hi p2 hey
    go_wp2_with fail
    refine (HE.out _ rb s H1 n1 _ y _ _ HEY.out P2'.out Z2.out hr1).mono ?_
    rintro e w3 ⟨k3,(⟨v2,H3,m2,rfl,p3,z3,e3,r3⟩ | ⟨hb,b,rfl,hrf⟩)⟩
    case inr =>
      unfold refusal
      go_wp2
      exact ⟨rfl,K2.out.trans k3,Or.inr ⟨hb,b,rfl,hrf⟩⟩
    case inl =>
    obtain ⟨t2,b2,ht2,rfl,hb2⟩ := r3.val z3
    have hw3 : w2.heap.size ≤ w3.heap.size := k3.size
    have P3 := hid p3
    have K3 := hid (K2.out.trans k3)
    have Z3 := hid z3
    have E3 := hid (e3.from (n := w.heap.size) (by omega))
    have R3 := hid r3
    clear p3 k3 z3 e3 r3 hb2 ht2 bx2
    go_wp2
    go_ret
    obtain ⟨H7,z7,x7,h7⟩ := q_new Z3.out #[(.iface t1 (.pointer (some ⟨b1,0,none⟩))),(.iface t2 (.pointer (some ⟨b2,0,none⟩)))] 211
    have pre := arr_pre _ _ _ _ _ _ HEY.out
    refine ⟨K3.out.alloc _,Or.inl ⟨_,H7,max m1 m2 + 1,rfl,P3.out.alloc _,z7,(E1.out.trans E3.out (Nat.le_refl _)).trans x7 (by omega),w3.heap.size,Or.inr (Or.inr (Or.inr (Or.inr ⟨rfl,x,y,(.iface t1 (.pointer (some ⟨b1,0,none⟩))),(.iface t2 (.pointer (some ⟨b2,0,none⟩))),rfl,rfl,h7,?_,?_⟩)))⟩⟩
    · exact (QRep.ext x7 _ _ _ (QRep.ext E3.out _ _ _ (QRep.wide pre _ _ _ R1.out))).le (by omega)
    · exact (QRep.ext x7 _ _ _ R3.out).le (by omega)
theorem need_same {T : List Tok} {st : St} {x y : List UInt8} (hx : isS T st x = false) (hy : isS T st y = false) : needS T st x = needS T st y := by
  have hx' : ¬ isS T st x = true := by rw [hx]; decide
  have hy' : ¬ isS T st y = true := by rw [hy]; decide
  simp only [needS,if_neg hx',if_neg hy']
theorem one_q (T : List Tok) (n : Nat) (hE : WHQ T n) : ONQ T n := by
  intro w rb s H ns st t ns' st' hs h hz hr
  have hlt := h.lt
  have hss := h.size
  have hneg := h.neg
  have hsl : s.data.toList.length = s.size := by rw [Array.length_toList]; rfl
  have HP := hid (h.alloc (.cells #[.pointer (some ⟨rb,0,none⟩)] 119))
  have HZ := hid (hz.alloc (.cells #[.pointer (some ⟨rb,0,none⟩)] 119))
  have HE := hid hE
  have HS := hid hs
  have K0 := hid ((Kept.refl rb w).alloc (.cells #[.pointer (some ⟨rb,0,none⟩)] 119))
  clear h hz hE hs
  unfold rdV
  go_enter Tryz.func84,Tryz.ntmps84
  go_wp2_with fail
  refine (skips_p tyKw tyKw_ok _ rb s T st kInt HP.out (Or.inl (by decide))).mono ?_
  rintro e w1 ⟨rfl,p1,k1⟩
  have bx1 : w1.cell? ⟨w.heap.size,0,none⟩ = some (.pointer (some ⟨rb,0,none⟩)) := by
    rw [kept_cell k1 (by simp) (by omega)]
    simp [go_sem]
  have hw1 : w.heap.size < w1.heap.size := by have := k1.size; simp at this; omega
  have P1 := hid p1
  have K1 := hid (K0.out.trans k1)
  have Z1 := hid (HZ.out.kept k1 hr)
  clear p1 k1
  cases hi : isS T st kInt with
  | true =>
    have p := P1.out
    rw [take_yes hi] at p
    have P := hid p
    have e4 := HS.out
    unfold oneS at e4
    rw [if_pos hi] at e4
    cases e4
    clear hi p
    go_wp2
    go_ret
    obtain ⟨H7,z7,x7,h7⟩ := q_new Z1.out #[.string (B kInt)] 277
    exact ⟨K1.out.alloc _,Or.inl ⟨_,H7,1,rfl,P.out.alloc _,z7,x7.from (by omega),w1.heap.size,Or.inr (Or.inl ⟨Or.inl rfl,rfl,rfl,h7⟩)⟩⟩
  | false =>
  have HI0 := hid hi
  have p := P1.out
  rw [take_no hi] at p
  have P1' := hid p
  clear hi p P1
  go_wp2_with fail
  refine (skips_p tyKw tyKw_ok _ rb s T st kBool P1'.out (Or.inl (by decide))).mono ?_
  rintro e w2 ⟨rfl,p2,k2⟩
  have bx2 : w2.cell? ⟨w.heap.size,0,none⟩ = some (.pointer (some ⟨rb,0,none⟩)) := by
    rw [kept_cell k2 (by omega) (by omega)]
    exact bx1
  have hw2 : w1.heap.size ≤ w2.heap.size := k2.size
  have P2 := hid p2
  have K2 := hid (K1.out.trans k2)
  have Z2 := hid (Z1.out.kept k2 hr)
  clear p2 k2 bx1
  cases hi : isS T st kBool with
  | true =>
    have p := P2.out
    rw [take_yes hi] at p
    have P := hid p
    have e4 := HS.out
    unfold oneS at e4
    rw [if_neg (by rw [HI0.out]; decide),if_pos hi] at e4
    cases e4
    clear hi p
    go_wp2
    go_ret
    obtain ⟨H7,z7,x7,h7⟩ := q_new Z2.out #[.string (B kBool)] 277
    exact ⟨K2.out.alloc _,Or.inl ⟨_,H7,1,rfl,P.out.alloc _,z7,x7.from (by omega),w2.heap.size,Or.inr (Or.inl ⟨Or.inr rfl,rfl,rfl,h7⟩)⟩⟩
  | false =>
  have HI1 := hid hi
  have p := P2.out
  rw [take_no hi] at p
  clear hi P2
  obtain ⟨J,hat,hrd⟩ := p.place
  have ha := asked tyKw tyKw_ok s.data.toList J hat.1
  have P2' := hid p
  have hlt2 := p.lt
  clear p
  have hnm := ha.name
  rw [← hat.tk] at hnm
  have hwd : ∀ x,x ∈ tyKw → (nxT s.data.toList J = x ↔ (tk T st.k).is = x) := fun x hx => by rw [hat.tk]; exact ha.word x hx
  have hnokw : nxT s.data.toList J ∉ tyKw := fun hx => by
    have e := (hwd _ hx).1 rfl
    have hx' := hx
    simp only [tyKw,List.mem_cons,List.not_mem_nil,or_false] at hx'
    rcases hx' with e2 | e2
    · have := HI0.out
      rw [e2] at e
      simp [isS,hneg,e] at this
    · have := HI1.out
      rw [e2] at e
      simp [isS,hneg,e] at this
  obtain ⟨c0,c1,c2,c3,f1,f2,f3⟩ := four_p hrd
  clear c0 c2 c3 f1 f2 f3 hwd
  by_cases hk2 : nxK s.data.toList J = 2
  · have hk := hnm.1 ⟨hk2,hnokw⟩
    rw [hk2] at c1
    have hnx := hat.next tyKw_ok (by rw [hk]; decide) (by rw [hk]; decide)
    have hre := ha.real (by rw [← hat.tk,hk]; decide) (by rw [← hat.tk,hk]; decide)
    have HN := hid hnx.1
    have HJ := hid (show J + (nxT s.data.toList J).length ≤ s.size by rw [← hsl]; exact hnx.2)
    have HT := hid (show nxT s.data.toList J = (tk T st.k).s by rw [hat.tk]; exact hre.1)
    have RD := hid hrd
    have e4 := HS.out
    unfold oneS at e4
    have hi3 : isS T st kSq = false := by simp [isS,hk]; intro _; decide
    have hi4 : isS T st kOpen = false := by simp [isS,hk]; intro _; decide
    have hi5 : isS T st kName = true := by simp [isS,hneg,hk]
    rw [if_neg (by rw [HI0.out]; decide),if_neg (by rw [HI1.out]; decide),if_neg (by rw [hi3]; decide),if_neg (by rw [hi4]; decide),need_yes hi5,take_yes hi5] at e4
    cases e4
    clear hat hrd ha hk hnx hre hi3 hi4 hi5 hk2 hnm hnokw
    go_wp2_with (go_at_call 125; refine (take_p _ rb s J hss RD.out HJ.out).mono ?_; rintro e wT ⟨rfl,rT,kT⟩; have hwT : w2.heap.size ≤ wT.heap.size := kT.size; have RT := hid rT; have KT := hid kT; clear rT kT)
    go_ret
    obtain ⟨g1,g2,g3⟩ := num_get ns (tk T st.k).s
    obtain ⟨H7,z7,x7,h7⟩ := q_new (Z2.out.kept KT.out hr) #[.string (B (nxT s.data.toList J))] 246
    rw [HT.out] at h7 z7
    rw [HT.out]
    exact ⟨(K2.out.trans KT.out).alloc _,Or.inl ⟨_,H7,1,rfl,PSt.alloc (st := st.up) ⟨hneg,⟨_,HN.out,RT.out⟩,hss⟩ _,z7,x7.from (by omega),wT.heap.size,Or.inl ⟨rfl,rfl,⟨g1,by rw [g2,← HT.out]; have := HJ.out; omega⟩,rfl,by rw [g2]; exact h7⟩⟩⟩
  · have hq : (((nxK s.data.toList J : Nat) : Int) == 2) = false := by simp; omega
    have hi5 : isS T st kName = false := by
      have : ¬ (tk T st.k).is = kName := fun e => hk2 (hnm.2 e).1
      simp [isS,this]
    have HI5 := hid hi5
    clear hi5 hnm hnokw hk2 hrd ha hat
    generalize nxK s.data.toList J = kk at *
    go_wp2_with fail
    refine (skips_p tyKw tyKw_ok _ rb s T st kSq P2'.out (Or.inr (by decide))).mono ?_
    rintro e w3 ⟨rfl,p3,k3⟩
    have bx3 : w3.cell? ⟨w.heap.size,0,none⟩ = some (.pointer (some ⟨rb,0,none⟩)) := by
      rw [kept_cell k3 (by omega) (by omega)]
      exact bx2
    have hw3 : w2.heap.size ≤ w3.heap.size := k3.size
    have P3 := hid p3
    have K3 := hid (K2.out.trans k3)
    have Z3 := hid (Z2.out.kept k3 hr)
    clear p3 k3 bx2 c1 hq
    cases hi : isS T st kSq with
    | true =>
      have p := P3.out
      rw [take_yes hi] at p
      have P := hid p
      have e4 := HS.out
      unfold oneS at e4
      rw [if_neg (by rw [HI0.out]; decide),if_neg (by rw [HI1.out]; decide),if_pos hi] at e4
      cases hx : arrS T n ns st.up with
      | none => rw [hx] at e4; cases e4
      | some q =>
      obtain ⟨x,n1,s1⟩ := q
      rw [hx] at e4
      cases e4
      have HX := hid hx
      clear hi p hx
      go_wp2_with fail
      refine (HE.out _ rb s H ns _ x _ s1 HX.out P.out Z3.out hr).mono ?_
      rintro e w4 ⟨k4,(⟨v1,H1,m1,rfl,p4,z4,e4,r4⟩ | ⟨hb,b,rfl,hrf⟩)⟩
      case inr =>
        unfold refusal
        go_wp2
        exact ⟨rfl,K3.out.trans k4,Or.inr ⟨by rw [need_bad hb]; exact hb,b,rfl,by rw [need_bad hb]; exact hrf⟩⟩
      case inl =>
      obtain ⟨t1,b1,ht1,rfl,hb1⟩ := r4.val z4
      have bx4 : w4.cell? ⟨w.heap.size,0,none⟩ = some (.pointer (some ⟨rb,0,none⟩)) := by
        rw [kept_cell k4 (by omega) (by omega)]
        exact bx3
      have hw4 : w3.heap.size ≤ w4.heap.size := k4.size
      have hr4 : H1 rb = none := by rw [e4.2 rb (by omega)]; exact hr
      have P4 := hid p4
      have K4 := hid (K3.out.trans k4)
      have Z4 := hid z4
      have E4 := hid (e4.from (n := w.heap.size) (by omega))
      have R4 := hid r4
      clear p4 k4 z4 e4 r4 hb1 ht1 bx3
      go_wp2_with fail
      refine (must_p tyKw tyKw_ok _ rb s T s1 kQs P4.out (Or.inr (by decide))).mono ?_
      rintro e w5 ⟨k5,(⟨rfl,p5⟩ | ⟨hb,b,rfl,hrf⟩)⟩
      case inr =>
        unfold refusal
        go_wp2
        exact ⟨rfl,K4.out.trans k5,Or.inr ⟨hb,b,rfl,hrf⟩⟩
      case inl =>
      have hw5 : w4.heap.size ≤ w5.heap.size := k5.size
      have Z5 := hid (Z4.out.kept k5 hr4)
      have P5 := hid p5
      have K5 := hid (K4.out.trans k5)
      clear p5 k5 bx4
      go_wp2
      go_ret
      obtain ⟨H7,z7,x7,h7⟩ := q_new Z5.out #[(.iface t1 (.pointer (some ⟨b1,0,none⟩)))] 281
      exact ⟨K5.out.alloc _,Or.inl ⟨_,H7,m1 + 1,rfl,P5.out.alloc _,z7,E4.out.trans x7 (by omega),w5.heap.size,Or.inr (Or.inr (Or.inl ⟨rfl,x,(.iface t1 (.pointer (some ⟨b1,0,none⟩))),rfl,rfl,h7,QRep.ext x7 _ _ _ R4.out⟩))⟩⟩
    | false =>
      have HI3 := hid hi
      have p := P3.out
      rw [take_no hi] at p
      have P := hid p
      clear hi p
      go_wp2_with fail
      refine (must_p tyKw tyKw_ok _ rb s T st kOpen P.out (Or.inr (by decide))).mono ?_
      rintro e w4 ⟨k4,(⟨rfl,p4⟩ | ⟨hb,b,rfl,hrf⟩)⟩
      case inr =>
        have e4 := HS.out
        unfold oneS at e4
        have hi4 : isS T st kOpen = false := by
          cases h : isS T st kOpen with
          | false => rfl
          | true =>
            rw [need_yes h,take_yes h] at hb
            exact absurd hb (by show ¬ 0 ≤ st.bad; omega)
        rw [if_neg (by rw [HI0.out]; decide),if_neg (by rw [HI1.out]; decide),if_neg (by rw [HI3.out]; decide),if_neg (by rw [hi4]; decide),need_same HI5.out hi4] at e4
        cases e4
        unfold refusal
        go_wp2
        exact ⟨rfl,K3.out.trans k4,Or.inr ⟨hb,b,rfl,hrf⟩⟩
      case inl =>
      have hi4 : isS T st kOpen = true := by
        cases h : isS T st kOpen with
        | true => rfl
        | false =>
          have := p4.neg
          rw [need_no hneg h] at this
          exact absurd this (by show ¬ ((tk T st.k).pos : Int) < 0; omega)
      rw [need_yes hi4,take_yes hi4] at p4
      have bx4 : w4.cell? ⟨w.heap.size,0,none⟩ = some (.pointer (some ⟨rb,0,none⟩)) := by
        rw [kept_cell k4 (by omega) (by omega)]
        exact bx3
      have hw4 : w3.heap.size ≤ w4.heap.size := k4.size
      have e4 := HS.out
      unfold oneS at e4
      rw [if_neg (by rw [HI0.out]; decide),if_neg (by rw [HI1.out]; decide),if_neg (by rw [HI3.out]; decide),if_pos hi4] at e4
      cases hx : arrS T n ns st.up with
      | none => rw [hx] at e4; cases e4
      | some q =>
      obtain ⟨x,n1,s1⟩ := q
      rw [hx] at e4
      simp only at e4
      have CB := hid (bracketed_q T n HE.out w4 rb s H ns _ x n1 s1 t ns' st' hx e4 p4 (Z3.out.kept k4 hr) hr)
      unfold rdV at CB
      have K4 := hid (K3.out.trans k4)
      clear e4 hx p4 k4 hi4 bx3
      go_wp2_with fail
      refine CB.out.mono ?_
      rintro e w5 ho
      have HO := hid ho
      rcases ho with ⟨_,(⟨v,H',m,rfl,_⟩ | ⟨_,bb,rfl,_⟩)⟩
      · go_wp2
        go_ret
        obtain ⟨k5,ho⟩ := HO.out
        refine ⟨K4.out.trans k5,?_⟩
        rcases ho with ⟨v,H',m,q1,q2,q3,q4,q5⟩ | ho
        · exact Or.inl ⟨v,H',m,q1,q2,q3,q4.from (by omega),q5⟩
        · exact Or.inr ho
      · unfold refusal at HO ⊢
        go_wp2
        obtain ⟨k5,ho⟩ := HO.out
        refine ⟨rfl,K4.out.trans k5,?_⟩
        rcases ho with ⟨v,H',m,q1,q2,q3,q4,q5⟩ | ho
        · cases q1
        · exact Or.inr ho
theorem whole_all (T : List Tok) : ∀ n,WHQ T n
  | 0 => fun w rb s H ns st t ns' st' hs => by cases hs
  | n + 1 => whole_q T n (one_q T n (whole_all T n)) (whole_all T n)
theorem catch_idleQ (p q : Addr) (w : World) :
    CallsD Tryz.prog 81 #[.pointer (some p),.pointer (some q)] .returning w fun e u' w' => e = .returned (.tuple #[]) ∧ u' = .returning ∧ w' = w := by
  refine callsD_of_wpS Tryz.func81 rfl fun c₀ cs hu => ?_
  apply wpS_seq
  apply wpS_region
  simp [wpOpsS,go_sem,recoverD,hu,Tryz.ntmps81,Exit.thenS]
  refine wpS_of_wp ?_
  go_wp2
  cases c₀
  simp_all [bodyPostS,results,Tryz.results81]
theorem frozen_pastQ {w : World} {b o : Nat} {v : Value} (h : w.cell? ⟨b,o,none⟩ = some v) (hf : w.frozen? ⟨b,o,none⟩ = false) (x : Obj) : (w.alloc x).frozen? ⟨b,o,none⟩ = false := by
  have hl : b < w.heap.size := by
    rcases Nat.lt_or_ge b w.heap.size with h' | h'
    · exact h'
    · simp [World.cell?,Array.getElem?_eq_none h'] at h
  rw [World.frozen?_of_block (a := ⟨b,o,none⟩) (Below.heap_alloc _ _ _ hl)]
  exact hf
theorem assert_refusalQ (v : Value) (w : World) : (Instr.typeAssert (.iface 202 v) 20 202 true).run Tryz.prog w = .ok (.tuple #[v,.bool true]) w := by kernel_rfl
theorem catch_refusalQ (p q : Nat) (t b : TypeId) (v0 v1 : Value) (w : World) (h0 : w.cell? ⟨p,0,none⟩ = some v0) (f0 : w.frozen? ⟨p,0,none⟩ = false) (h1 : w.cell? ⟨q,0,none⟩ = some v1) (f1 : w.frozen? ⟨q,0,none⟩ = false) (hpq : p ≠ q) (hpl : p < w.heap.size) (hql : q < w.heap.size) :
    CallsD Tryz.prog 81 #[.pointer (some ⟨p,0,none⟩),.pointer (some ⟨q,0,none⟩)] (.panicking [{ v := .iface 202 (.agg #[(.iface t (.pointer (some ⟨b,0,none⟩)))]),recovered := false }]) w fun e u' w' =>
      e = .returned (.tuple #[]) ∧ u' = .panicking [{ v := .iface 202 (.agg #[(.iface t (.pointer (some ⟨b,0,none⟩)))]),recovered := true }] ∧ w' = (((w.setCell ⟨p,0,none⟩ .nilIface).setCell ⟨q,0,none⟩ (.iface t (.pointer (some ⟨b,0,none⟩)))).alloc (.cells #[(.iface t (.pointer (some ⟨b,0,none⟩)))] 202)).drew := by
  have a0 := fun x => cell_past h0 x
  have a1 := fun x => cell_past h1 x
  have g0 := fun x => frozen_pastQ h0 f0 x
  have g1 := fun x => frozen_pastQ h1 f1 x
  have hqp : q ≠ p := fun e => hpq e.symm
  have hp1 : p ≠ w.heap.size := by omega
  have hp2 : w.heap.size ≠ p := by omega
  have hq1 : q ≠ w.heap.size := by omega
  have hq2 : w.heap.size ≠ q := by omega
  refine callsD_of_wpS Tryz.func81 rfl fun c₀ cs hu => ?_
  have e0 : (#[Value.pointer (some ⟨p,0,none⟩),.pointer (some ⟨q,0,none⟩)] ++ Array.replicate (Tryz.f81.ntmps - (#[Value.pointer (some ⟨p,0,none⟩),.pointer (some ⟨q,0,none⟩)] : Array Value).size) undef) = #[Value.pointer (some ⟨p,0,none⟩),.pointer (some ⟨q,0,none⟩),undef,undef,undef,undef,undef,undef,undef,undef,undef,undef,undef,undef,undef] := rfl
  rw [e0]
  clear e0
  apply wpS_seq
  apply wpS_region
  simp [wpOpsS,go_sem,recoverD,hu,Exit.thenS]
  refine wpS_of_wp ?_
  have hta := assert_refusalQ
  go_wp2_with fail
  go_region
  refine ⟨rfl,_,rfl,.tuple #[],?_,rfl,rfl,rfl⟩
  simp [results,Tryz.results81]
theorem read1_pQ (T : List Tok) (n : Nat) (w : World) (rb : Nat) (s : ByteArray) (H : Nat → Option Obj) (ns : List (List UInt8)) (st : St) (t : Ty) (ns' : List (List UInt8)) (st' : St) (hs : arrS T n ns st = some (t,ns',st')) (h : PSt tyKw w rb s T st) (hz : Fz H w) (hr : H rb = none) :
    Calls Tryz.prog 51 #[.pointer (some ⟨rb,0,none⟩)] w fun e w' => TOut w w' rb s T H ns' st' e t := by
  have HC := hid (whole_all T n w rb s H ns st t ns' st' hs h hz hr)
  unfold rdV at HC
  clear hs h hz
  go_enter Tryz.func51,Tryz.ntmps51
  go_wp2_with fail
  refine HC.out.mono ?_
  rintro e w5 ho
  have HO := hid ho
  rcases ho with ⟨_,(⟨v,H',m,rfl,_⟩ | ⟨_,bb,rfl,_⟩)⟩
  · go_wp2
    go_ret
    exact HO.out
  · unfold refusal at HO ⊢
    go_wp2
    exact ⟨rfl,HO.out⟩
def WOutQ (w w' : World) (ns : List (List UInt8)) (s2 : St) (e : Ending) (ex : Ty) : Prop :=
  w.grownBy w' none ∧ ((s2.bad < 0 ∧ ∃ v H' m,e = .returned (.tuple #[v,.nilIface]) ∧ Fz H' w' ∧ QRep ns m H' v ex) ∨
    (0 ≤ s2.bad ∧ ∃ b,e = .returned (.tuple #[.nilIface,.iface 81 (.pointer (some ⟨b,0,none⟩))]) ∧ w'.heap[b]? = some (.cells #[.int .i64 s2.bad] 92 (0,0))))
theorem caughtQ {w2 w'' : World} {N bb : Nat} {x : Int} {tx te ts : TypeId} (hw : w'' = (((w2.setCell ⟨N,0,none⟩ .nilIface).setCell ⟨N + 1,0,none⟩ (.iface ts (.pointer (some ⟨bb,0,none⟩)))).alloc (.cells #[.iface ts (.pointer (some ⟨bb,0,none⟩))] 202)).drew)
    {v0 v1 : Value} (h0 : w2.heap[N]? = some (.cells #[v0] tx (0,0))) (h1 : w2.heap[N + 1]? = some (.cells #[v1] te (0,0))) (hb : w2.heap[bb]? = some (.cells #[.int .i64 x] 92 (0,0))) (hx : tx ≠ 92 := by decide) (he : te ≠ 92 := by decide) :
    w''.cell? ⟨N,0,none⟩ = some .nilIface ∧ w''.cell? ⟨N + 1,0,none⟩ = some (.iface ts (.pointer (some ⟨bb,0,none⟩))) ∧ w''.heap[bb]? = some (.cells #[.int .i64 x] 92 (0,0)) ∧
      (w2.heap.size ≤ w''.heap.size ∧ w''.os = w2.os ∧ w''.tape = w2.tape ∧ w''.output = w2.output ∧ ∀ k,k < N → w''.heap[k]? = w2.heap[k]?) := by
  have n0 : bb ≠ N := fun e => by rw [e,h0] at hb; simp at hb; exact hx hb.2
  have n1 : bb ≠ N + 1 := fun e => by rw [e,h1] at hb; simp at hb; exact he hb.2
  have l0 := lt_of_block h0
  have l1 := lt_of_block h1
  have lb := lt_of_block hb
  obtain ⟨w3,hw3⟩ : ∃ w3,w3 = (w2.setCell ⟨N,0,none⟩ .nilIface).setCell ⟨N + 1,0,none⟩ (.iface ts (.pointer (some ⟨bb,0,none⟩))) := ⟨_,rfl⟩
  rw [← hw3] at hw
  have s3 : w3.heap.size = w2.heap.size := by rw [hw3]; simp [World.setCell]
  have old : ∀ k,k ≠ N → k ≠ N + 1 → w3.heap[k]? = w2.heap[k]? := fun k e1 e2 => by
    rw [hw3,Below.heap_setCell _ _ _ _ (by show k ≠ N + 1; exact e2),Below.heap_setCell _ _ _ _ (by show k ≠ N; exact e1)]
  have b0 : w3.heap[N]? = some (.cells #[.nilIface] tx (0,0)) := by
    rw [hw3,Below.heap_setCell _ _ _ _ (by show N ≠ N + 1; omega)]
    simp [World.setCell,Array.getElem?_modify,h0]
  have b1 : w3.heap[N + 1]? = some (.cells #[.iface ts (.pointer (some ⟨bb,0,none⟩))] te (0,0)) := by
    have h1' : (w2.setCell ⟨N,0,none⟩ .nilIface).heap[N + 1]? = some (.cells #[v1] te (0,0)) := by
      rw [Below.heap_setCell _ _ _ _ (by show N + 1 ≠ N; omega)]
      exact h1
    rw [hw3]
    generalize w2.setCell ⟨N,0,none⟩ .nilIface = w4 at h1'
    simp [World.setCell,Array.getElem?_modify,h1']
  have up : ∀ k,k < w3.heap.size → w''.heap[k]? = w3.heap[k]? := fun k hk => by rw [hw]; exact Below.heap_alloc _ _ _ hk
  refine ⟨?_,?_,?_,?_,by rw [hw,hw3]; rfl,by rw [hw,hw3]; rfl,by rw [hw,hw3]; rfl,fun k hk => ?_⟩
  · simp [World.cell?,up N (by omega),b0]
  · simp [World.cell?,up (N + 1) (by omega),b1]
  · rw [up bb (by omega),old bb n0 n1]; exact hb
  · rw [hw]; simp; omega
  · rw [up k (by omega),old k (by omega) (by omega)]
theorem storedQ {w2 w'' : World} {N : Nat} {v u v0 v1 : Value} {tx te : TypeId} (hw : w'' = ((w2.setCell ⟨N,0,none⟩ v).setCell ⟨N,0,none⟩ v).setCell ⟨N + 1,0,none⟩ u) (h0 : w2.heap[N]? = some (.cells #[v0] tx (0,0))) (h1 : w2.heap[N + 1]? = some (.cells #[v1] te (0,0))) :
    w''.cell? ⟨N,0,none⟩ = some v ∧ w''.cell? ⟨N + 1,0,none⟩ = some u ∧ (w2.heap.size ≤ w''.heap.size ∧ w''.os = w2.os ∧ w''.tape = w2.tape ∧ w''.output = w2.output ∧ ∀ k,k < N → w''.heap[k]? = w2.heap[k]?) := by
  have b0 : w''.heap[N]? = some (.cells #[v] tx (0,0)) := by
    rw [hw,Below.heap_setCell _ _ _ _ (by show N ≠ N + 1; omega)]
    simp [World.setCell,Array.getElem?_modify,h0]
  have b1 : w''.heap[N + 1]? = some (.cells #[u] te (0,0)) := by
    have h1' : ((w2.setCell ⟨N,0,none⟩ v).setCell ⟨N,0,none⟩ v).heap[N + 1]? = some (.cells #[v1] te (0,0)) := by
      rw [Below.heap_setCell _ _ _ _ (by show N + 1 ≠ N; omega),Below.heap_setCell _ _ _ _ (by show N + 1 ≠ N; omega)]
      exact h1
    rw [hw]
    generalize (w2.setCell ⟨N,0,none⟩ v).setCell ⟨N,0,none⟩ v = w4 at h1'
    simp [World.setCell,Array.getElem?_modify,h1']
  refine ⟨by simp [World.cell?,b0],by simp [World.cell?,b1],by rw [hw]; simp [World.setCell],by rw [hw]; rfl,by rw [hw]; rfl,by rw [hw]; rfl,fun k hk => ?_⟩
  rw [hw,Below.heap_setCell _ _ _ _ (by show k ≠ N + 1; omega),Below.heap_setCell _ _ _ _ (by show k ≠ N; omega),Below.heap_setCell _ _ _ _ (by show k ≠ N; omega)]
theorem whole_grownQ {w w1 w2 w'' : World} {o : Obj} (h1 : w.grownBy w1 none) (hl : w.heap.size ≤ w1.heap.size) (h2 : Kept w1.heap.size (w1.alloc o) w2) (h3 : w2.heap.size ≤ w''.heap.size ∧ w''.os = w2.os ∧ w''.tape = w2.tape ∧ w''.output = w2.output ∧ ∀ k,k < w.heap.size → w''.heap[k]? = w2.heap[k]?) : w.grownBy w'' none := by
  obtain ⟨q1,q2,q3,q4,q5⟩ := h3
  refine ⟨q2.trans (h2.os.trans h1.os),q3.trans (h2.tape.trans h1.tape),q4.trans (h2.output.trans h1.output),?_,fun k hk _ => ?_⟩
  · have := h2.size
    simp at this
    omega
  · rw [q5 k hk,h2.block k (by simp; omega) (by simp; omega),Below.heap_alloc _ _ _ (by omega),h1.block k hk (by simp)]
theorem whole_pQ (s : ByteArray) (hs : s.size ≤ 300) (w : World) (n : Nat) (ex : Ty) (ns : List (List UInt8)) (s1 : St) (hx : arrS (toksOf tyKw s) n [] ⟨0,-1⟩ = some (ex,ns,s1)) :
    Calls Tryz.prog 50 #[.string s,.func (.func 51) #[] #[]] w fun e w' => WOutQ w w' ns (needS (toksOf tyKw s) s1 kEnd) e ex := by
  have hmf : ∀ (fn : Fn) (first cap : Array Value) (w : World),(Instr.makeFunc fn first cap).run Tryz.prog w = .ok (.func fn first cap) w := fun _ _ _ _ => rfl
  have hsl : s.data.toList.length = s.size := by rw [Array.length_toList]; rfl
  obtain ⟨T,hT⟩ : ∃ T,T = toksOf tyKw s := ⟨_,rfl⟩
  have hat : At tyKw s.data.toList T 0 (upto isB s.data.toList 0) := by
    rw [hT]
    have := At.start tyKw s.data.toList
    rw [hsl] at this
    exact this
  rw [← hT] at hx ⊢
  have hz300 : ((s.size : Nat) : Int) ≤ 300 := by omega
  have HX := hid hx
  have HAT := hid hat
  clear hx hat hT
  go_enter_defers Tryz.func50,Tryz.ntmps50
  go_wp2_with fail
  refine (next_any s 0 (by omega) hs _).mono ?_
  rintro e w1 ⟨rfl,g1⟩
  dsimp only [tokV]
  have ra1 : w1.heap[w.heap.size]? = some (.cells #[.nilIface] 77 (0,0)) := by
    rw [g1.block _ (by simp; omega) (by simp),Below.heap_alloc _ _ _ (by simp)]
    exact heap_alloc_new _ _
  have rb1 : w1.heap[w.heap.size + 1]? = some (.cells #[.nilIface] 56 (0,0)) := by
    rw [g1.block _ (by simp) (by simp)]
    exact heap_alloc_at _ _ _ (by simp)
  have hw1 := lt_of_block rb1
  have G1 := hid (((World.grownBy_alloc w (.cells #[.nilIface] 77) none).trans (World.grownBy_alloc _ (.cells #[.nilIface] 56) none)).trans g1)
  obtain ⟨J,hJ⟩ : ∃ J,J = upto isB s.data.toList 0 := ⟨_,rfl⟩
  rw [← hJ] at HAT ⊢
  clear g1 hJ
  have PS : Hid (PSt tyKw (w1.alloc (.cells #[.string s,.int .i64 ((nxK s.data.toList J : Nat) : Int),.string (B (nxT s.data.toList J)),.int .i64 (J : Int)] 208)) w1.heap.size s T ⟨0,-1⟩) :=
    ⟨by decide,⟨J,HAT.out,heap_alloc_new _ _⟩,hs⟩
  go_wp2_with fail
  refine (read1_pQ T n _ w1.heap.size s (fun _ => none) [] ⟨0,-1⟩ ex ns s1 HX.out PS.out (fz_none _) rfl).mono ?_
  rintro e w2 ⟨k2,(⟨v,H2,m,rfl,p2,z2,e2,r2⟩ | ⟨hb,bb,rfl,hrf⟩)⟩
  case inr =>
    have ra2 : w2.heap[w.heap.size]? = some (.cells #[.nilIface] 77 (0,0)) := by
      rw [k2.block _ (by simp; omega) (by simp; omega),Below.heap_alloc _ _ _ (by omega)]
      exact ra1
    have rb2 : w2.heap[w.heap.size + 1]? = some (.cells #[.nilIface] 56 (0,0)) := by
      rw [k2.block _ (by simp; omega) (by simp; omega),Below.heap_alloc _ _ _ (by omega)]
      exact rb1
    have K2 := hid k2
    have HB := hid hb
    have HRF := hid hrf
    clear k2 hb hrf ra1 rb1
    unfold refusal
    go_wp2
    refine leaves_cons (f := 81) (args := #[.pointer (some ⟨w.heap.size,0,none⟩),.pointer (some ⟨w.heap.size + 1,0,none⟩)]) (by simp) (by simp [go_sem]) ?_
    refine (catch_refusalQ w.heap.size (w.heap.size + 1) 81 bb .nilIface .nilIface w2 (by simp [World.cell?,ra2]) (by simp [World.frozen?,ra2]) (by simp [World.cell?,rb2]) (by simp [World.frozen?,rb2]) (by omega) (lt_of_block ra2) (lt_of_block rb2)).mono ?_
    rintro e u' w'' ⟨rfl,rfl,hw''⟩
    obtain ⟨q0,q1,q2,q3⟩ := caughtQ hw'' ra2 rb2 HRF.out
    refine ⟨.tuple #[.nilIface,.iface 81 (.pointer (some ⟨bb,0,none⟩))],?_,?_⟩
    · simp [results,Tryz.results50,go_sem,q0,q1]
    · have e5 := need_bad (T := T) (x := kEnd) HB.out
      refine ⟨whole_grownQ G1.out (by omega) K2.out q3,Or.inr ⟨by rw [e5]; exact HB.out,bb,rfl,by rw [e5]; exact q2⟩⟩
  case inl =>
    obtain ⟨t1,b1,ht1,rfl,hb1⟩ := r2.val z2
    have ra2 : w2.heap[w.heap.size]? = some (.cells #[.nilIface] 77 (0,0)) := by
      rw [k2.block _ (by simp; omega) (by simp; omega),Below.heap_alloc _ _ _ (by omega)]
      exact ra1
    have rb2 : w2.heap[w.heap.size + 1]? = some (.cells #[.nilIface] 56 (0,0)) := by
      rw [k2.block _ (by simp; omega) (by simp; omega),Below.heap_alloc _ _ _ (by omega)]
      exact rb1
    have la2 := lt_of_block ra2
    have lb2 := lt_of_block rb2
    have a0 : w2.cell? ⟨w.heap.size,0,none⟩ = some .nilIface := by simp [World.cell?,ra2]
    have a1 : w2.cell? ⟨w.heap.size + 1,0,none⟩ = some .nilIface := by simp [World.cell?,rb2]
    have u0 : w2.frozen? ⟨w.heap.size,0,none⟩ = false := by simp [World.frozen?,ra2]
    have u1 : w2.frozen? ⟨w.heap.size + 1,0,none⟩ = false := by simp [World.frozen?,rb2]
    have hkk := p2.klt
    have hn2 := p2.neg
    obtain ⟨J2,hat2,hrd2⟩ := p2.place
    have hrl := lt_of_block hrd2
    have hend := (asked tyKw tyKw_ok s.data.toList J2 hat2.1).theEnd
    have hpos := (asked tyKw tyKw_ok s.data.toList J2 hat2.1).pos
    rw [← hat2.tk] at hend hpos
    obtain ⟨c0,c1,c2,c3,f1,f2,f3⟩ := four_p hrd2
    have hne : w1.heap.size ≠ w.heap.size := by omega
    have hne2 : w.heap.size ≠ w1.heap.size := by omega
    have K2 := hid k2
    have Z2 := hid z2
    have E2 := hid e2
    have R2 := hid r2
    have RD := hid hrd2
    have RA := hid ra2
    have RB := hid rb2
    have HEND := hid hend
    have HPOS := hid hpos
    have HN2 := hid hn2
    clear k2 p2 z2 e2 r2 ra1 rb1 ra2 rb2 hb1 hat2 hrd2 hend hpos c0 c2 c3 f1 f2 f3 hn2
    by_cases hk : nxK s.data.toList J2 = 0
    · rw [hk] at c1
      have HK := hid hk
      clear hk
      go_wp2
      refine leaves_cons (f := 81) (args := #[.pointer (some ⟨w.heap.size,0,none⟩),.pointer (some ⟨w.heap.size + 1,0,none⟩)]) (by simp) (by simp [go_sem]) ?_
      refine (catch_idleQ ⟨w.heap.size,0,none⟩ ⟨w.heap.size + 1,0,none⟩ _).mono ?_
      rintro e u' w'' ⟨rfl,rfl,hw''⟩
      obtain ⟨q0,q1,q3⟩ := storedQ hw'' RA.out RB.out
      refine ⟨.tuple #[(.iface t1 (.pointer (some ⟨b1,0,none⟩))),.nilIface],?_,?_⟩
      · simp [results,Tryz.results50,go_sem,q0,q1]
      · have hh0 : H2 w.heap.size = none := E2.out.2 _ (by simp; omega)
        have hh1 : H2 (w.heap.size + 1) = none := E2.out.2 _ (by simp; omega)
        have e5 : (needS T s1 kEnd).bad < 0 := by
          have hi : isS T s1 kEnd = true := by simp [isS,HN2.out,HEND.out.1 HK.out]
          rw [need_yes hi,take_yes hi]
          exact HN2.out
        refine ⟨whole_grownQ G1.out (by omega) K2.out q3,Or.inl ⟨e5,_,H2,m,rfl,?_,R2.out⟩⟩
        rw [hw'']
        exact ((Z2.out.set hh0 _ _).set hh0 _ _).set hh1 _ _
    · have hq : (((nxK s.data.toList J2 : Nat) : Int) == 0) = false := by simp; omega
      have HK := hid hk
      clear hk
      generalize nxK s.data.toList J2 = kk at *
      go_wp2_with fail
      have rd3 : Rdr (w2.setCell ⟨w.heap.size,0,none⟩ (.iface t1 (.pointer (some ⟨b1,0,none⟩)))) w1.heap.size s J2 := by
        unfold Rdr
        rw [Below.heap_setCell _ _ _ _ (by show w1.heap.size ≠ w.heap.size; omega)]
        exact RD.out
      refine (refuse_p _ w1.heap.size s J2 rd3).mono ?_
      rintro e w4 ⟨⟨bb,rfl,hbb⟩,g4⟩
      have ra4 : w4.heap[w.heap.size]? = some (.cells #[(.iface t1 (.pointer (some ⟨b1,0,none⟩)))] 77 (0,0)) := by
        rw [g4.block _ (by simp [World.setCell]; omega) (by simp)]
        simp [World.setCell,Array.getElem?_modify,RA.out]
      have rb4 : w4.heap[w.heap.size + 1]? = some (.cells #[.nilIface] 56 (0,0)) := by
        rw [g4.block _ (by simp [World.setCell]; omega) (by simp),Below.heap_setCell _ _ _ _ (by show w.heap.size + 1 ≠ w.heap.size; omega)]
        exact RB.out
      have HB := hid hbb
      have G4 := hid g4
      clear hbb g4 rd3 a0 a1 u0 u1
      unfold refusal
      go_wp2
      refine leaves_cons (f := 81) (args := #[.pointer (some ⟨w.heap.size,0,none⟩),.pointer (some ⟨w.heap.size + 1,0,none⟩)]) (by simp) (by simp [go_sem]) ?_
      refine (catch_refusalQ w.heap.size (w.heap.size + 1) 81 bb (.iface t1 (.pointer (some ⟨b1,0,none⟩))) .nilIface w4 (by simp [World.cell?,ra4]) (by simp [World.frozen?,ra4]) (by simp [World.cell?,rb4]) (by simp [World.frozen?,rb4]) (by omega) (lt_of_block ra4) (lt_of_block rb4)).mono ?_
      rintro e u' w'' ⟨rfl,rfl,hw''⟩
      obtain ⟨q0,q1,q2,q3⟩ := caughtQ hw'' ra4 rb4 HB.out
      refine ⟨.tuple #[.nilIface,.iface 81 (.pointer (some ⟨bb,0,none⟩))],?_,?_⟩
      · simp [results,Tryz.results50,go_sem,q0,q1]
      · have hi : isS T s1 kEnd = false := by
          have : ¬ (tk T s1.k).is = kEnd := fun e => HK.out (HEND.out.2 e)
          simp [isS,this]
        have e5 := need_no HN2.out hi
        obtain ⟨r1,r2,r3,r4,r5⟩ := q3
        have q3' : w2.heap.size ≤ w''.heap.size ∧ w''.os = w2.os ∧ w''.tape = w2.tape ∧ w''.output = w2.output ∧ ∀ k,k < w.heap.size → w''.heap[k]? = w2.heap[k]? := by
          have hs4 := G4.out.size
          refine ⟨by simp [World.setCell] at hs4; omega,r2.trans G4.out.os,r3.trans G4.out.tape,r4.trans G4.out.output,fun k hk => ?_⟩
          rw [r5 k hk,G4.out.block k (by simp [World.setCell]; omega) (by simp),Below.heap_setCell _ _ _ _ (by show k ≠ w.heap.size; omega)]
        refine ⟨whole_grownQ G1.out (by omega) K2.out q3',Or.inr ⟨by rw [e5]; simp,bb,rfl,?_⟩⟩
        rw [e5]
        show w''.heap[bb]? = some (.cells #[.int .i64 ((tk T s1.k).pos : Int)] _ (0,0))
        rw [HPOS.out]
        exact q2
def ROutQ (w w' : World) (ns : List (List UInt8)) (s2 : St) (e : Ending) (x : Ty) (bd : Addr) : Prop :=
  w.grownBy w' none ∧ ((0 ≤ s2.bad ∧ ∃ b,e = .returned (.tuple #[.nilIface,.iface 81 (.pointer (some ⟨b,0,none⟩))]) ∧ w'.heap[b]? = some (.cells #[.int .i64 s2.bad] 92 (0,0))) ∨
    (s2.bad < 0 ∧ ∃ v H' m,Fz H' w' ∧ QRep ns m H' v x ∧ TyOk ns.length m x ∧ ((120 < tySize m x ∧ e = .returned (.tuple #[.nilIface,errV bd])) ∨ (tySize m x ≤ 120 ∧ e = .returned (.tuple #[v,.nilIface])))))
theorem read_q (s : ByteArray) (hs : s.size ≤ 300) (w : World) (n : Nat) (x : Ty) (ns : List (List UInt8)) (s1 : St) (hx : arrS (toksOf tyKw s) n [] ⟨0,-1⟩ = some (x,ns,s1)) (hk1 : s1.k < (toksOf tyKw s).length) (bd : Addr) (hg : w.cell? ⟨4,0,none⟩ = some (errV bd)) (hgl : 4 < w.heap.size) :
    Calls Tryz.prog 35 #[.string s] w fun e w' => ROutQ w w' ns (needS (toksOf tyKw s) s1 kEnd) e x bd := by
  have HC := hid (whole_pQ s hs w n x ns s1 hx)
  obtain ⟨m',ok,sz1,_⟩ := arr_made (toksOf tyKw s) n [] ⟨0,-1⟩ x ns s1 (by show (-1 : Int) < 0; omega) hx
  have hsz : tySize m' x ≤ 400 := by
    have h1 : tySize m' x + 0 ≤ s1.k + 1 := sz1
    have h2 := toksOf_len tyKw s
    omega
  have OK := hid ok
  clear hx sz1 hk1 ok
  generalize needS (toksOf tyKw s) s1 kEnd = s2 at *
  go_enter Tryz.func35,Tryz.ntmps35
  go_wp2_with fail
  refine HC.out.mono ?_
  rintro e w1 ⟨g1,(⟨hb,v,H',m,rfl,z1,r1⟩ | ⟨hb,b,rfl,hbk⟩)⟩
  · obtain ⟨t1,b1,ht1,rfl,hb1⟩ := r1.val z1
    have hg1 : w1.cell? ⟨4,0,none⟩ = some (errV bd) := by
      rw [World.cell?_of_block (a := ⟨4,0,none⟩) (g1.block _ hgl (by simp))]
      exact hg
    obtain ⟨M,hM⟩ : ∃ M,M = max m m' := ⟨_,rfl⟩
    have okM : TyOk ns.length M x := OK.out.le (by omega)
    have esz : tySize M x = tySize m' x := TyOk.size _ _ _ OK.out (by omega)
    have rM : QRep ns M H' (.iface t1 (.pointer (some ⟨b1,0,none⟩))) x := r1.le (by omega)
    have CB := hid (big_any ns M H' _ x w1 rM z1 (by omega))
    have Q := hid (And.intro hb (And.intro z1 (And.intro rM okM)))
    have G1 := hid g1
    have hl1 : 4 < w1.heap.size := Nat.lt_of_lt_of_le hgl g1.size
    clear hb z1 r1 rM g1 hg hb1 HC hM okM esz hsz ht1
    obtain ⟨d,hd⟩ : ∃ d,d = tySize M x := ⟨_,rfl⟩
    rw [← hd] at CB
    have HD := hid hd
    clear hd
    by_cases hdd : 120 < d
    · rw [decide_eq_true hdd] at CB
      go_wp2_with fail
      refine CB.out.mono ?_
      rintro e w2 ⟨rfl,g2⟩
      have hg2 : w2.cell? ⟨4,0,none⟩ = some (errV bd) := by
        rw [World.cell?_of_block (a := ⟨4,0,none⟩) (g2.block _ hl1 (by simp))]
        exact hg1
      unfold errV at hg2
      have G2 := hid g2
      clear g2 hg1
      go_wp2_with fail
      go_region
      go_wp2
      go_ret2
      obtain ⟨hb,z1,r1,ok⟩ := Q.out
      exact ⟨grown_drew (G1.out.trans G2.out),Or.inr ⟨hb,_,H',M,(z1.grown G2.out).drew,r1,ok,Or.inl ⟨by rw [← HD.out]; exact hdd,rfl⟩⟩⟩
    · rw [decide_eq_false hdd] at CB
      clear hg1
      go_wp2_with fail
      refine CB.out.mono ?_
      rintro e w2 ⟨rfl,g2⟩
      have G2 := hid g2
      clear g2
      go_wp2
      go_ret2
      obtain ⟨hb,z1,r1,ok⟩ := Q.out
      exact ⟨G1.out.trans G2.out,Or.inr ⟨hb,_,H',M,z1.grown G2.out,r1,ok,Or.inr ⟨by rw [← HD.out]; omega,rfl⟩⟩⟩
  · have Q := hid (And.intro g1 (And.intro hb hbk))
    clear g1 hb hbk HC
    go_wp2
    go_ret2
    exact ⟨Q.out.1,Or.inl ⟨Q.out.2.1,b,rfl,Q.out.2.2⟩⟩
structure Gn (w w' : World) : Prop where
  os : w'.os = w.os
  output : w'.output = w.output
  size : w.heap.size ≤ w'.heap.size
  block : ∀ k,k < w.heap.size → w'.heap[k]? = w.heap[k]?
theorem Gn.of {w w' : World} (h : w.grownBy w' none) : Gn w w' := ⟨h.os,h.output,h.size,fun k hk => h.block k hk (by simp)⟩
theorem Gn.trans {a b c : World} (h : Gn a b) (k : Gn b c) : Gn a c := ⟨k.os.trans h.os,k.output.trans h.output,Nat.le_trans h.size k.size,fun i hi => (k.block i (Nat.lt_of_lt_of_le hi h.size)).trans (h.block i hi)⟩
theorem Gn.setNew {w wi : World} (hg : Gn w wi) {n : Nat} (hn : w.heap.size ≤ n) (i : Nat) (a : Value) : Gn w (wi.setCell ⟨n,i,none⟩ a) :=
  ⟨hg.os,hg.output,by have := hg.size; simp [World.setCell] at this ⊢; omega,fun k hk => by
    rw [Below.heap_setCell _ _ _ _ (by show k ≠ n; omega)]
    exact hg.block k hk⟩
theorem Gn.set5 {w wi : World} (hg : Gn w wi) {n : Nat} (hn : w.heap.size ≤ n) (a b c d e : Value) : Gn w (((((wi.setCell ⟨n,0,none⟩ a).setCell ⟨n,1,none⟩ b).setCell ⟨n,2,none⟩ c).setCell ⟨n,3,none⟩ d).setCell ⟨n,4,none⟩ e) :=
  ((((hg.setNew hn 0 a).setNew hn 1 b).setNew hn 2 c).setNew hn 3 d).setNew hn 4 e
theorem Gn.frame {W w' : World} (h : Gn W w') (may : MemPlace → Prop) : W.keptBut w' may := by
  refine ⟨h.os,h.output,fun i hi => ?_⟩
  rw [h.block i hi]
  split <;> simp_all
theorem set_alloc (w : World) (o o' : Obj) : ({ w.alloc o with heap := (w.alloc o).heap.setIfInBounds w.heap.size o' } : World) = w.alloc o' := by
  have h : (w.heap.push o).setIfInBounds w.heap.size o' = w.heap.push o' := by
    apply Array.ext_getElem?
    intro i
    rw [Array.getElem?_setIfInBounds,Array.getElem?_push,Array.getElem?_push]
    by_cases e : w.heap.size = i
    · subst e; simp
    · rw [if_neg e,if_neg (fun h => e h.symm),if_neg (fun h => e h.symm)]
  show ({ w with heap := (w.heap.push o).setIfInBounds w.heap.size o' } : World) = { w with heap := w.heap.push o' }
  rw [h]
theorem upd_new (w : World) (es : Array MapEntry) (c : Nat) (k : Int) (v : Value) (hf : Instr.findNow (.int .i64) (.int .i64 k) es.toList 0 = some none) :
    (Instr.mapUpdate 96 (.map (some w.heap.size)) (.int .i64 k) v).run Tryz.prog (w.alloc (.map es c)) = .ok () (w.alloc (.map (es.push { key := .int .i64 k,val := v,born := c }) (c + 1))) := by
  have hb : (w.alloc (.map es c)).heap[w.heap.size]? = some (.map es c) := heap_alloc_new _ _
  have hc : (Instr.checkKey false 10000 3 (.int .i64 k)).run Tryz.prog (w.alloc (.map es c)) = .ok () (w.alloc (.map es c)) := MapKept.run_checkKey (k := .int .i64 k) Tryz.underlying3 (by simp [MapKept.IsKey]) false 9999
  simp [Instr.mapUpdate,run_underlying Tryz.underlying96,MapKept.run_getObj_map hb,hc,MapKept.run_findKey Tryz.underlying3 hf,MapKept.run_setObj_map _ hb,Result.andThen]
  exact set_alloc _ _ _
def errNo (i : Nat) : Int := [1,3,6,7,8,9,10,11].getD i 0
def errEs (ad : Nat → Addr) : Array MapEntry := #[{ key := .int .i64 1,val := errV (ad 0),born := 0 },{ key := .int .i64 3,val := errV (ad 1),born := 1 },{ key := .int .i64 6,val := errV (ad 2),born := 2 },{ key := .int .i64 7,val := errV (ad 3),born := 3 },{ key := .int .i64 8,val := errV (ad 4),born := 4 },{ key := .int .i64 9,val := errV (ad 5),born := 5 },{ key := .int .i64 10,val := errV (ad 6),born := 6 },{ key := .int .i64 11,val := errV (ad 7),born := 7 }]
theorem errEs_mem (ad : Nat → Addr) : ∀ x ∈ (errEs ad).toList,∃ j,j < 8 ∧ x.key = .int .i64 (errNo j) ∧ x.val = errV (ad j) ∧ x.born = j := by
  intro x hx
  simp only [errEs,List.mem_cons,List.not_mem_nil,or_false] at hx
  rcases hx with rfl | rfl | rfl | rfl | rfl | rfl | rfl | rfl
  · exact ⟨0,by decide,rfl,rfl,rfl⟩
  · exact ⟨1,by decide,rfl,rfl,rfl⟩
  · exact ⟨2,by decide,rfl,rfl,rfl⟩
  · exact ⟨3,by decide,rfl,rfl,rfl⟩
  · exact ⟨4,by decide,rfl,rfl,rfl⟩
  · exact ⟨5,by decide,rfl,rfl,rfl⟩
  · exact ⟨6,by decide,rfl,rfl,rfl⟩
  · exact ⟨7,by decide,rfl,rfl,rfl⟩
theorem errEs_at (ad : Nat → Addr) (i : Nat) (hi : i < 8) : ∃ x ∈ (errEs ad).toList,x.born = i := by
  simp only [errEs,List.mem_cons,List.not_mem_nil,or_false]
  match i,hi with
  | 0,_ => exact ⟨_,Or.inl rfl,rfl⟩
  | 1,_ => exact ⟨_,Or.inr (Or.inl rfl),rfl⟩
  | 2,_ => exact ⟨_,Or.inr (Or.inr (Or.inl rfl)),rfl⟩
  | 3,_ => exact ⟨_,Or.inr (Or.inr (Or.inr (Or.inl rfl))),rfl⟩
  | 4,_ => exact ⟨_,Or.inr (Or.inr (Or.inr (Or.inr (Or.inl rfl)))),rfl⟩
  | 5,_ => exact ⟨_,Or.inr (Or.inr (Or.inr (Or.inr (Or.inr (Or.inl rfl))))),rfl⟩
  | 6,_ => exact ⟨_,Or.inr (Or.inr (Or.inr (Or.inr (Or.inr (Or.inr (Or.inl rfl)))))),rfl⟩
  | 7,_ => exact ⟨_,Or.inr (Or.inr (Or.inr (Or.inr (Or.inr (Or.inr (Or.inr (rfl))))))),rfl⟩
theorem errEs_stamped (ad : Nat → Addr) : (∀ x ∈ (errEs ad).toList,x.born < 8) ∧ ((errEs ad).toList.map (·.born)).Nodup := by
  constructor
  · intro x hx
    obtain ⟨j,h1,_,_,h2⟩ := errEs_mem ad x hx
    omega
  · simp [errEs]
theorem fault_err (w : World) (ad : Nat → Addr) (cs : Nat → Array Value) (ts : Nat → TypeId) (S : SW w ad cs ts) (i : Nat) (hi : i < 8) :
    Calls Tryz.prog 22 #[.iface 372 (.pointer (some (ad i)))] w fun e w' => e = .returned (fv (errNo i) 0) ∧ Gn w w' := by
  have hmm := @run_makeMap Tryz.prog
  have u0 := fun (wx : World) (v : Value) => upd_new wx #[] 0 1 v rfl
  have u1 := fun (wx : World) (v a0 : Value) => upd_new wx #[{ key := .int .i64 1,val := a0,born := 0 }] 1 3 v rfl
  have u2 := fun (wx : World) (v a0 a1 : Value) => upd_new wx #[{ key := .int .i64 1,val := a0,born := 0 },{ key := .int .i64 3,val := a1,born := 1 }] 2 6 v rfl
  have u3 := fun (wx : World) (v a0 a1 a2 : Value) => upd_new wx #[{ key := .int .i64 1,val := a0,born := 0 },{ key := .int .i64 3,val := a1,born := 1 },{ key := .int .i64 6,val := a2,born := 2 }] 3 7 v rfl
  have u4 := fun (wx : World) (v a0 a1 a2 a3 : Value) => upd_new wx #[{ key := .int .i64 1,val := a0,born := 0 },{ key := .int .i64 3,val := a1,born := 1 },{ key := .int .i64 6,val := a2,born := 2 },{ key := .int .i64 7,val := a3,born := 3 }] 4 8 v rfl
  have u5 := fun (wx : World) (v a0 a1 a2 a3 a4 : Value) => upd_new wx #[{ key := .int .i64 1,val := a0,born := 0 },{ key := .int .i64 3,val := a1,born := 1 },{ key := .int .i64 6,val := a2,born := 2 },{ key := .int .i64 7,val := a3,born := 3 },{ key := .int .i64 8,val := a4,born := 4 }] 5 9 v rfl
  have u6 := fun (wx : World) (v a0 a1 a2 a3 a4 a5 : Value) => upd_new wx #[{ key := .int .i64 1,val := a0,born := 0 },{ key := .int .i64 3,val := a1,born := 1 },{ key := .int .i64 6,val := a2,born := 2 },{ key := .int .i64 7,val := a3,born := 3 },{ key := .int .i64 8,val := a4,born := 4 },{ key := .int .i64 9,val := a5,born := 5 }] 6 10 v rfl
  have u7 := fun (wx : World) (v a0 a1 a2 a3 a4 a5 a6 : Value) => upd_new wx #[{ key := .int .i64 1,val := a0,born := 0 },{ key := .int .i64 3,val := a1,born := 1 },{ key := .int .i64 6,val := a2,born := 2 },{ key := .int .i64 7,val := a3,born := 3 },{ key := .int .i64 8,val := a4,born := 4 },{ key := .int .i64 9,val := a5,born := 5 },{ key := .int .i64 10,val := a6,born := 6 }] 7 11 v rfl
  obtain ⟨n0,n1,n2,n3⟩ := faultW_blocks w
  have S4 := hid (S.grown (faultW_grown w))
  have A1 := hid (as_plain_env (w.heap.size + 3) (ad i) (faultW w) (lt_of_block n3) S4.out.hE (Nat.lt_of_lt_of_le (by decide) S4.out.hsz))
  have l1 := lt_of_block n1
  have l2 := lt_of_block n2
  have l0 := lt_of_block n0
  have B4 := hid n0
  clear S n0 n1 n2 n3
  unfold faultW at A1
  go_enter Tryz.func22,Tryz.ntmps22
  go_wp2_with fail
  refine A1.out.mono ?_
  rintro e w5 ⟨rfl,g5⟩
  have g5' : (faultW w).grownBy w5 none := g5
  have S5 := hid (S4.out.grown g5')
  have A2 := hid (as_plain_syntax (w.heap.size + 1) (ad i) w5 (Nat.lt_of_lt_of_le l1 g5'.size) S5.out.hE (Nat.lt_of_lt_of_le (by decide) S5.out.hsz))
  have G5 := hid g5'
  clear g5 g5' A1 S4
  go_wp2_with fail
  refine A2.out.mono ?_
  rintro e w6 ⟨rfl,g6⟩
  have S6 := hid (S5.out.grown g6)
  have G6 := hid (G5.out.trans g6)
  have A3 := hid (as_plain_unbound (w.heap.size + 2) (ad i) w6 (Nat.lt_of_lt_of_le l2 G6.out.size) S6.out.hE (Nat.lt_of_lt_of_le (by decide) S6.out.hsz))
  clear g6 A2 S5 G5
  go_wp2_with fail
  refine A3.out.mono ?_
  rintro e w7 ⟨rfl,g7⟩
  have S7 := S6.out.grown g7
  have G7 := hid (G6.out.trans g7)
  have c0 := fun x => cell_past S7.g0 x
  have c1 := fun x => cell_past S7.g1 x
  have c2 := fun x => cell_past S7.g2 x
  have c3 := fun x => cell_past S7.g3 x
  have c4 := fun x => cell_past S7.g4 x
  have c5 := fun x => cell_past S7.g5 x
  have c6 := fun x => cell_past S7.g6 x
  have c7 := fun x => cell_past S7.g7 x
  have n7 : w7.heap[w.heap.size]? = some (.cells #[.int .i64 0,.int .i64 0,.string (B []),.int .i64 0,.int .i64 0] 23 (0,0)) := by
    rw [G7.out.block _ l0 (by simp)]; exact B4.out
  have HS7 := hid S7
  obtain ⟨W0,hW0⟩ : ∃ W0,W0 = w7.alloc (.map (errEs ad) 8) := ⟨_,rfl⟩
  have hb0 : W0.heap[w7.heap.size]? = some (.map (errEs ad) 8) := by rw [hW0]; exact heap_alloc_new _ _
  have hsz0 : W0.heap.size = w7.heap.size + 1 := by rw [hW0]; simp
  have old0 : ∀ k,k < w7.heap.size → W0.heap[k]? = w7.heap[k]? := fun k hk => by rw [hW0]; exact Below.heap_alloc _ _ _ hk
  have hrg := run_range_map (P := Tryz.prog) W0 96 3 56 w7.heap.size (errEs ad) 8 Tryz.underlying96 hb0
  have G0 : Hid (w.grownBy W0 none) := by rw [hW0]; exact ((faultW_grown w).trans G7.out).trans (World.grownBy_alloc _ _ _)
  have hrg' := hrg
  rw [hW0] at hrg'
  unfold errEs at hrg'
  clear g7 A3 S6 G6 S7 B4
  go_wp2_with fail
  rw [show (Obj.map #[{ key := Value.int IntKind.i64 1,val := errV (ad 0),born := 0 },{ key := Value.int IntKind.i64 3,val := errV (ad 1),born := 1 },{ key := Value.int IntKind.i64 6,val := errV (ad 2),born := 2 },{ key := Value.int IntKind.i64 7,val := errV (ad 3),born := 3 },{ key := Value.int IntKind.i64 8,val := errV (ad 4),born := 4 },{ key := Value.int IntKind.i64 9,val := errV (ad 5),born := 5 },{ key := Value.int IntKind.i64 10,val := errV (ad 6),born := 6 },{ key := Value.int IntKind.i64 11,val := errV (ad 7),born := 7 }] 8) = Obj.map (errEs ad) 8 from rfl] at *
  rw [← hW0]
  clear hrg hrg' u0 u1 u2 u3 u4 u5 u6 u7 hmm c0 c1 c2 c3 c4 c5 c6 c7
  have hN7 : w.heap.size < w7.heap.size := lt_of_block n7
  have e0 : W0.heap[w.heap.size]? = some (.cells #[.int .i64 0,.int .i64 0,.string (B []),.int .i64 0,.int .i64 0] 23 (0,0)) := by rw [old0 _ hN7]; exact n7
  have ea : ∀ k,k < 8 → W0.heap[(ad k).block]? = some (.cells (cs k) (ts k) (0,0)) := fun k hk => by rw [old0 _ (lt_of_block (HS7.out.hb k hk))]; exact HS7.out.hb k hk
  have HE0 := hid e0
  have HEA := hid ea
  have HB0 := hid hb0
  clear hW0 hb0 old0 n7 e0 ea
  go_loopw [] (fun w' => ∃ (w1 : World) (seen : Array Nat),w1.Alike W0 ∧ w' = w1.alloc (.mapIter (some w7.heap.size) 8 seen 8) ∧ Hid (∀ x ∈ (errEs ad).toList,seen.contains x.born = true → x.born ≠ i)) (fun w' => (leftOf (errEs ad) (w'.iterSeen (w7.heap.size + 1))).size)
  case atStart => exact ⟨W0,#[],⟨rfl,rfl,rfl⟩,rfl,fun x _ h => by simp at h⟩
  case round =>
    obtain ⟨w1,seen,hal,rfl,HNO⟩ := hrel
    have hsz : w1.heap.size = w7.heap.size + 1 := by rw [hal.1]; exact hsz0
    have hb1 : w1.heap[w7.heap.size]? = some (.map (errEs ad) 8) := by rw [hal.1]; exact HB0.out
    have law := run_next_map (P := Tryz.prog) w1 0 w7.heap.size 8 8 seen (errEs ad) 8 hb1 (errEs_stamped ad).1 (Nat.le_refl _)
    rw [hsz] at law
    rcases law with ⟨h0,hrun⟩ | ⟨e,he,w2,hal2,hrun⟩
    · obtain ⟨x,hx,hxb⟩ := errEs_at ad i hi
      exact absurd hxb (HNO.out x hx (all_seen _ _ h0 x hx))
    · obtain ⟨j,hj8,hkey,hval,hborn⟩ := errEs_mem ad e (mem_left he).1
      have hsz2 : w2.heap.size = w7.heap.size + 1 := by rw [hal2.1,hal.1]; exact hsz0
      have hb2 : w2.heap[w7.heap.size]? = some (.map (errEs ad) 8) := by rw [hal2.1]; exact hb1
      have hen := run_entry_map (P := Tryz.prog) w2 w7.heap.size 8 seen (errEs ad) 8 e hb2 (mem_left he).1 (errEs_stamped ad).2
      rw [hkey,hval] at hrun
      rw [hsz2,hkey,hval] at hen
      have hnx : ∀ ty,(Instr.next (.pointer (some ⟨w7.heap.size + 1,0,none⟩)) false ty).run Tryz.prog (w1.alloc (.mapIter (some w7.heap.size) 8 seen 8)) = _ := fun _ => hrun
      have hal3 : w2.Alike W0 := ⟨hal2.1.trans hal.1,hal2.2.1.trans hal.2.1,hal2.2.2.trans hal.2.2⟩
      obtain ⟨wX,hwX⟩ : ∃ wX,wX = w2.alloc (.mapIter (some w7.heap.size) 8 (seen.push e.born) 8) := ⟨_,rfl⟩
      rw [← hwX] at hnx hen
      have oldX : ∀ k,k < w7.heap.size + 1 → wX.heap[k]? = W0.heap[k]? := fun k hk => by rw [hwX,Below.heap_alloc _ _ _ (by omega),hal3.1]
      have eX := HE0.out
      rw [← oldX _ (by omega)] at eX
      have aX : ∀ k,k < 8 → wX.heap[(ad k).block]? = some (.cells (cs k) (ts k) (0,0)) := fun k hk => by
        rw [oldX _ (by have := lt_of_block (HEA.out k hk); omega)]
        exact HEA.out k hk
      obtain ⟨⟨q0,q1,q2,q3,q4⟩,f0,f1,f2,f3,f4⟩ := five_c eX
      have HAX := hid aX
      have HWX := hid hwX
      have HAL := hid hal3
      have GX : Hid (Gn w wX) := by
        have g0 := Gn.of G0.out
        show Gn w wX
        rw [hwX]
        exact Gn.trans (b := w2) ⟨hal3.2.1.trans g0.os,hal3.2.2.trans g0.output,by rw [hal3.1]; exact g0.size,fun k hk => by rw [hal3.1]; exact g0.block k hk⟩ (Gn.of (World.grownBy_alloc _ _ _))
      have HE := hid he
      have HBO := hid hborn
      clear hwX oldX eX aX hal hal2 hal3 hb1 hb2 he hkey hval hborn hrun hsz0
      by_cases hji : j = i
      · subst hji
        unfold errV at hnx hen
        go_wp2_with (go_at_call 39; refine (is_same _ _).mono ?_; rintro e w' ⟨rfl,rfl⟩)
        refine bodyPost_ret (v := fv (errNo j) 0) (by simp [results,Tryz.results22,go_sem,q0,q1,q2,q3,q4]; rfl) rfl ?_
        exact ⟨rfl,GX.out.set5 (Nat.le_refl _) _ _ _ _ _⟩
      · have HIO := hid (is_other (ad i) (ad j) (cs i) (cs j) (ts i) (ts j) wX (HS7.out.hne i j hi hj8 (fun e => hji e.symm)) (HAX.out i hi) (HAX.out j hj8))
        unfold errV at hnx hen
        go_wp2_with (go_at_call 39; refine HIO.out.mono ?_; rintro e w' ⟨rfl,rfl⟩)
        go_roundw
        case rel =>
          refine ⟨w2,seen.push e.born,HAL.out,HWX.out,fun x hx hc => ?_⟩
          rw [contains_push] at hc
          rcases Bool.or_eq_true _ _ ▸ hc with h1 | h1
          · exact HNO.out x hx h1
          · rw [beq_iff_eq.1 h1,HBO.out]
            exact hji
        case measure =>
          rw [HWX.out,← hsz2,World.iterSeen_alloc,hsz2,← hsz,World.iterSeen_alloc]
          exact left_shrinks (errEs ad) seen e HE.out
def RdT (s : ByteArray) (x : Ty) (ns : List (List UInt8)) : Prop :=
  s.size ≤ 300 ∧ ∃ s1,arrS (toksOf tyKw s) (s.size + 2) [] ⟨0,-1⟩ = some (x,ns,s1) ∧ s1.k < (toksOf tyKw s).length ∧ (needS (toksOf tyKw s) s1 kEnd).bad < 0 ∧ ∀ N m,TyOk N m x → tySize m x ≤ 120
theorem ty_have2 (s : ByteArray) : ∃ x ns s1,arrS (toksOf tyKw s) (s.size + 2) [] ⟨0,-1⟩ = some (x,ns,s1) ∧ s1.k < (toksOf tyKw s).length := by
  obtain ⟨f1,f2,f3⟩ := toks_facts tyKw s (s.size + 1) 0 (Nat.zero_le _) (by omega)
  have hlen := toksOf_len tyKw s
  exact arr_tot (T := toksOf tyKw s) f1 (s.size + 2) [] ⟨0,-1⟩ (by show (-1 : Int) < 0; omega) f1.1 (by show (toksOf tyKw s).length - 0 < s.size + 2; omega)
theorem read_t (s : ByteArray) (x : Ty) (ns : List (List UInt8)) (w : World) (ad : Nat → Addr) (cs : Nat → Array Value) (ts : Nat → TypeId) (S : SW w ad cs ts) (h : RdT s x ns) :
    Calls Tryz.prog 35 #[.string s] w fun e w' => w.grownBy w' none ∧ ∃ u H m,e = .returned (.tuple #[u,.nilIface]) ∧ Fz H w' ∧ QRep ns m H u x ∧ TyOk ns.length m x ∧ tySize m x ≤ 120 := by
  obtain ⟨hs,s1,hx,hk,hb,hsz⟩ := h
  refine (read_q s hs w _ x ns s1 hx hk (ad 4) S.g4 (Nat.lt_of_lt_of_le (by decide) S.hsz)).mono ?_
  rintro e w' ⟨g,(⟨hb',_⟩ | ⟨_,v,H',m,z1,r1,ok,(⟨hd,_⟩ | ⟨hd,rfl⟩)⟩)⟩
  · omega
  · exact absurd (hsz _ _ ok) (by omega)
  · exact ⟨g,v,H',m,rfl,z1,r1,ok,hd⟩
end Go.Proofs.YtcdijppegfcoaabGreatDoor
