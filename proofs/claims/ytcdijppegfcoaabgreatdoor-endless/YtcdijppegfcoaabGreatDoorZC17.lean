import Derived.Test.YtcdijppegfcoaabGreatDoorZC16
import Derived.Test.YtcdijppegfcoaabGreatDoorZC02
import Derived.Test.YtcdijppegfcoaabGreatDoorZC07
import Derived.Defers
import Derived.Recover
import Derived.Test.YtcdijppegfcoaabGreatDoorZC09
set_option maxRecDepth 100000
set_option maxHeartbeats 8000000
namespace Go.Proofs.YtcdijppegfcoaabGreatDoor
open Go.RowKit
theorem app_bad {A : St → Option (Ex × St)} {T : List Tok} {f : Nat} {x : Ex} {st : St} {ex : Ex} {st' : St} (hb : 0 ≤ st.bad) (h : appS A T f x st = some (ex,st')) : st' = st := by
  cases f with
  | zero => simp [appS] at h
  | succ f =>
    rw [appS,if_neg (by rw [isS_bad hb,isS_bad hb,isS_bad hb]; decide)] at h
    cases h
    rfl
theorem applied_p (T : List Tok) (n : Nat) (hl : T.length ≤ 400) (hE : EXPP T n) (w : World) (rb : Nat) (s : ByteArray) (H : Nat → Option Obj) (st : St) (x : Ex) (s1 : St) (ex : Ex) (st' : St)
    (hs : atomS (expS T n) T st = some (x,s1)) (ha : appS (atomS (expS T n) T) T (T.length + 1) x s1 = some (ex,st')) (h : PSt exKw w rb s T st) (hz : Fz H w) (hr : H rb = none) :
    Calls Tryz.prog 114 #[rdV rb] w fun e w' => EOut w w' rb s T H st.k st' e ex := by
  have hlt := h.lt
  have HP := hid (h.alloc (.cells #[.pointer (some ⟨rb,0,none⟩)] 153))
  have HZ := hid (hz.alloc (.cells #[.pointer (some ⟨rb,0,none⟩)] 153))
  have HE := hid hE
  have HS := hid hs
  have HA := hid ha
  have K0 := hid ((Kept.refl rb w).alloc (.cells #[.pointer (some ⟨rb,0,none⟩)] 153))
  clear h hz hE hs ha
  unfold rdV
  go_enter Tryz.func114,Tryz.ntmps114
  go_wp2_with fail
  refine (atom_p T n hl HE.out _ rb s H st x s1 HS.out HP.out HZ.out hr).mono ?_
  rintro e w1 ⟨k1,(⟨v1,H1,m1,rfl,p1,z1,e1,r1,d1⟩ | ⟨hb,b,rfl,hrf⟩)⟩
  case inr =>
    have e4 := app_bad hb HA.out
    unfold refusal
    go_wp2
    exact ⟨rfl,K0.out.trans k1,Or.inr ⟨by rw [e4]; exact hb,b,rfl,by rw [e4]; exact hrf⟩⟩
  case inl =>
  obtain ⟨t1,b1,ht1,rfl,hb1,hc1⟩ := r1.dat z1
  have bx1 : w1.cell? ⟨w.heap.size,0,none⟩ = some (.pointer (some ⟨rb,0,none⟩)) := by
    rw [kept_cell k1 (by simp) (by omega)]
    simp [go_sem]
  have hw1 : w.heap.size < w1.heap.size := by have := k1.size; simp at this; omega
  have P1 := hid p1
  have K1 := hid (K0.out.trans k1)
  have Z1 := hid z1
  have E1 := hid (e1.from (n := w.heap.size) (by simp))
  have R1 := hid r1
  have D1 := hid d1
  clear p1 k1 z1 e1 r1 d1 hb1 hc1
  go_wp2_with fail
  go_loopg [3] (T.length + 1) (fun g v wi => ∃ t b Hi m y sy,v = (.iface t (.pointer (some ⟨b,0,none⟩))) ∧ Hid (appS (atomS (expS T n) T) T g y sy = some (ex,st')) ∧ Hid (PSt exKw wi rb s T sy) ∧ Hid (Kept rb w wi) ∧ Hid (Fz Hi wi) ∧ Hid (Ext w.heap.size H Hi) ∧ Hid (PRep m Hi (.iface t (.pointer (some ⟨b,0,none⟩))) y) ∧ Hid (exDeep m y + st.k ≤ sy.k) ∧ wi.cell? ⟨w.heap.size,0,none⟩ = some (.pointer (some ⟨rb,0,none⟩)) ∧ w.heap.size < wi.heap.size)
  case atStart => exact ⟨t1,b1,H1,m1,x,s1,rfl,HA,P1,K1,Z1,E1,R1,D1,bx1,hw1⟩
  case round =>
    obtain ⟨t2,b2,H2,m2,y,sy,rfl,AA,P2,K2,Z2,E2,R2,D2,bx2,hw2⟩ := hrel
    rename World => w2
    obtain ⟨F,rfl⟩ : ∃ F,gk = F + 1 := by
      cases gk with
      | zero => have := AA.out; simp [appS] at this
      | succ F => exact ⟨F,rfl⟩
    go_wp2_with fail
    refine (isAtom_p _ rb s T sy P2.out).mono ?_
    rintro e w3 ⟨rfl,g3⟩
    have bx3 : w3.cell? ⟨w.heap.size,0,none⟩ = some (.pointer (some ⟨rb,0,none⟩)) := by
      rw [World.cell?_of_block (a := ⟨w.heap.size,0,none⟩) (g3.block w.heap.size hw2 (by simp))]
      exact bx2
    have hw3 : w2.heap.size ≤ w3.heap.size := g3.size
    have P3 := hid (P2.out.grown g3)
    have K3 := hid (K2.out.trans (Kept.of0 rb g3))
    have Z3 := hid (Z2.out.grown g3)
    have hr2 : H2 rb = none := by rw [E2.out.2 rb hlt]; exact hr
    have e4 := AA.out
    rw [appS] at e4
    clear g3 bx2 P2 K2 Z2 AA
    cases hm : moreT T sy with
    | false =>
      have hm' : ¬ (isS T sy kName = true ∨ isS T sy kNum = true ∨ isS T sy kOpen = true) := by
        simp only [moreT,Bool.or_eq_false_iff] at hm
        rw [hm.1,hm.2.1,hm.2.2]
        decide
      rw [if_neg hm'] at e4
      cases e4
      clear hm hm'
      go_wp2
      go_ret
      exact ⟨K3.out,Or.inl ⟨_,H2,m2,rfl,P3.out,Z3.out,E2.out,R2.out,D2.out⟩⟩
    | true =>
      have hm' : isS T sy kName = true ∨ isS T sy kNum = true ∨ isS T sy kOpen = true := by simpa [moreT] using hm
      rw [if_pos hm'] at e4
      cases hx : atomS (expS T n) T sy with
      | none => rw [hx] at e4; cases e4
      | some q =>
      obtain ⟨z,s4⟩ := q
      rw [hx] at e4
      have HX := hid hx
      have AA := hid e4
      clear hm hm' hx e4
      go_wp2_with fail
      refine (atom_p T n hl HE.out _ rb s H2 sy z s4 HX.out P3.out Z3.out hr2).mono ?_
      rintro e w4 ⟨k4,(⟨v2,H3,m3,rfl,p4,z4,e4,r4,d4⟩ | ⟨hb,b,rfl,hrf⟩)⟩
      case inr =>
        have e4 := app_bad hb AA.out
        unfold refusal
        go_wp2
        exact ⟨rfl,K3.out.trans k4,Or.inr ⟨by rw [e4]; exact hb,b,rfl,by rw [e4]; exact hrf⟩⟩
      case inl =>
      obtain ⟨t3,b3,ht3,rfl,hb3,hc3⟩ := r4.dat z4
      have bx4 : w4.cell? ⟨w.heap.size,0,none⟩ = some (.pointer (some ⟨rb,0,none⟩)) := by
        rw [kept_cell k4 (by omega) (by omega)]
        exact bx3
      have hw4 : w3.heap.size ≤ w4.heap.size := k4.size
      have hkk := p4.klt
      obtain ⟨M,hM⟩ : ∃ M,M = max m2 m3 := ⟨_,rfl⟩
      have RA : Hid (PRep M H3 (.iface t2 (.pointer (some ⟨b2,0,none⟩))) y) := (PRep.ext e4 _ _ _ R2.out).le (by omega)
      have RB : Hid (PRep M H3 (.iface t3 (.pointer (some ⟨b3,0,none⟩))) z) := r4.le (by omega)
      have q1 : exDeep M y = exDeep m2 y := deep_le (PRep.shape _ _ _ R2.out) (by omega)
      have q2 : exDeep M z = exDeep m3 z := deep_le (PRep.shape _ _ _ r4) (by omega)
      have D5 := hid (show max (exDeep M y) (exDeep M z) + 1 + st.k ≤ s4.k ∧ s4.k < T.length by
        have := D2.out
        have := deep_pos R2.out
        have := deep_pos r4
        omega)
      have ZA := hid (z4.alloc (.cells #[(.iface t2 (.pointer (some ⟨b2,0,none⟩))),(.iface t3 (.pointer (some ⟨b3,0,none⟩)))] 101))
      have P5 := hid p4
      have K5 := hid (K3.out.trans k4)
      have E5 := hid (E2.out.trans (e4.from (n := w.heap.size) (by omega)) (Nat.le_refl _))
      clear p4 k4 z4 e4 r4 d4 hb3 hc3 bx3 hM q1 q2
      have AB : Hid (Calls Tryz.prog 143 #[.slice (some ⟨w4.heap.size,0,none⟩) 2 2] (w4.alloc (.cells #[(.iface t2 (.pointer (some ⟨b2,0,none⟩))),(.iface t3 (.pointer (some ⟨b3,0,none⟩)))] 101)) fun e w' => e = .returned (.agg #[.int .i64 ((maxl [exDeep M y,exDeep M z] + 1 : Nat) : Int)]) ∧ (w4.alloc (.cells #[(.iface t2 (.pointer (some ⟨b2,0,none⟩))),(.iface t3 (.pointer (some ⟨b3,0,none⟩)))] 101)).grownBy w' none) :=
        above_p _ (some ⟨w4.heap.size,0,none⟩) 2 [(.iface t2 (.pointer (some ⟨b2,0,none⟩))),(.iface t3 (.pointer (some ⟨b3,0,none⟩)))] [exDeep M y,exDeep M z] rfl (by simp) (row2 (w := w4) (t := 101)) (all2 (p := fun u d => DAt _ u d) (RA.out.dat ZA.out) (RB.out.dat ZA.out)) (by have := D5.out; simp [maxl]; omega)
      go_wp2_with fail
      refine AB.out.mono ?_
      rintro e w6 ⟨rfl,g6⟩
      have bx6 : w6.cell? ⟨w.heap.size,0,none⟩ = some (.pointer (some ⟨rb,0,none⟩)) := by
        rw [World.cell?_of_block (a := ⟨w.heap.size,0,none⟩) (g6.block w.heap.size (by simp; omega) (by simp))]
        exact cell_past bx4 _
      have hw6 : w4.heap.size ≤ w6.heap.size := by have := g6.size; simp at this; omega
      have G6 := hid g6
      clear g6 bx4
      go_wp2_with fail
      go_roundg F
      case measure => omega
      case rel =>
        obtain ⟨H7,z7,x7,r7⟩ := node_rep (w := w6) (H := H3) (ZA.out.grown G6.out) ⟨oApp,[],[y,z],y.pos⟩ [(.iface t2 (.pointer (some ⟨b2,0,none⟩))),(.iface t3 (.pointer (some ⟨b3,0,none⟩)))] M (.cells #[.int .i64 ((exDeep (M + 1) ⟨oApp,[],[y,z],y.pos⟩ : Nat) : Int),(.iface t2 (.pointer (some ⟨b2,0,none⟩))),(.iface t3 (.pointer (some ⟨b3,0,none⟩)))] 197) rfl
          (kids2 (p := fun u q => PRep M H3 u q) RA.out RB.out)
          (fun H' _ h2 => Or.inr (Or.inr (Or.inr (Or.inr (Or.inr (Or.inr (Or.inl ⟨rfl,_,_,rfl,rfl,h2⟩)))))))
        refine ⟨_,_,H7,M + 1,⟨oApp,[],[y,z],y.pos⟩,s4,rfl,AA,((P5.out.alloc _).grown G6.out).alloc _,((K5.out.alloc _).trans (Kept.of0 rb G6.out)).alloc _,z7,E5.out.trans x7 (by omega),r7,?_,cell_past bx6 _,by simp; omega⟩
        have hd : exDeep (M + 1) ⟨oApp,[],[y,z],y.pos⟩ = max (exDeep M y) (exDeep M z) + 1 := by simp [exDeep,maxl]
        have := D5.out
        show exDeep (M + 1) _ + st.k ≤ s4.k
        omega
theorem str_beq (a b : List UInt8) : ((B a).toList == (B b).toList) = (a == b) := by rw [toList_B,toList_B]
theorem nofClosure (nm tt : List UInt8) (u : Value) (bx rb : Nat) (w : World) (hbx : w.cell? ⟨bx,0,none⟩ = some (.pointer (some ⟨rb,0,none⟩))) (hc2 : w.cell? ⟨rb,2,none⟩ = some (.string (B tt))) :
    Calls Tryz.prog 178 #[.agg #[.string (B nm),u],.pointer (some ⟨bx,0,none⟩)] w fun e w' => e = .returned (.bool (nm == tt)) ∧ w.grownBy w' none := by
  have a0 := fun x => cell_past hbx x
  have a2 := fun x => cell_past hc2 x
  go_enter Tryz.func178,Tryz.ntmps178
  go_wp2_with fail
  go_region
  go_wp2
  go_ret
  exact ⟨congrArg (fun b => Ending.returned (.bool b)) (str_beq nm tt),grown_drew (World.grownBy_alloc _ _ _)⟩
def GAt (w : World) (g : Nat) (ns : List (List UInt8)) (us : List Value) : Prop :=
  us.length = ns.length ∧ g < w.heap.size ∧ ∀ (i : Nat) (nm : List UInt8) (u : Value),ns[i]? = some nm → us[i]? = some u → w.cell? ⟨g,i * 2,none⟩ = some (.string (B nm)) ∧ w.cell? ⟨g,i * 2 + 1,none⟩ = some u ∧ u.oneCell' = true
theorem GAt.grown {w w' : World} {g : Nat} {ns : List (List UInt8)} {us : List Value} (h : GAt w g ns us) (hg : w.grownBy w' none) : GAt w' g ns us := by
  obtain ⟨h1,h2,h3⟩ := h
  refine ⟨h1,Nat.lt_of_lt_of_le h2 hg.size,fun i nm u e1 e2 => ?_⟩
  obtain ⟨q1,q2,q3⟩ := h3 i nm u e1 e2
  have hb := hg.block g h2 (by simp)
  exact ⟨by rw [World.cell?_of_block (a := ⟨g,i * 2,none⟩) hb]; exact q1,by rw [World.cell?_of_block (a := ⟨g,i * 2 + 1,none⟩) hb]; exact q2,q3⟩
theorem mem_step {l : List (List UInt8)} {j : Nat} {a x : List UInt8} (h : l[j]? = some a) : x ∈ l.take (j + 1) ↔ x ∈ l.take j ∨ x = a := by
  rw [List.take_add_one,h]
  simp
theorem nofIndex (tt : List UInt8) (g cap bx rb : Nat) (ns : List (List UInt8)) (us : List Value) (w : World) (hn : ns.length ≤ 400) (hg : GAt w g ns us) (hbx : w.cell? ⟨bx,0,none⟩ = some (.pointer (some ⟨rb,0,none⟩))) (hbl : bx < w.heap.size) (hc2 : w.cell? ⟨rb,2,none⟩ = some (.string (B tt))) (hrl : rb < w.heap.size) :
    Calls Tryz.prog 192 #[.slice (some ⟨g,0,none⟩) ns.length cap,.func (.func 178) #[] #[.pointer (some ⟨bx,0,none⟩)]] w fun e w' => (∃ k : Int,e = .returned (.int .i64 k) ∧ (0 ≤ k ↔ tt ∈ ns)) ∧ w.grownBy w' none := by
  have HG := hid hg
  clear hg
  go_enter Tryz.func192,Tryz.ntmps192
  go_wp2_with fail
  go_loopg [8] (ns.length + 1) (fun q i wi => ∃ j : Nat,j ≤ ns.length ∧ i = .int .i64 j ∧ q = ns.length - j + 1 ∧ tt ∉ ns.take j ∧ w.grownBy wi none)
  case atStart => exact ⟨0,by omega,rfl,by omega,by simp,World.grownBy.refl _ _⟩
  case round =>
    obtain ⟨j,hj,rfl,hq,hnot,hgr⟩ := hrel
    rename World => wi
    by_cases hlt : j < ns.length
    · obtain ⟨nm,hnm⟩ : ∃ nm,ns[j]? = some nm := ⟨ns[j],List.getElem?_eq_getElem _⟩
      have hul := HG.out.1
      obtain ⟨u,hu⟩ : ∃ u,us[j]? = some u := ⟨us[j]'(by omega),List.getElem?_eq_getElem _⟩
      obtain ⟨c0,c1,hone⟩ := (HG.out.grown hgr).2.2 j nm u hnm hu
      have d0 := hbx
      rw [← World.cell?_of_block (a := ⟨bx,0,none⟩) (hgr.block bx hbl (by simp))] at d0
      have d2 := hc2
      rw [← World.cell?_of_block (a := ⟨rb,2,none⟩) (hgr.block rb hrl (by simp))] at d2
      have hj2 : (j : Int) < (ns.length : Int) := by omega
      have HGR := hid hgr
      have HM := hid (mem_step (x := tt) hnm)
      clear hgr
      by_cases he : nm = tt
      · have hb : (nm == tt) = true := by simp [he]
        have hmem : tt ∈ ns := by rw [← he]; exact List.mem_of_getElem? hnm
        clear he
        go_wp2_with (go_at_call 178; refine (nofClosure nm tt u bx rb _ d0 d2).mono ?_; rintro e w' ⟨rfl,g7⟩; rw [hb]; have G7 := hid g7; clear g7)
        go_ret
        exact ⟨⟨(j : Int),rfl,fun _ => hmem,fun _ => Int.natCast_nonneg j⟩,HGR.out.trans G7.out⟩
      · have hb : (nm == tt) = false := by simp [he]
        go_wp2_with (go_at_call 178; refine (nofClosure nm tt u bx rb _ d0 d2).mono ?_; rintro e w' ⟨rfl,g7⟩; rw [hb]; have G7 := hid g7; clear g7)
        go_roundg (ns.length - (j + 1) + 1)
        case measure => omega
        case rel => exact ⟨j + 1,by omega,by go_num,rfl,fun h => ((HM.out).1 h).elim hnot (fun e => he e.symm),HGR.out.trans G7.out⟩
    · have hj3 : j = ns.length := by omega
      subst hj3
      rw [List.take_of_length_le (Nat.le_refl _)] at hnot
      go_wp2
      go_ret
      exact ⟨⟨-1,rfl,by simp [hnot]⟩,hgr⟩
theorem nameOf_p (w : World) (rb : Nat) (s : ByteArray) (J : Nat) (g cap : Nat) (ns : List (List UInt8)) (us : List Value) (hn : ns.length ≤ 400) (hrd : Rdr w rb s J) (hg : GAt w g ns us) :
    Calls Tryz.prog 145 #[rdV rb,.slice (some ⟨g,0,none⟩) ns.length cap] w fun e w' => e = .returned (.bool (decide (nxT s.data.toList J ∈ ns))) ∧ w.grownBy w' none := by
  have hmf : ∀ (fn : Fn) (first cap : Array Value) (w : World),(Instr.makeFunc fn first cap).run Tryz.prog w = .ok (.func fn first cap) w := fun _ _ _ _ => rfl
  have hlt := lt_of_block hrd
  obtain ⟨c0,c1,c2,c3,f1,f2,f3⟩ := four_p hrd
  generalize nxT s.data.toList J = tt at *
  have HIX := hid (nofIndex tt g cap w.heap.size rb ns us (w.alloc (.cells #[.pointer (some ⟨rb,0,none⟩)] 153)) hn (hg.grown (World.grownBy_alloc _ _ _)) (by simp [go_sem]) (by simp) (cell_past c2 _) (by simp; omega))
  clear c0 c1 c2 c3 f1 f2 f3 hrd hg
  unfold rdV
  by_cases hm : tt ∈ ns
  · have hd : decide (tt ∈ ns) = true := by simp [hm]
    rw [hd]
    go_enter Tryz.func145,Tryz.ntmps145
    go_wp2_with (first | (go_at_call 192; refine HIX.out.mono ?_; rintro e w' ⟨⟨k,rfl,hk⟩,g7⟩; have G7 := hid g7; have hk2 := hk.2 hm; clear g7) | go_in)
    go_ret
    exact ⟨rfl,(World.grownBy_alloc _ _ _).trans G7.out⟩
  · have hd : decide (tt ∈ ns) = false := by simp [hm]
    rw [hd]
    go_enter Tryz.func145,Tryz.ntmps145
    go_wp2_with (first | (go_at_call 192; refine HIX.out.mono ?_; rintro e w' ⟨⟨k,rfl,hk⟩,g7⟩; have G7 := hid g7; have hk2 : ¬ 0 ≤ k := fun h => hm (hk.1 h); clear g7) | go_in)
    go_ret
    exact ⟨rfl,(World.grownBy_alloc _ _ _).trans G7.out⟩
theorem binds_bad {E : St → Option (Ex × St)} {T : List Tok} {f : Nat} {x : Ex} {st : St} {y : Ex} {s2 : St} (hb : 0 ≤ st.bad) (h : bindsS E T f x st = some (y,s2)) : s2 = st := by
  cases f with
  | zero => simp [bindsS] at h
  | succ f =>
    rw [bindsS,if_neg (by rw [isS_bad hb]; simp)] at h
    cases h
    rfl
theorem bindCells_snoc : ∀ (ns : List (List UInt8)) (us : List Value) (n : List UInt8) (u : Value),us.length = ns.length → bindCells (ns ++ [n]) (us ++ [u]) = bindCells ns us ++ [.string (B n),u]
  | [],[],_,_,_ => rfl
  | [],_ :: _,_,_,h => by simp at h
  | _ :: _,[],_,_,h => by simp at h
  | a :: ns,b :: us,n,u,h => by
    have := bindCells_snoc ns us n u (by simpa using h)
    simp [bindCells,this]
theorem bindCells_get : ∀ (ns : List (List UInt8)) (us : List Value) (i : Nat) (nm : List UInt8) (u : Value),us.length = ns.length → ns[i]? = some nm → us[i]? = some u → (bindCells ns us)[i * 2]? = some (.string (B nm)) ∧ (bindCells ns us)[i * 2 + 1]? = some u
  | [],_,_,_,_,_,h,_ => by simp at h
  | _ :: _,[],_,_,_,h,_,_ => by simp at h
  | a :: ns,b :: us,0,nm,u,_,h1,h2 => by
    simp at h1 h2
    subst h1 h2
    exact ⟨rfl,rfl⟩
  | a :: ns,b :: us,i + 1,nm,u,h,h1,h2 => by
    have := bindCells_get ns us i nm u (by simpa using h) (by simpa using h1) (by simpa using h2)
    rw [show (i + 1) * 2 = i * 2 + 2 from by omega,show i * 2 + 2 + 1 = i * 2 + 1 + 2 from by omega]
    simpa [bindCells] using this
def AllX (us : List Value) : Prop := ∀ u,u ∈ us → ∃ t b,u = (.iface t (.pointer (some ⟨b,0,none⟩)))
theorem own_gat {w : World} {base : Nat} {gv : Value} {ns : List (List UInt8)} {us : List Value} (h : w.ownsRow base 187 2 gv ns.length (bindCells ns us)) (hl : us.length = ns.length) (h0 : 0 < ns.length) (hx : AllX us) :
    ∃ g cap,gv = .slice (some ⟨g,0,none⟩) ns.length cap ∧ base ≤ g ∧ g < w.heap.size ∧ GAt w g ns us := by
  obtain ⟨_,h2⟩ := h
  rcases h2 with ⟨_,h3⟩ | ⟨g,cap,cur,h1,h2,h3,h4,h5,h6,h7⟩
  · omega
  · refine ⟨g,cap,h1,h2,lt_of_block h3,hl,lt_of_block h3,fun i nm u e1 e2 => ?_⟩
    have hi : i < ns.length := by
      rcases Nat.lt_or_ge i ns.length with h | h
      · exact h
      · rw [List.getElem?_eq_none h] at e1; cases e1
    obtain ⟨q1,q2⟩ := bindCells_get ns us i nm u hl e1 e2
    rw [← h7,List.getElem?_take,if_pos (by omega)] at q1 q2
    obtain ⟨t,b,rfl⟩ := hx u (List.mem_of_getElem? e2)
    refine ⟨?_,?_,rfl⟩
    · simp only [World.cell?,h3]
      simpa using q1
    · simp only [World.cell?,h3]
      simpa using q2
def NmOK (nm : List UInt8) : Prop := (∃ c r,nm = c :: r ∧ low c = true) ∧ nm ∉ exKw
theorem name_ok {l : List UInt8} {T : List Tok} {k J : Nat} (h : At exKw l T k J) (hk : (tk T k).is = kName) : NmOK (tk T k).s := by
  have ha := asked exKw exKw_ok l J h.1
  rw [h.tk] at hk ⊢
  have h1 := ha.name.2 hk
  have h2 := ha.real (by rw [hk]; decide) (by rw [hk]; decide)
  rw [← h2.1]
  exact ⟨ha.isWord h1.1,h1.2⟩
theorem ok_name {l : List UInt8} {T : List Tok} {k J : Nat} (h : At exKw l T k J) (hn : NmOK (nxT l J)) : (tk T k).is = kName := by
  have ha := asked exKw exKw_ok l J h.1
  rw [h.tk]
  obtain ⟨⟨c,r,h1,h2⟩,h3⟩ := hn
  by_cases hk : nxK l J = 2
  · exact ha.name.1 ⟨hk,h3⟩
  · have := ha.notWord hk _ rfl c r h1
    rw [h2] at this
    cases this
theorem info_bind : (Tryz.prog.info? 187).map (fun i => (i.zero,i.size,i.bytes)) = some (some (.agg #[.string (B []),.nilIface]),2,32) := by kernel_rfl
theorem info_exp : (Tryz.prog.info? 101).map (fun i => (i.zero,i.size,i.bytes)) = some (some .nilIface,1,16) := by kernel_rfl
theorem two_new (w : World) (a b : Value) (t : TypeId) : ∀ (j : Nat) (u : Value),[a,b][j]? = some u → (w.alloc (.cells #[a,b] t)).cell? (Addr.add ⟨w.heap.size,0,none⟩ j) = some u := by
  intro j u h
  match j,h with
  | 0,h => simp at h; subst h; simp [go_sem]
  | 1,h => simp at h; subst h; simp [go_sem]
  | j + 2,h => simp at h
theorem bind_one (nm : List UInt8) (t b : Nat) : ∀ u,u ∈ [Value.string (B nm),(.iface t (.pointer (some ⟨b,0,none⟩)))] → u.oneCell' = true := by
  intro u hu
  simp at hu
  rcases hu with rfl | rfl <;> rfl
theorem exp_one (t b : Nat) : ∀ u,u ∈ [((.iface t (.pointer (some ⟨b,0,none⟩))) : Value)] → u.oneCell' = true := by
  intro u hu
  simp at hu
  subst hu
  rfl
theorem own_first (w : World) (base : Nat) (hb : base ≤ w.heap.size) (nm : List UInt8) (u : Value) : (w.alloc (.cells #[.string (B nm),u] 187)).ownsRow base 187 2 (.slice (some ⟨w.heap.size,0,none⟩) 1 1) 1 (bindCells [nm] [u]) :=
  ⟨rfl,Or.inr ⟨w.heap.size,1,#[.string (B nm),u],rfl,hb,heap_alloc_new _ _,by omega,by unfold maxLen; omega,rfl,rfl⟩⟩
theorem own_kept {w w' : World} {rb base e size n : Nat} {v : Value} {xs : List Value} (h : w.ownsRow base e size v n xs) (hk : Kept rb w w') (hr : rb < base) : w'.ownsRow base e size v n xs :=
  own_at h fun k hk' => hk.block k (own_lt h hk').2 (by have := (own_lt h hk').1; simp; omega)
structure RI (T : List Tok) (w wi : World) (rb : Nat) (s : ByteArray) (H : Nat → Option Obj) (k0 : Nat) (gv : Value) (y : Ex) (sy : St) (us : List Value) (Hi : Nat → Option Obj) (m : Nat) : Prop where
  own : wi.ownsRow (w.heap.size + 1) 187 2 gv y.names.length (bindCells y.names us)
  ulen : us.length = y.names.length
  some' : 0 < y.names.length
  allx : AllX us
  free : ∀ k,some k = gv.ownBlock → Hi k = none
  op : y.op = kRec
  klen : y.kids.length = y.names.length
  reps : ∀ (i : Nat) (k : Ex) (u : Value),us[i]? = some u → y.kids[i]? = some k → PRep m Hi u k
  nms : ∀ nm,nm ∈ y.names → NmOK nm
  st : PSt exKw wi rb s T sy
  kept : Kept rb w wi
  fz : Fz Hi wi
  ext : Ext w.heap.size H Hi
  deep : ∀ k,k ∈ y.kids → exDeep m k + k0 + 1 ≤ sy.k
  count : y.names.length + k0 ≤ sy.k
  box : wi.cell? ⟨w.heap.size,0,none⟩ = some (.pointer (some ⟨rb,0,none⟩))
  more : w.heap.size < wi.heap.size
theorem RI.rb {T : List Tok} {w wi : World} {rb : Nat} {s : ByteArray} {H : Nat → Option Obj} {k0 : Nat} {gv : Value} {y : Ex} {sy : St} {us : List Value} {Hi : Nat → Option Obj} {m : Nat} (h : RI T w wi rb s H k0 gv y sy us Hi m) (hrb : rb < w.heap.size) (hr : H rb = none) : Hi rb = none := by
  rw [h.ext.2 rb hrb]
  exact hr
theorem RI.step {T : List Tok} {w wi w' : World} {rb : Nat} {s : ByteArray} {H : Nat → Option Obj} {k0 : Nat} {gv : Value} {y : Ex} {sy sy' : St} {us : List Value} {Hi : Nat → Option Obj} {m : Nat} (h : RI T w wi rb s H k0 gv y sy us Hi m)
    (hk : Kept rb wi w') (hp : PSt exKw w' rb s T sy') (hle : sy.k ≤ sy'.k) (hrb : rb < w.heap.size) (hr : H rb = none) : RI T w w' rb s H k0 gv y sy' us Hi m :=
  ⟨own_kept h.own hk (by omega),h.ulen,h.some',h.allx,h.free,h.op,h.klen,h.reps,h.nms,hp,h.kept.trans hk,h.fz.kept hk (h.rb hrb hr),h.ext,fun k hk' => by have := h.deep k hk'; omega,by have := h.count; omega,
    by rw [kept_cell hk h.more (by omega)]; exact h.box,Nat.lt_of_lt_of_le h.more hk.size⟩
theorem RI.grown {T : List Tok} {w wi w' : World} {rb : Nat} {s : ByteArray} {H : Nat → Option Obj} {k0 : Nat} {gv : Value} {y : Ex} {sy : St} {us : List Value} {Hi : Nat → Option Obj} {m : Nat} (h : RI T w wi rb s H k0 gv y sy us Hi m)
    (hg : wi.grownBy w' none) (hrb : rb < w.heap.size) (hr : H rb = none) : RI T w w' rb s H k0 gv y sy us Hi m :=
  h.step (Kept.of0 rb hg) (h.st.grown hg) (Nat.le_refl _) hrb hr
theorem RI.start {T : List Tok} {w w1 : World} {rb : Nat} {s : ByteArray} {H : Nat → Option Obj} {st s1 : St} {t b : TypeId} {H1 : Nat → Option Obj} {m : Nat} {x : Ex} (p : Nat) (hrb : rb < w.heap.size) (hnm : NmOK (tk T st.k).s)
    (hk : Kept rb (w.alloc (.cells #[.pointer (some ⟨rb,0,none⟩)] 153)) w1) (hp : PSt exKw w1 rb s T s1) (hz : Fz H1 w1) (he : Ext (w.alloc (.cells #[.pointer (some ⟨rb,0,none⟩)] 153)).heap.size H H1) (hx : PRep m H1 (.iface t (.pointer (some ⟨b,0,none⟩))) x) (hd : exDeep m x + st.k + 2 ≤ s1.k) :
    RI T w (w1.alloc (.cells #[.string (B (tk T st.k).s),(.iface t (.pointer (some ⟨b,0,none⟩)))] 187)) rb s H st.k (.slice (some ⟨w1.heap.size,0,none⟩) 1 1) ⟨kRec,[(tk T st.k).s],[x],p⟩ s1 [(.iface t (.pointer (some ⟨b,0,none⟩)))] H1 m := by
  have hs : w.heap.size + 1 ≤ w1.heap.size := by have := hk.size; simp at this; omega
  refine ⟨own_first w1 _ hs _ _,rfl,by simp,fun u hu => by simp at hu; exact ⟨t,b,hu⟩,fun k hk' => ?_,rfl,rfl,fun i k u h1 h2 => ?_,fun nm hn => by simp at hn; rw [hn]; exact hnm,hp.alloc _,(((Kept.refl rb w).alloc (.cells #[.pointer (some ⟨rb,0,none⟩)] 153)).trans hk).alloc _,hz.alloc _,he.from (by simp),fun k hk' => ?_,?_,?_,by simp; omega⟩
  · simp [Value.ownBlock] at hk'
    subst hk'
    exact hz.none (Nat.le_refl _)
  · cases i with
    | zero => simp at h1 h2; subst h1 h2; exact hx
    | succ i => simp at h1
  · simp at hk'
    subst hk'
    omega
  · have := deep_pos hx
    simp
    omega
  · refine cell_past ?_ _
    rw [kept_cell hk (by simp) (by omega)]
    simp [go_sem]
theorem RI.add {T : List Tok} {w wi w5 w6 : World} {rb : Nat} {s : ByteArray} {H : Nat → Option Obj} {k0 : Nat} {gv : Value} {y : Ex} {sy s4 : St} {us : List Value} {Hi : Nat → Option Obj} {m : Nat} (h : RI T w wi rb s H k0 gv y sy us Hi m) (hrb : rb < w.heap.size)
    {t b : TypeId} {H' : Nat → Option Obj} {m' : Nat} {x : Ex} {nm : List UInt8} (hnm : NmOK nm) (hk : Kept rb wi w5) (hp : PSt exKw w5 rb s T s4) (hz : Fz H' w5) (he : Ext wi.heap.size Hi H') (hx : PRep m' H' (.iface t (.pointer (some ⟨b,0,none⟩))) x) (hd : exDeep m' x + sy.k + 2 ≤ s4.k)
    {g cap : Nat} (hown : w6.ownsRow (w.heap.size + 1) 187 2 (.slice (some ⟨g,0,none⟩) (y.names.length + 1) cap) (y.names.length + 1) (bindCells y.names us ++ [.string (B nm),(.iface t (.pointer (some ⟨b,0,none⟩)))]))
    (hg : (w5.alloc (.cells #[.string (B nm),(.iface t (.pointer (some ⟨b,0,none⟩)))] 187)).grownBy w6 gv.ownBlock) (hat : gv.ownBlock = some g ∨ g = w5.heap.size + 1) :
    RI T w w6 rb s H k0 (.slice (some ⟨g,0,none⟩) (y.names.length + 1) cap) ⟨y.op,y.names ++ [nm],y.kids ++ [x],y.pos⟩ s4 (us ++ [(.iface t (.pointer (some ⟨b,0,none⟩)))]) H' (max m m') := by
  have hsz : wi.heap.size ≤ w5.heap.size := hk.size
  have hmore := h.more
  have glt : ∀ k,some k = gv.ownBlock → w.heap.size + 1 ≤ k ∧ k < wi.heap.size := fun k e => own_lt h.own e
  have same : ∀ k,k < w5.heap.size → some k ≠ gv.ownBlock → w6.heap[k]? = w5.heap[k]? := fun k h1 h2 => by
    rw [hg.block k (by simp; omega) h2,Below.heap_alloc _ _ _ h1]
  have hfree' : ∀ k,some k = gv.ownBlock → H' k = none := fun k e => by
    rw [he.2 k (glt k e).2]
    exact h.free k e
  have hs6 : w5.heap.size ≤ w6.heap.size := by have := hg.size; simp at this; omega
  refine ⟨?_,by simp [h.ulen],by simp,?_,?_,h.op,by simp [h.klen],?_,?_,?_,?_,?_,h.ext.trans he (Nat.le_of_lt hmore),?_,?_,?_,by omega⟩
  · rw [List.length_append,bindCells_snoc _ _ _ _ h.ulen]
    exact hown
  · intro u hu
    rcases List.mem_append.1 hu with hu | hu
    · exact h.allx u hu
    · simp at hu; exact ⟨t,b,hu⟩
  · intro k e
    simp [Value.ownBlock] at e
    subst e
    rcases hat with hat | hat
    · exact hfree' _ hat.symm
    · exact hz.none (by omega)
  · intro i k u h1 h2
    rcases Nat.lt_or_ge i us.length with hi | hi
    · rw [List.getElem?_append_left hi] at h1
      rw [List.getElem?_append_left (by rw [h.klen,← h.ulen]; exact hi)] at h2
      exact (PRep.ext he _ _ _ (h.reps i k u h1 h2)).le (by omega)
    · rw [List.getElem?_append_right hi] at h1
      rw [List.getElem?_append_right (by rw [h.klen,← h.ulen]; exact hi)] at h2
      rw [h.klen,← h.ulen] at h2
      cases e : i - us.length with
      | zero =>
        rw [e] at h1 h2
        simp at h1 h2
        subst h1 h2
        exact hx.le (by omega)
      | succ j => rw [e] at h1; simp at h1
  · intro n hn
    rcases List.mem_append.1 hn with hn | hn
    · exact h.nms n hn
    · simp at hn; rw [hn]; exact hnm
  · obtain ⟨q1,⟨J,q2,q3⟩,q4⟩ := hp
    exact ⟨q1,⟨J,q2,by unfold Rdr; rw [same rb (lt_of_block q3) (fun e => by have := (glt rb e).1; omega)]; exact q3⟩,q4⟩
  · have k1 := h.kept.trans hk
    exact ⟨hg.os.trans k1.os,hg.tape.trans k1.tape,hg.output.trans k1.output,by have := k1.size; omega,fun k hk' hn => by
      rw [same k (by omega) (fun e => by have := (glt k e).1; omega)]
      exact k1.block k hk' hn⟩
  · intro k o e
    rw [same k (hz.lt e) (fun e' => by rw [hfree' k e'] at e; cases e)]
    exact hz k o e
  · intro k hk'
    rcases List.mem_append.1 hk' with hk' | hk'
    · obtain ⟨i,hi,rfl⟩ := List.mem_iff_getElem.1 hk'
      have hui : i < us.length := by rw [h.ulen,← h.klen]; exact hi
      have hr := h.reps i (y.kids[i]) (us[i]) (List.getElem?_eq_getElem hui) (List.getElem?_eq_getElem hi)
      rw [deep_le (PRep.shape _ _ _ hr) (show m ≤ max m m' by omega)]
      have := h.deep _ hk'
      omega
    · simp at hk'
      subst hk'
      rw [deep_le (PRep.shape _ _ _ hx) (show m' ≤ max m m' by omega)]
      have := h.count
      have := h.some'
      omega
  · have := h.count
    have := deep_pos hx
    simp
    omega
  · rw [World.cell?_of_block (a := ⟨w.heap.size,0,none⟩) (same w.heap.size (by omega) (fun e => by have := (glt _ e).1; omega)),kept_cell hk hmore (by omega)]
    exact h.box
theorem twice_same {names : List (List UInt8)} {nm : List UInt8} {p : Nat} {st : St} (h : ¬ (nm ∈ names ∧ st.bad < 0)) : twiceS names nm p st = st := by
  unfold twiceS
  rw [if_neg h]
theorem own_exp1 (w : World) (u : Value) : (w.alloc (.cells #[u] 101)).ownsRow w.heap.size 101 1 (.slice (some ⟨w.heap.size,0,none⟩) 1 1) 1 [u] :=
  ⟨rfl,Or.inr ⟨w.heap.size,1,#[u],rfl,Nat.le_refl _,heap_alloc_new _ _,by omega,by unfold maxLen; omega,rfl,rfl⟩⟩
theorem grown_own {a b c : World} {row : Option Nat} (h : a.grownBy b none) (hg : b.grownBy c row) (hr : ∀ k,some k = row → a.heap.size ≤ k) : a.grownBy c none :=
  ⟨hg.os.trans h.os,hg.tape.trans h.tape,hg.output.trans h.output,Nat.le_trans h.size hg.size,fun k hk hn => by
    rw [hg.block k (Nat.lt_of_lt_of_le hk h.size) (fun e => by have := hr k e; omega)]
    exact h.block k hk hn⟩
theorem own_row {w : World} {base n : Nat} {v : Value} {xs : List Value} (h : w.ownsRow base 101 1 v n xs) (h0 : 0 < n) : ∃ g cap,v = .slice (some ⟨g,0,none⟩) n cap ∧ g < w.heap.size ∧ ∀ (i : Nat) (u : Value),xs[i]? = some u → w.cell? ⟨g,i,none⟩ = some u := by
  obtain ⟨h1,h2⟩ := h
  rcases h2 with ⟨_,h3⟩ | ⟨g,cap,cur,e1,e2,e3,e4,e5,e6,e7⟩
  · omega
  · refine ⟨g,cap,e1,lt_of_block e3,fun i u hu => ?_⟩
    rw [← e7,List.getElem?_take] at hu
    split at hu
    · simp only [World.cell?,e3]
      simpa using hu
    · cases hu
theorem maxl_cons (a : Nat) (l : List Nat) : maxl (a :: l) = maxl (l ++ [a]) := by
  rw [maxl_snoc]
  unfold maxl
  rw [List.foldl_cons,foldl_max]
  omega
theorem maxl_le {l : List Nat} {b : Nat} (h : ∀ a,a ∈ l → a ≤ b) : maxl l ≤ b := by
  induction l with
  | nil => simp [maxl]
  | cons a l ih =>
    rw [maxl_cons,maxl_snoc]
    have := ih (fun x hx => h x (List.mem_cons_of_mem _ hx))
    have := h a (List.mem_cons_self ..)
    omega
theorem letRec_p (T : List Tok) (n : Nat) (hl : T.length ≤ 400) (hE : EXPP T n) (w : World) (rb : Nat) (s : ByteArray) (H : Nat → Option Obj) (st : St) (x y b : Ex) (s1 s2 s3 : St) (p : Nat)
    (hx : boundS (expS T n) T ⟨kRec,[],[],p⟩ st = some (x,s1)) (hy : bindsS (expS T n) T (T.length + 1) x s1 = some (y,s2)) (hw : expS T n (needS T s2 kIn) = some (b,s3)) (h : PSt exKw w rb s T st) (hz : Fz H w) (hr : H rb = none) :
    Calls Tryz.prog 112 #[rdV rb] w fun e w' => EOut w w' rb s T H st.k s3 e ⟨y.op,y.names,y.kids ++ [b],y.pos⟩ := by
  have hlt := h.lt
  have HP := hid (h.alloc (.cells #[.pointer (some ⟨rb,0,none⟩)] 153))
  have HZ := hid (hz.alloc (.cells #[.pointer (some ⟨rb,0,none⟩)] 153))
  have HE := hid hE
  have K0 := hid ((Kept.refl rb w).alloc (.cells #[.pointer (some ⟨rb,0,none⟩)] 153))
  have F2 := hid (show 0 ≤ s2.bad → s3 = s2 from fun hb => by
    have e := exp_bad_st (by rw [need_bad hb]; exact hb) hw
    rw [e,need_bad hb])
  have F3 := hid (show 0 ≤ (needS T s2 kIn).bad → s3 = needS T s2 kIn from fun hb => exp_bad_st hb hw)
  unfold boundS at hx
  rw [twice_same (by simp)] at hx
  dsimp only at hx
  cases hex : expS T n (needS T (needS T st kName) kEq) with
  | none => rw [hex] at hx; cases hx
  | some q =>
  obtain ⟨a,s1'⟩ := q
  rw [hex] at hx
  cases hx
  have HX := hid hex
  have HY := hid hy
  have HW := hid hw
  obtain ⟨J0,hat0,_⟩ := h.place
  have HNM := hid (show (tk T st.k).is = kName → NmOK (tk T st.k).s from fun e => name_ok hat0 e)
  have hnegs := h.neg
  clear h hz hE hex hy hw hat0
  unfold rdV
  go_enter Tryz.func112,Tryz.ntmps112
  go_wp2_with fail
  refine (bind_p T n HE.out _ rb s H st a s1 HX.out HP.out HZ.out hr).mono ?_
  rintro e w1 ⟨k1,(⟨t1,b1,H1,m1,ht1,rfl,p1,z1,e1,r1,d1⟩ | ⟨hb,bb,rfl,hrf⟩)⟩
  case inr =>
    have e4 := binds_bad hb HY.out
    have e5 := F2.out (by rw [e4]; exact hb)
    rw [e4] at e5
    unfold refusal
    go_wp2
    exact ⟨rfl,K0.out.trans k1,Or.inr ⟨by rw [e5]; exact hb,bb,rfl,by rw [e5]; exact hrf⟩⟩
  case inl =>
  have hnm0 : (needS T st kName).bad < 0 := by
    rcases Int.lt_or_le (needS T st kName).bad 0 with h | h
    · exact h
    · have e3 : needS T (needS T st kName) kEq = needS T st kName := need_bad h
      have e4 := exp_bad_st (by rw [e3]; exact h) HX.out
      have := p1.neg
      rw [e4,e3] at this
      omega
  have hnmk : (tk T st.k).is = kName := by
    cases hi : isS T st kName with
    | true => exact isS_is hi
    | false =>
      rw [need_no hnegs hi] at hnm0
      simp at hnm0
      omega
  have RI0 := hid (RI.start (T := T) (st := st) p hlt (HNM.out hnmk) k1 p1 z1 e1 r1 d1)
  have hw1 : w.heap.size < w1.heap.size := by have := k1.size; simp at this; omega
  have bx1 : w1.cell? ⟨w.heap.size,0,none⟩ = some (.pointer (some ⟨rb,0,none⟩)) := by
    rw [kept_cell k1 (by simp) (by omega)]
    simp [go_sem]
  clear k1 p1 z1 e1 r1 d1 hnm0 hnmk HNM HP HZ K0
  go_wp2_with fail
  go_loopg [3] (T.length + 1) (fun g v wi => ∃ yy sy us Hi m,Hid (bindsS (expS T n) T g yy sy = some (y,s2)) ∧ Hid (RI T w wi rb s H st.k v yy sy us Hi m))
  case atStart => exact ⟨_,_,_,_,_,HY,RI0⟩
  case round =>
    obtain ⟨yy,sy,us,Hi,m,BB,RR⟩ := hrel
    rename World => w2
    obtain ⟨F,rfl⟩ : ∃ F,gk = F + 1 := by
      cases gk with
      | zero => have := BB.out; simp [bindsS] at this
      | succ F => exact ⟨F,rfl⟩
    have bx2 := RR.out.box
    go_wp2_with fail
    refine (skips_p exKw exKw_ok _ rb s T sy kAnd RR.out.st (Or.inl (by decide))).mono ?_
    rintro e w3 ⟨rfl,p3,k3⟩
    have e4 := BB.out
    rw [bindsS] at e4
    cases hi : isS T sy kAnd with
    | false =>
      rw [if_neg (by rw [hi]; simp)] at e4
      cases e4
      rw [take_no hi] at p3
      have R3 := hid (RR.out.step k3 p3 (Nat.le_refl _) hlt hr)
      have bx3 := R3.out.box
      clear hi p3 k3 BB RR RI0 HY bx2
      go_wp2_with fail
      refine (must_p exKw exKw_ok _ rb s T s2 kIn R3.out.st (Or.inl (by decide))).mono ?_
      rintro e w4 ⟨k4,(⟨rfl,p4⟩ | ⟨hb,bb,rfl,hrf⟩)⟩
      case inr =>
        have e5 := F3.out hb
        unfold refusal
        go_wp2
        exact ⟨rfl,R3.out.kept.trans k4,Or.inr ⟨by rw [e5]; exact hb,bb,rfl,by rw [e5]; exact hrf⟩⟩
      case inl =>
      have R4 := hid (R3.out.step k4 p4 need_k hlt hr)
      have bx4 := R4.out.box
      clear R3 bx3 k4 p4
      go_wp2_with fail
      refine (HE.out _ rb s Hi _ b s3 HW.out R4.out.st R4.out.fz (R4.out.rb hlt hr)).mono ?_
      rintro e w5 ⟨k5,(⟨v5,H5,m5,rfl,p5,z5,e5,r5,d5⟩ | ⟨hb,bb,rfl,hrf⟩)⟩
      case inr =>
        unfold refusal
        go_wp2
        exact ⟨rfl,R4.out.kept.trans k5,Or.inr ⟨hb,bb,rfl,hrf⟩⟩
      case inl =>
      obtain ⟨t5,b5,ht5,rfl,hb5,hc5⟩ := r5.dat z5
      have own5 := own_kept R4.out.own k5 (by omega)
      obtain ⟨g,cap,rfl,hg1,hg2,hga⟩ := own_gat own5 R4.out.ulen R4.out.some' R4.out.allx
      have hnl : y.names.length ≤ 400 := by have := R4.out.count; have := R4.out.st.klt; omega
      have hul := R4.out.ulen
      have hs5 : w.heap.size < w5.heap.size := Nat.lt_of_lt_of_le R4.out.more k5.size
      have Q5 := hid (And.intro k5 (And.intro p5 (And.intro z5 (And.intro e5 (And.intro r5 d5)))))
      have GA := hid hga
      have O5 := hid own5
      obtain ⟨i1,hi,hz0,hz1,hz2⟩ := info_parts info_exp
      clear k5 p5 z5 e5 r5 d5 hb5 hc5 own5 hga bx4
      go_wp2_with fail
      go_loopg [5,34] (y.names.length + 1) (fun q bv i wi => ∃ j : Nat,j ≤ y.names.length ∧ i = .int .i64 j ∧ q = y.names.length - j + 1 ∧ Hid (wi.ownsRow w5.heap.size 101 1 bv (j + 1) ((.iface t5 (.pointer (some ⟨b5,0,none⟩))) :: us.take j)) ∧ Hid (w5.grownBy wi none))
      case atStart => exact ⟨0,by omega,rfl,by omega,own_exp1 _ _,World.grownBy_alloc _ _ _⟩
      case round =>
        obtain ⟨j,hj,rfl,hq,OW,GR⟩ := hrel
        rename World => w6
        by_cases hlt6 : j < y.names.length
        · obtain ⟨nm,hnm⟩ : ∃ nm,y.names[j]? = some nm := ⟨y.names[j],List.getElem?_eq_getElem _⟩
          obtain ⟨u,hu⟩ : ∃ u,us[j]? = some u := ⟨us[j]'(by omega),List.getElem?_eq_getElem _⟩
          obtain ⟨c0,c1,_⟩ := (GA.out.grown GR.out).2.2 j nm u hnm hu
          obtain ⟨t6,b6,rfl⟩ := R4.out.allx u (List.mem_of_getElem? hu)
          have hj2 : (j : Int) < (y.names.length : Int) := by omega
          have own6 := OW.out
          have HU := hid hu
          have hs6 : w5.heap.size ≤ w6.heap.size := GR.out.size
          clear hu
          go_wp2_with (at_builtin; refine wpList_append_lies _ rfl (.tmp 38) (.tmp 41) 303 rfl w5.heap.size 101 i1 .nilIface 1 16 Tryz.underlying303 hi hz0 hz1 hz2 rfl (by decide) _ _ _ rfl ((own6.alloc _).alloc _) ⟨w6.heap.size + 1,0,none⟩ 1 1 [(.iface t6 (.pointer (some ⟨b6,0,none⟩)))] rfl rfl ?d1 ?d2 (by decide) ?d3 ?d4 ?d5 (w6.heap.size + 2) ?d6 ?_)
          case d1 =>
            intro q uu hq'
            have := one_new (w6.alloc (.cells #[.string (B nm),(.iface t6 (.pointer (some ⟨b6,0,none⟩)))] 187)) (.iface t6 (.pointer (some ⟨b6,0,none⟩))) 101 q uu hq'
            simpa using this
          case d2 => exact exp_one _ _
          case d3 => unfold maxLen; omega
          case d4 => omega
          case d5 => simp; omega
          case d6 => simp
          intro g7 cap7 w7 hown7 hgrow7 _ _
          have ON := hid hown7
          have GN := hid (grown_own ((GR.out.trans (World.grownBy_alloc _ _ _)).trans (World.grownBy_alloc _ _ _)) hgrow7 (fun k e => (own_lt own6 e).1))
          clear hown7 hgrow7 own6 c0 c1
          go_wp2_with fail
          go_roundg (y.names.length - (j + 1) + 1)
          case measure => omega
          case rel =>
            refine ⟨j + 1,by omega,by go_num,rfl,?_,GN⟩
            have e : us.take (j + 1) = us.take j ++ [(.iface t6 (.pointer (some ⟨b6,0,none⟩)))] := by rw [List.take_add_one,HU.out]; rfl
            rw [e]
            exact ON
        · have hj3 : j = y.names.length := by omega
          subst hj3
          have own6 := OW.out
          rw [List.take_of_length_le (by omega)] at own6
          obtain ⟨g6,cap6,rfl,hg6,hrow6⟩ := own_row own6 (by omega)
          have ulen := R4.out.ulen
          have klen := R4.out.klen
          have hs6 : w5.heap.size ≤ w6.heap.size := GR.out.size
          obtain ⟨M,hM⟩ : ∃ M,M = max m m5 := ⟨_,rfl⟩
          obtain ⟨k5,p5,z5,e5,r5,d5⟩ := Q5.out
          have hs3 := p5.klt
          have RB : Hid (PRep M H5 (.iface t5 (.pointer (some ⟨b5,0,none⟩))) b) := r5.le (by omega)
          have RK : Hid (∀ (i : Nat) (k : Ex) (u : Value),us[i]? = some u → y.kids[i]? = some k → PRep M H5 u k) := fun i k u h1 h2 => (PRep.ext e5 _ _ _ (R4.out.reps i k u h1 h2)).le (by omega)
          have Z6 := hid (z5.grown GR.out)
          have hnk : (needS T s2 kIn).k = s2.k + 1 := need_good R4.out.st.neg
          have DK : Hid (∀ k,k ∈ y.kids → exDeep M k + st.k + 1 ≤ s3.k) := fun k hk => by
            obtain ⟨i,hi,rfl⟩ := List.mem_iff_getElem.1 hk
            have hui : i < us.length := by omega
            have hr' := R4.out.reps i (y.kids[i]) (us[i]) (List.getElem?_eq_getElem hui) (List.getElem?_eq_getElem hi)
            rw [deep_le (PRep.shape _ _ _ hr') (show m ≤ M by omega)]
            have := R4.out.deep _ hk
            have := deep_pos r5
            omega
          have DB : Hid (exDeep M b + st.k + 1 ≤ s3.k) := by
            show exDeep M b + st.k + 1 ≤ s3.k
            rw [deep_le (PRep.shape _ _ _ r5) (show m5 ≤ M by omega)]
            have := R4.out.count
            have := R4.out.some'
            omega
          have hml : maxl (exDeep M b :: y.kids.map (exDeep M)) + 1 + st.k ≤ s3.k := by
            have : maxl (exDeep M b :: y.kids.map (exDeep M)) ≤ s3.k - st.k - 1 := maxl_le fun a ha => by
              rcases List.mem_cons.1 ha with rfl | ha
              · have := DB.out; omega
              · obtain ⟨k,hk,rfl⟩ := List.mem_map.1 ha
                have := DK.out k hk
                omega
            have := DB.out
            omega
          have AB := above_p w6 (some ⟨g6,0,none⟩) cap6 ((.iface t5 (.pointer (some ⟨b5,0,none⟩))) :: us) (exDeep M b :: y.kids.map (exDeep M)) (by simp; omega) (by simp; omega) (fun i u hu => ⟨g6,rfl,hg6,hrow6 i u hu⟩)
            (fun i u d h1 h2 => by
              cases i with
              | zero => simp at h1 h2; subst h1 h2; exact RB.out.dat Z6.out
              | succ i =>
                simp only [List.getElem?_cons_succ,List.getElem?_map,Option.map_eq_some_iff] at h1 h2
                obtain ⟨k,hk,rfl⟩ := h2
                exact (RK.out i k u h1 hk).dat Z6.out) (by omega)
          have hln : ((.iface t5 (.pointer (some ⟨b5,0,none⟩))) :: us).length = y.names.length + 1 := by simp [ulen]
          rw [hln] at AB
          obtain ⟨_,hO⟩ := O5.out
          rcases hO with ⟨hO,_⟩ | ⟨gg,cc,cur,hO1,hO2,hO3,hO4,hO5,hO6,hO7⟩
          · cases hO
          cases hO1
          have hfree : H5 g = none := by
            rw [e5.2 g (own_lt R4.out.own (k := g) rfl).2]
            exact R4.out.free g rfl
          have CUR := hid (And.intro hO3 (And.intro hO7 hfree))
          have ABH := hid AB
          have HML := hid hml
          have K5 := hid (R4.out.kept.trans k5)
          have P5 := hid p5
          have E5 := hid (R4.out.ext.trans (e5.from (n := w.heap.size) (Nat.le_of_lt R4.out.more)) (Nat.le_refl _))
          have hop := hid R4.out.op
          have hsm := hid R4.out.some'
          clear AB hO3 hO7 hfree hml own6 hrow6 k5 p5 z5 e5 r5 d5 hM hO2 hO4 hO5 hO6
          go_wp2_with fail
          refine ABH.out.mono ?_
          rintro e w8 ⟨rfl,g8⟩
          have G8 := hid g8
          have hs8 : w6.heap.size ≤ w8.heap.size := g8.size
          clear g8
          go_wp2
          go_ret
          obtain ⟨hO3,hO7,hfree⟩ := CUR.out
          have hgl : g < w5.heap.size := lt_of_block hO3
          have blk : w8.heap[g]? = some (.cells cur 187 (0,0)) := by
            rw [G8.out.block g (by omega) (by simp),GR.out.block g hgl (by simp)]
            exact hO3
          have ext6 : Ext w.heap.size H5 (Fz.more H5 g (.cells cur 187 (0,0))) := (Ext.refl _ _).add (by omega) hfree
          have z8 : Fz (Fz.more H5 g (.cells cur 187 (0,0))) w8 := (Z6.out.grown G8.out).add blk
          have hdep : exDeep (M + 1) ⟨kRec,y.names,y.kids ++ [b],y.pos⟩ = maxl (exDeep M b :: y.kids.map (exDeep M)) + 1 := by
            show maxl ((y.kids ++ [b]).map (exDeep M)) + 1 = _
            rw [List.map_append,maxl_cons]
            rfl
          rw [hop.out]
          obtain ⟨H9,z9,x9,r9⟩ := node_rep (w := w8) z8 ⟨kRec,y.names,y.kids ++ [b],y.pos⟩ (us ++ [(.iface t5 (.pointer (some ⟨b5,0,none⟩)))]) M (.cells #[.int .i64 ((maxl (exDeep M b :: y.kids.map (exDeep M)) + 1 : Nat) : Int),.slice (some ⟨g,0,none⟩) y.names.length cap,(.iface t5 (.pointer (some ⟨b5,0,none⟩)))] 194) (by simp; omega)
            (fun i k u h1 h2 => by
              rcases Nat.lt_or_ge i us.length with hi | hi
              · rw [List.getElem?_append_left hi] at h1
                rw [List.getElem?_append_left (by omega)] at h2
                exact PRep.ext ext6 _ _ _ (RK.out i k u h1 h2)
              · rw [List.getElem?_append_right hi] at h1
                rw [List.getElem?_append_right (by omega),klen,← ulen] at h2
                cases e : i - us.length with
                | zero =>
                  rw [e] at h1 h2
                  simp at h1 h2
                  subst h1 h2
                  exact PRep.ext ext6 _ _ _ RB.out
                | succ q => rw [e] at h1; simp at h1)
            (fun H' hx h2 => by
              rw [hdep]
              exact Or.inr (Or.inr (Or.inr (Or.inr (Or.inr (Or.inl ⟨rfl,us,(.iface t5 (.pointer (some ⟨b5,0,none⟩))),_,hsm.out,ulen,by simp [klen],rfl,⟨g,cap,cur,rfl,hx.1 _ _ (Fz.more_same _ _ _),hO7⟩,h2⟩))))))
          refine ⟨((K5.out.trans (Kept.of0 rb GR.out)).trans (Kept.of0 rb G8.out)).alloc _,Or.inl ⟨_,H9,M + 1,rfl,((P5.out.grown GR.out).grown G8.out).alloc _,z9,(E5.out.trans ext6 (Nat.le_refl _)).trans x9 (by omega),r9,?_⟩⟩
          rw [hdep]
          exact HML.out
    | true =>
      rw [if_pos ⟨RR.out.op,hi⟩] at e4
      rw [take_yes hi] at p3
      have hupk : sy.up.k = sy.k + 1 := rfl
      have R3 := hid (RR.out.step k3 p3 (by rw [hupk]; omega) hlt hr)
      clear hi p3 k3 BB RR RI0 HY bx2
      obtain ⟨g,cap,rfl,hg1,hg2,hga⟩ := own_gat R3.out.own R3.out.ulen R3.out.some' R3.out.allx
      obtain ⟨J,hat,hrd⟩ := R3.out.st.place
      have bx3 := R3.out.box
      have hcnt := R3.out.count
      have hklt := R3.out.st.klt
      have hpos := (asked exKw exKw_ok s.data.toList J hat.1).pos
      rw [← hat.tk] at hpos
      have NO := hid (nameOf_p w3 rb s J g cap yy.names us (by omega) hrd hga)
      unfold boundS at e4
      go_wp2_with fail
      refine NO.out.mono ?_
      rintro e w4 ⟨rfl,g4⟩
      by_cases hm : nxT s.data.toList J ∈ yy.names
      · have hd : decide (nxT s.data.toList J ∈ yy.names) = true := by simp [hm]
        have hk := ok_name hat (R3.out.nms _ hm)
        have hre := (asked exKw exKw_ok s.data.toList J hat.1).real (by rw [← hat.tk,hk]; decide) (by rw [← hat.tk,hk]; decide)
        rw [← hat.tk] at hre
        have hys : isS T sy.up kName = true := by simp [isS,R3.out.st.neg,hk]
        have htw : twiceS yy.names (tk T sy.up.k).s (tk T sy.up.k).pos (needS T sy.up kName) = ⟨sy.up.k + 1,((tk T sy.up.k).pos : Int)⟩ := by
          unfold twiceS
          rw [need_yes hys,take_yes hys,if_pos ⟨by rw [← hre.1]; exact hm,R3.out.st.neg⟩]
          rfl
        rw [htw] at e4
        have hbad : (0 : Int) ≤ (⟨sy.up.k + 1,((tk T sy.up.k).pos : Int)⟩ : St).bad := by simp
        rw [need_bad hbad] at e4
        have S3 : Hid (s3.bad = (J : Int)) := by
          cases hq : expS T n ⟨sy.up.k + 1,((tk T sy.up.k).pos : Int)⟩ with
          | none => rw [hq] at e4; cases e4
          | some q =>
            obtain ⟨c,s4⟩ := q
            rw [hq] at e4
            have e5 := exp_bad_st hbad hq
            rw [e5] at e4
            dsimp only at e4
            have e6 := binds_bad hbad e4
            have e7 := F2.out (by rw [e6]; exact hbad)
            show s3.bad = (J : Int)
            rw [e7,e6]
            show ((tk T sy.up.k).pos : Int) = (J : Int)
            rw [hpos]
        have K4 := hid (R3.out.kept.trans (Kept.of0 rb g4))
        have bx4 : w4.cell? ⟨w.heap.size,0,none⟩ = some (.pointer (some ⟨rb,0,none⟩)) := by
          rw [World.cell?_of_block (a := ⟨w.heap.size,0,none⟩) (g4.block w.heap.size R3.out.more (by simp))]
          exact bx3
        have RF := hid (refuse_p w4 rb s J (hrd.grown g4))
        rw [hd]
        clear g4 hm hd hk hre hys htw hbad e4 hpos hga hat hrd NO bx3
        go_wp2_with fail
        refine RF.out.mono ?_
        rintro e w5 ⟨⟨bb,rfl,hbb⟩,g5⟩
        have HB := hid hbb
        have G5 := hid g5
        clear hbb g5
        unfold refusal
        go_wp2
        exact ⟨rfl,K4.out.trans (Kept.of0 rb G5.out),Or.inr ⟨by rw [S3.out]; simp,bb,rfl,by rw [S3.out]; exact HB.out⟩⟩
      · have hd : decide (nxT s.data.toList J ∈ yy.names) = false := by simp [hm]
        have hgood : (needS T sy.up kName).bad < 0 → (tk T sy.up.k).is = kName := by
          intro hh
          cases hi : isS T sy.up kName with
          | true => exact isS_is hi
          | false =>
            rw [need_no R3.out.st.neg hi] at hh
            simp at hh
            omega
        have hno : ¬ ((tk T sy.up.k).s ∈ yy.names ∧ (needS T sy.up kName).bad < 0) := by
          rintro ⟨h1,h2⟩
          have hk := hgood h2
          have hre := (asked exKw exKw_ok s.data.toList J hat.1).real (by rw [← hat.tk,hk]; decide) (by rw [← hat.tk,hk]; decide)
          rw [← hat.tk] at hre
          rw [← hre.1] at h1
          exact hm h1
        rw [twice_same hno] at e4
        have R4 := hid (R3.out.grown g4 hlt hr)
        have bx4 := R4.out.box
        have HNM := hid (show (needS T sy.up kName).bad < 0 → NmOK (tk T sy.up.k).s from fun h => name_ok hat (hgood h))
        cases hq : expS T n (needS T (needS T sy.up kName) kEq) with
        | none => rw [hq] at e4; cases e4
        | some q =>
        obtain ⟨c,s4⟩ := q
        rw [hq] at e4
        dsimp only at e4
        have HQ := hid hq
        have AA := hid e4
        rw [hd]
        clear g4 hm hd hgood hno e4 hpos hga hat hrd NO bx3 R3 hq
        go_wp2_with fail
        refine (bind_p T n HE.out _ rb s Hi sy.up c s4 HQ.out R4.out.st R4.out.fz (R4.out.rb hlt hr)).mono ?_
        rintro e w5 ⟨k5,(⟨t5,b5,H5,m5,ht5,rfl,p5,z5,e5,r5,d5⟩ | ⟨hb,bb,rfl,hrf⟩)⟩
        case inr =>
          have e5 := binds_bad hb AA.out
          have e6 := F2.out (by rw [e5]; exact hb)
          rw [e5] at e6
          unfold refusal
          go_wp2
          exact ⟨rfl,R4.out.kept.trans k5,Or.inr ⟨by rw [e6]; exact hb,bb,rfl,by rw [e6]; exact hrf⟩⟩
        case inl =>
        have hnb : (needS T sy.up kName).bad < 0 := by
          rcases Int.lt_or_le (needS T sy.up kName).bad 0 with h | h
          · exact h
          · have e3 : needS T (needS T sy.up kName) kEq = needS T sy.up kName := need_bad h
            have e4 := exp_bad_st (by rw [e3]; exact h) HQ.out
            have := p5.neg
            rw [e4,e3] at this
            omega
        have hown5 := own_kept R4.out.own k5 (by omega)
        have hs5 : w.heap.size + 1 ≤ w5.heap.size := by have := R4.out.more; have := k5.size; omega
        have Q5 := hid (And.intro k5 (And.intro p5 (And.intro z5 (And.intro e5 (And.intro r5 d5)))))
        have HNB := hid hnb
        obtain ⟨i0,hi,hz0,hz1,hz2⟩ := info_parts info_bind
        clear k5 p5 z5 e5 r5 d5 hnb bx4
        go_wp2_with (at_builtin; refine wpList_append_lies _ rfl (.tmp 20) (.tmp 23) 192 rfl (w.heap.size + 1) 187 i0 (.agg #[.string (B []),.nilIface]) 2 32 Tryz.underlying192 hi hz0 hz1 hz2 rfl (by decide) _ _ _ rfl (hown5.alloc _) ⟨w5.heap.size,0,none⟩ 1 1 [.string (B (tk T sy.up.k).s),(.iface t5 (.pointer (some ⟨b5,0,none⟩)))] rfl rfl ?d1 ?d2 (by decide) ?d3 ?d4 ?d5 (w5.heap.size + 1) ?d6 ?_)
        case d1 => exact two_new _ _ _ _
        case d2 => exact bind_one _ _ _
        case d3 => unfold maxLen; omega
        case d4 => omega
        case d5 => simp; omega
        case d6 => simp
        intro g7 cap7 w7 hown7 hgrow7 hat7 _
        obtain ⟨k5,p5,z5,e5,r5,d5⟩ := Q5.out
        have R7 := hid (R4.out.add hlt (HNM.out HNB.out) k5 p5 z5 e5 r5 d5 hown7 hgrow7 hat7)
        clear hown7 hgrow7 hat7 k5 p5 z5 e5 r5 d5 hown5
        go_wp2_with fail
        go_roundg F
        case measure => omega
        case rel => exact ⟨_,s4,_,_,_,AA,R7⟩
theorem EOut.via {w w1 w' : World} {rb : Nat} {s : ByteArray} {T : List Tok} {H : Nat → Option Obj} {k0 k1 : Nat} {st' : St} {e : Ending} {ex : Ex} (hk : Kept rb w w1) (h : EOut w1 w' rb s T H k1 st' e ex) (hk0 : k0 ≤ k1) : EOut w w' rb s T H k0 st' e ex := by
  obtain ⟨h1,h2⟩ := h
  refine ⟨hk.trans h1,?_⟩
  rcases h2 with ⟨v,H',m,q1,q2,q3,q4,q5,q6⟩ | h2
  · exact Or.inl ⟨v,H',m,q1,q2,q3,q4.from hk.size,q5,by omega⟩
  · exact Or.inr h2
theorem exp_p (T : List Tok) (hl : T.length ≤ 400) : ∀ n,EXPP T n
  | 0 => fun w rb s H st ex st' hs => by simp [expS] at hs
  | n + 1 => fun w rb s H st ex st' hs h hz hr => by
    have hE := exp_p T hl n
    have hlt := h.lt
    have hneg := h.neg
    rw [expS,if_neg (by omega)] at hs
    have HP := hid (h.alloc (.cells #[.pointer (some ⟨rb,0,none⟩)] 153))
    have HZ := hid (hz.alloc (.cells #[.pointer (some ⟨rb,0,none⟩)] 153))
    have HE := hid hE
    have HS := hid hs
    have K0 := hid ((Kept.refl rb w).alloc (.cells #[.pointer (some ⟨rb,0,none⟩)] 153))
    clear h hz hE hs
    unfold rdV
    go_enter Tryz.func69,Tryz.ntmps69
    go_wp2_with fail
    refine (skips_p exKw exKw_ok _ rb s T st kFun HP.out (Or.inl (by decide))).mono ?_
    rintro e w1 ⟨rfl,p1,k1⟩
    have bx1 : w1.cell? ⟨w.heap.size,0,none⟩ = some (.pointer (some ⟨rb,0,none⟩)) := by
      rw [kept_cell k1 (by simp) (by omega)]
      simp [go_sem]
    have hw1 : w.heap.size < w1.heap.size := by have := k1.size; simp at this; omega
    have K1 := hid (K0.out.trans k1)
    have Z1 := hid (HZ.out.kept k1 hr)
    clear HP HZ K0 k1
    cases h1 : isS T st kFun with
    | true =>
      rw [take_yes h1] at p1
      have e4 := HS.out
      rw [if_pos h1] at e4
      cases hx : expS T n (needS T (needS T st.up kName) kArrow) with
      | none => rw [hx] at e4; cases e4
      | some q =>
      obtain ⟨y,s4⟩ := q
      rw [hx] at e4
      cases e4
      have P1 := hid p1
      have HX := hid hx
      clear h1 hx p1
      go_wp2_with fail
      refine (fun_p T n hl HE.out _ rb s H st.up y st' (tk T st.k).pos HX.out P1.out Z1.out hr).mono ?_
      rintro e w2 ho
      have HO := hid (EOut.via (k0 := st.k) K1.out ho (by show st.k ≤ st.k + 1; omega))
      rcases ho with ⟨_,(⟨v,H',m,rfl,_⟩ | ⟨_,bb,rfl,_⟩)⟩
      · go_wp2
        go_ret
        exact HO.out
      · unfold refusal at HO ⊢
        go_wp2
        exact ⟨rfl,HO.out⟩
    | false =>
    rw [take_no h1] at p1
    have e4 := HS.out
    rw [if_neg (by rw [h1]; decide)] at e4
    have HS1 := hid e4
    have P1 := hid p1
    clear HS h1 p1 e4
    go_wp2_with fail
    refine (skips_p exKw exKw_ok _ rb s T st kIf P1.out (Or.inl (by decide))).mono ?_
    rintro e w2 ⟨rfl,p2,k2⟩
    have bx2 : w2.cell? ⟨w.heap.size,0,none⟩ = some (.pointer (some ⟨rb,0,none⟩)) := by
      rw [kept_cell k2 (by omega) (by omega)]
      exact bx1
    have hw2 : w1.heap.size ≤ w2.heap.size := k2.size
    have K2 := hid (K1.out.trans k2)
    have Z2 := hid (Z1.out.kept k2 hr)
    clear P1 K1 Z1 k2 bx1
    cases h1 : isS T st kIf with
    | true =>
      rw [take_yes h1] at p2
      have e4 := HS1.out
      rw [if_pos h1] at e4
      cases hx : expS T n st.up with
      | none => rw [hx] at e4; cases e4
      | some q =>
      obtain ⟨x,s1⟩ := q
      rw [hx] at e4
      dsimp only at e4
      cases hy : expS T n (needS T s1 kThen) with
      | none => rw [hy] at e4; cases e4
      | some q =>
      obtain ⟨y,s2⟩ := q
      rw [hy] at e4
      dsimp only at e4
      cases hw : expS T n (needS T s2 kElse) with
      | none => rw [hw] at e4; cases e4
      | some q =>
      obtain ⟨z,s3⟩ := q
      rw [hw] at e4
      cases e4
      have P2 := hid p2
      have HX := hid hx
      have HY := hid hy
      have HW := hid hw
      clear h1 hx hy hw p2
      go_wp2_with fail
      refine (choice_p T n hl HE.out _ rb s H st.up x y z s1 s2 st' (tk T st.k).pos HX.out HY.out HW.out P2.out Z2.out hr).mono ?_
      rintro e w3 ho
      have HO := hid (EOut.via (k0 := st.k) K2.out ho (by show st.k ≤ st.k + 1; omega))
      rcases ho with ⟨_,(⟨v,H',m,rfl,_⟩ | ⟨_,bb,rfl,_⟩)⟩
      · go_wp2
        go_ret
        exact HO.out
      · unfold refusal at HO ⊢
        go_wp2
        exact ⟨rfl,HO.out⟩
    | false =>
    rw [take_no h1] at p2
    have e4 := HS1.out
    rw [if_neg (by rw [h1]; decide)] at e4
    have HS2 := hid e4
    have P2 := hid p2
    clear HS1 h1 p2 e4
    go_wp2_with fail
    refine (skips_p exKw exKw_ok _ rb s T st kLet P2.out (Or.inl (by decide))).mono ?_
    rintro e w3 ⟨rfl,p3,k3⟩
    have bx3 : w3.cell? ⟨w.heap.size,0,none⟩ = some (.pointer (some ⟨rb,0,none⟩)) := by
      rw [kept_cell k3 (by omega) (by omega)]
      exact bx2
    have hw3 : w2.heap.size ≤ w3.heap.size := k3.size
    have K3 := hid (K2.out.trans k3)
    have Z3 := hid (Z2.out.kept k3 hr)
    clear P2 K2 Z2 k3 bx2
    cases h1 : isS T st kLet with
    | true =>
      rw [take_yes h1] at p3
      have e4 := HS2.out
      rw [if_pos h1] at e4
      have HS3 := hid e4
      have P3 := hid p3
      clear HS2 h1 p3 e4
      go_wp2_with fail
      refine (skips_p exKw exKw_ok _ rb s T st.up kRec P3.out (Or.inl (by decide))).mono ?_
      rintro e w4 ⟨rfl,p4,k4⟩
      have bx4 : w4.cell? ⟨w.heap.size,0,none⟩ = some (.pointer (some ⟨rb,0,none⟩)) := by
        rw [kept_cell k4 (by omega) (by omega)]
        exact bx3
      have hw4 : w3.heap.size ≤ w4.heap.size := k4.size
      have K4 := hid (K3.out.trans k4)
      have Z4 := hid (Z3.out.kept k4 hr)
      clear P3 K3 Z3 k4 bx3
      cases h1 : isS T st.up kRec with
      | true =>
        have e4 := HS3.out
        rw [if_pos h1] at e4
        cases hx : boundS (expS T n) T ⟨kRec,[],[],(tk T st.k).pos⟩ (takeS T st.up kRec) with
        | none => rw [hx] at e4; cases e4
        | some q =>
        obtain ⟨x,s1⟩ := q
        rw [hx] at e4
        dsimp only at e4
        cases hy : bindsS (expS T n) T (T.length + 1) x s1 with
        | none => rw [hy] at e4; cases e4
        | some q =>
        obtain ⟨y,s2⟩ := q
        rw [hy] at e4
        dsimp only at e4
        cases hw : expS T n (needS T s2 kIn) with
        | none => rw [hw] at e4; cases e4
        | some q =>
        obtain ⟨z,s3⟩ := q
        rw [hw] at e4
        cases e4
        rw [take_yes h1] at p4 hx
        have P4 := hid p4
        have HX := hid hx
        have HY := hid hy
        have HW := hid hw
        clear h1 hx hy hw p4
        go_wp2_with fail
        refine (letRec_p T n hl HE.out _ rb s H st.up.up x y z s1 s2 st' (tk T st.k).pos HX.out HY.out HW.out P4.out Z4.out hr).mono ?_
        rintro e w5 ho
        have HO := hid (EOut.via (k0 := st.k) K4.out ho (by show st.k ≤ st.k + 1 + 1; omega))
        rcases ho with ⟨_,(⟨v,H',m,rfl,_⟩ | ⟨_,bb,rfl,_⟩)⟩
        · go_wp2
          go_ret
          exact HO.out
        · unfold refusal at HO ⊢
          go_wp2
          exact ⟨rfl,HO.out⟩
      | false =>
        have e4 := HS3.out
        rw [if_neg (by rw [h1]; decide),take_no h1] at e4
        rw [take_no h1] at p4
        unfold boundS at e4
        rw [twice_same (by simp)] at e4
        dsimp only at e4
        cases hx : expS T n (needS T (needS T st.up kName) kEq) with
        | none => rw [hx] at e4; cases e4
        | some q =>
        obtain ⟨x,s1⟩ := q
        rw [hx] at e4
        dsimp only at e4
        have e2 : bindsS (expS T n) T (T.length + 1) ⟨kLet,[] ++ [(tk T st.up.k).s],[] ++ [x],(tk T st.k).pos⟩ s1 = some (⟨kLet,[] ++ [(tk T st.up.k).s],[] ++ [x],(tk T st.k).pos⟩,s1) := by
          rw [bindsS,if_neg]
          rintro ⟨e,_⟩
          exact absurd e (by show ¬ kLet = kRec; decide)
        rw [e2] at e4
        dsimp only at e4
        cases hw : expS T n (needS T s1 kIn) with
        | none => rw [hw] at e4; cases e4
        | some q =>
        obtain ⟨z,s3⟩ := q
        rw [hw] at e4
        cases e4
        have P4 := hid p4
        have HX := hid hx
        have HW := hid hw
        clear h1 hx hw p4 e2
        go_wp2_with fail
        refine (let_p T n hl HE.out _ rb s H st.up x z s1 st' (tk T st.k).pos HX.out HW.out P4.out Z4.out hr).mono ?_
        rintro e w5 ho
        have HO := hid (EOut.via (k0 := st.k) K4.out ho (by show st.k ≤ st.k + 1; omega))
        rcases ho with ⟨_,(⟨v,H',m,rfl,_⟩ | ⟨_,bb,rfl,_⟩)⟩
        · go_wp2
          go_ret
          exact HO.out
        · unfold refusal at HO ⊢
          go_wp2
          exact ⟨rfl,HO.out⟩
    | false =>
    rw [take_no h1] at p3
    have e4 := HS2.out
    rw [if_neg (by rw [h1]; decide)] at e4
    cases hx : atomS (expS T n) T st with
    | none => rw [hx] at e4; cases e4
    | some q =>
    obtain ⟨x,s1⟩ := q
    rw [hx] at e4
    have P3 := hid p3
    have HX := hid hx
    have HA := hid e4
    clear h1 hx p3 e4 HS2
    go_wp2_with fail
    refine (applied_p T n hl HE.out _ rb s H st x s1 ex st' HX.out HA.out P3.out Z3.out hr).mono ?_
    rintro e w5 ho
    have HO := hid (EOut.via (k0 := st.k) K3.out ho (Nat.le_refl _))
    rcases ho with ⟨_,(⟨v,H',m,rfl,_⟩ | ⟨_,bb,rfl,_⟩)⟩
    · go_wp2
      go_ret
      exact HO.out
    · unfold refusal at HO ⊢
      go_wp2
      exact ⟨rfl,HO.out⟩
theorem catch_idle (p q : Addr) (w : World) :
    CallsD Tryz.prog 109 #[.pointer (some p),.pointer (some q)] .returning w fun e u' w' => e = .returned (.tuple #[]) ∧ u' = .returning ∧ w' = w := by
  refine callsD_of_wpS Tryz.func109 rfl fun c₀ cs hu => ?_
  apply wpS_seq
  apply wpS_region
  simp [wpOpsS,go_sem,recoverD,hu,Tryz.ntmps109,Exit.thenS]
  refine wpS_of_wp ?_
  go_wp2
  cases c₀
  simp_all [bodyPostS,results,Tryz.results109]
theorem frozen_past {w : World} {b o : Nat} {v : Value} (h : w.cell? ⟨b,o,none⟩ = some v) (hf : w.frozen? ⟨b,o,none⟩ = false) (x : Obj) : (w.alloc x).frozen? ⟨b,o,none⟩ = false := by
  have hl : b < w.heap.size := by
    rcases Nat.lt_or_ge b w.heap.size with h' | h'
    · exact h'
    · simp [World.cell?,Array.getElem?_eq_none h'] at h
  rw [World.frozen?_of_block (a := ⟨b,o,none⟩) (Below.heap_alloc _ _ _ hl)]
  exact hf
theorem assert_refusal (v : Value) (w : World) : (Instr.typeAssert (.iface 202 v) 20 202 true).run Tryz.prog w = .ok (.tuple #[v,.bool true]) w := by kernel_rfl
theorem catch_refusal (p q : Nat) (t b : TypeId) (v0 v1 : Value) (w : World) (h0 : w.cell? ⟨p,0,none⟩ = some v0) (f0 : w.frozen? ⟨p,0,none⟩ = false) (h1 : w.cell? ⟨q,0,none⟩ = some v1) (f1 : w.frozen? ⟨q,0,none⟩ = false) (hpq : p ≠ q) (hpl : p < w.heap.size) (hql : q < w.heap.size) :
    CallsD Tryz.prog 109 #[.pointer (some ⟨p,0,none⟩),.pointer (some ⟨q,0,none⟩)] (.panicking [{ v := .iface 202 (.agg #[(.iface t (.pointer (some ⟨b,0,none⟩)))]),recovered := false }]) w fun e u' w' =>
      e = .returned (.tuple #[]) ∧ u' = .panicking [{ v := .iface 202 (.agg #[(.iface t (.pointer (some ⟨b,0,none⟩)))]),recovered := true }] ∧ w' = (((w.setCell ⟨p,0,none⟩ .nilIface).setCell ⟨q,0,none⟩ (.iface t (.pointer (some ⟨b,0,none⟩)))).alloc (.cells #[(.iface t (.pointer (some ⟨b,0,none⟩)))] 202)).drew := by
  have a0 := fun x => cell_past h0 x
  have a1 := fun x => cell_past h1 x
  have g0 := fun x => frozen_past h0 f0 x
  have g1 := fun x => frozen_past h1 f1 x
  have hqp : q ≠ p := fun e => hpq e.symm
  have hp1 : p ≠ w.heap.size := by omega
  have hp2 : w.heap.size ≠ p := by omega
  have hq1 : q ≠ w.heap.size := by omega
  have hq2 : w.heap.size ≠ q := by omega
  refine callsD_of_wpS Tryz.func109 rfl fun c₀ cs hu => ?_
  have e0 : (#[Value.pointer (some ⟨p,0,none⟩),.pointer (some ⟨q,0,none⟩)] ++ Array.replicate (Tryz.f109.ntmps - (#[Value.pointer (some ⟨p,0,none⟩),.pointer (some ⟨q,0,none⟩)] : Array Value).size) undef) = #[Value.pointer (some ⟨p,0,none⟩),.pointer (some ⟨q,0,none⟩),undef,undef,undef,undef,undef,undef,undef,undef,undef,undef,undef,undef,undef] := rfl
  rw [e0]
  clear e0
  apply wpS_seq
  apply wpS_region
  simp [wpOpsS,go_sem,recoverD,hu,Exit.thenS]
  refine wpS_of_wp ?_
  have hta := assert_refusal
  go_wp2_with fail
  go_region
  refine ⟨rfl,_,rfl,.tuple #[],?_,rfl,rfl,rfl⟩
  simp [results,Tryz.results109]
theorem read1_p (T : List Tok) (hl : T.length ≤ 400) (n : Nat) (w : World) (rb : Nat) (s : ByteArray) (H : Nat → Option Obj) (st : St) (ex : Ex) (st' : St) (hs : expS T n st = some (ex,st')) (h : PSt exKw w rb s T st) (hz : Fz H w) (hr : H rb = none) :
    Calls Tryz.prog 68 #[.pointer (some ⟨rb,0,none⟩)] w fun e w' => EOut w w' rb s T H st.k st' e ex := by
  have HC := hid (exp_p T hl n w rb s H st ex st' hs h hz hr)
  unfold rdV at HC
  clear hs h hz
  go_enter Tryz.func68,Tryz.ntmps68
  go_wp2_with fail
  refine HC.out.mono ?_
  rintro e w5 ho
  have HO := hid ho
  rcases ho with ⟨_,(⟨v,H',m,rfl,_⟩ | ⟨_,bb,rfl,_⟩)⟩
  · go_wp2
    go_ret
    exact HO.out
  · unfold refusal at HO ⊢
    go_wp2
    exact ⟨rfl,HO.out⟩
def WOut (w w' : World) (s2 : St) (e : Ending) (ex : Ex) : Prop :=
  w.grownBy w' none ∧ ((s2.bad < 0 ∧ ∃ v H' m,e = .returned (.tuple #[v,.nilIface]) ∧ Fz H' w' ∧ PRep m H' v ex ∧ exDeep m ex ≤ 400) ∨
    (0 ≤ s2.bad ∧ ∃ b,e = .returned (.tuple #[.nilIface,.iface 81 (.pointer (some ⟨b,0,none⟩))]) ∧ w'.heap[b]? = some (.cells #[.int .i64 s2.bad] 92 (0,0))))
theorem caught {w2 w'' : World} {N bb : Nat} {x : Int} {tx te ts : TypeId} (hw : w'' = (((w2.setCell ⟨N,0,none⟩ .nilIface).setCell ⟨N + 1,0,none⟩ (.iface ts (.pointer (some ⟨bb,0,none⟩)))).alloc (.cells #[.iface ts (.pointer (some ⟨bb,0,none⟩))] 202)).drew)
    {v0 v1 : Value} (h0 : w2.heap[N]? = some (.cells #[v0] tx (0,0))) (h1 : w2.heap[N + 1]? = some (.cells #[v1] te (0,0))) (hb : w2.heap[bb]? = some (.cells #[.int .i64 x] 92 (0,0))) (hx : tx ≠ 92 := by decide) (he : te ≠ 92 := by decide) :
    w''.cell? ⟨N,0,none⟩ = some .nilIface ∧ w''.cell? ⟨N + 1,0,none⟩ = some (.iface ts (.pointer (some ⟨bb,0,none⟩))) ∧ w''.heap[bb]? = some (.cells #[.int .i64 x] 92 (0,0)) ∧
      (w2.heap.size ≤ w''.heap.size ∧ w''.os = w2.os ∧ w''.tape = w2.tape ∧ w''.output = w2.output ∧ ∀ k,k < N → w''.heap[k]? = w2.heap[k]?) := by
  have n0 : bb ≠ N := fun e => by rw [e,h0] at hb; simp at hb; exact hx hb.2
  have n1 : bb ≠ N + 1 := fun e => by rw [e,h1] at hb; simp at hb; exact he hb.2
  have l0 := lt_of_block h0
  have l1 := lt_of_block h1
  have lb := lt_of_block hb
  obtain ⟨w3,hw3⟩ : ∃ w3,w3 = (w2.setCell ⟨N,0,none⟩ .nilIface).setCell ⟨N + 1,0,none⟩ (.iface ts (.pointer (some ⟨bb,0,none⟩))) := ⟨_,rfl⟩
  rw [← hw3] at hw
  have s3 : w3.heap.size = w2.heap.size := by rw [hw3]; simp [World.setCell]
  have old : ∀ k,k ≠ N → k ≠ N + 1 → w3.heap[k]? = w2.heap[k]? := fun k e1 e2 => by
    rw [hw3,Below.heap_setCell _ _ _ _ (by show k ≠ N + 1; exact e2),Below.heap_setCell _ _ _ _ (by show k ≠ N; exact e1)]
  have b0 : w3.heap[N]? = some (.cells #[.nilIface] tx (0,0)) := by
    rw [hw3,Below.heap_setCell _ _ _ _ (by show N ≠ N + 1; omega)]
    simp [World.setCell,Array.getElem?_modify,h0]
  have b1 : w3.heap[N + 1]? = some (.cells #[.iface ts (.pointer (some ⟨bb,0,none⟩))] te (0,0)) := by
    have h1' : (w2.setCell ⟨N,0,none⟩ .nilIface).heap[N + 1]? = some (.cells #[v1] te (0,0)) := by
      rw [Below.heap_setCell _ _ _ _ (by show N + 1 ≠ N; omega)]
      exact h1
    rw [hw3]
    generalize w2.setCell ⟨N,0,none⟩ .nilIface = w4 at h1'
    simp [World.setCell,Array.getElem?_modify,h1']
  have up : ∀ k,k < w3.heap.size → w''.heap[k]? = w3.heap[k]? := fun k hk => by rw [hw]; exact Below.heap_alloc _ _ _ hk
  refine ⟨?_,?_,?_,?_,by rw [hw,hw3]; rfl,by rw [hw,hw3]; rfl,by rw [hw,hw3]; rfl,fun k hk => ?_⟩
  · simp [World.cell?,up N (by omega),b0]
  · simp [World.cell?,up (N + 1) (by omega),b1]
  · rw [up bb (by omega),old bb n0 n1]; exact hb
  · rw [hw]; simp; omega
  · rw [up k (by omega),old k (by omega) (by omega)]
theorem stored {w2 w'' : World} {N : Nat} {v u v0 v1 : Value} {tx te : TypeId} (hw : w'' = ((w2.setCell ⟨N,0,none⟩ v).setCell ⟨N,0,none⟩ v).setCell ⟨N + 1,0,none⟩ u) (h0 : w2.heap[N]? = some (.cells #[v0] tx (0,0))) (h1 : w2.heap[N + 1]? = some (.cells #[v1] te (0,0))) :
    w''.cell? ⟨N,0,none⟩ = some v ∧ w''.cell? ⟨N + 1,0,none⟩ = some u ∧ (w2.heap.size ≤ w''.heap.size ∧ w''.os = w2.os ∧ w''.tape = w2.tape ∧ w''.output = w2.output ∧ ∀ k,k < N → w''.heap[k]? = w2.heap[k]?) := by
  have b0 : w''.heap[N]? = some (.cells #[v] tx (0,0)) := by
    rw [hw,Below.heap_setCell _ _ _ _ (by show N ≠ N + 1; omega)]
    simp [World.setCell,Array.getElem?_modify,h0]
  have b1 : w''.heap[N + 1]? = some (.cells #[u] te (0,0)) := by
    have h1' : ((w2.setCell ⟨N,0,none⟩ v).setCell ⟨N,0,none⟩ v).heap[N + 1]? = some (.cells #[v1] te (0,0)) := by
      rw [Below.heap_setCell _ _ _ _ (by show N + 1 ≠ N; omega),Below.heap_setCell _ _ _ _ (by show N + 1 ≠ N; omega)]
      exact h1
    rw [hw]
    generalize (w2.setCell ⟨N,0,none⟩ v).setCell ⟨N,0,none⟩ v = w4 at h1'
    simp [World.setCell,Array.getElem?_modify,h1']
  refine ⟨by simp [World.cell?,b0],by simp [World.cell?,b1],by rw [hw]; simp [World.setCell],by rw [hw]; rfl,by rw [hw]; rfl,by rw [hw]; rfl,fun k hk => ?_⟩
  rw [hw,Below.heap_setCell _ _ _ _ (by show k ≠ N + 1; omega),Below.heap_setCell _ _ _ _ (by show k ≠ N; omega),Below.heap_setCell _ _ _ _ (by show k ≠ N; omega)]
theorem whole_grown {w w1 w2 w'' : World} {o : Obj} (h1 : w.grownBy w1 none) (hl : w.heap.size ≤ w1.heap.size) (h2 : Kept w1.heap.size (w1.alloc o) w2) (h3 : w2.heap.size ≤ w''.heap.size ∧ w''.os = w2.os ∧ w''.tape = w2.tape ∧ w''.output = w2.output ∧ ∀ k,k < w.heap.size → w''.heap[k]? = w2.heap[k]?) : w.grownBy w'' none := by
  obtain ⟨q1,q2,q3,q4,q5⟩ := h3
  refine ⟨q2.trans (h2.os.trans h1.os),q3.trans (h2.tape.trans h1.tape),q4.trans (h2.output.trans h1.output),?_,fun k hk _ => ?_⟩
  · have := h2.size
    simp at this
    omega
  · rw [q5 k hk,h2.block k (by simp; omega) (by simp; omega),Below.heap_alloc _ _ _ (by omega),h1.block k hk (by simp)]
theorem whole_p (s : ByteArray) (hs : s.size ≤ 300) (w : World) (n : Nat) (ex : Ex) (s1 : St) (hx : expS (toksOf exKw s) n ⟨0,-1⟩ = some (ex,s1)) :
    Calls Tryz.prog 67 #[.string s,.func (.func 68) #[] #[]] w fun e w' => WOut w w' (needS (toksOf exKw s) s1 kEnd) e ex := by
  have hmf : ∀ (fn : Fn) (first cap : Array Value) (w : World),(Instr.makeFunc fn first cap).run Tryz.prog w = .ok (.func fn first cap) w := fun _ _ _ _ => rfl
  have hsl : s.data.toList.length = s.size := by rw [Array.length_toList]; rfl
  obtain ⟨T,hT⟩ : ∃ T,T = toksOf exKw s := ⟨_,rfl⟩
  have hTl : T.length ≤ 400 := by rw [hT]; have := toksOf_len exKw s; omega
  have hat : At exKw s.data.toList T 0 (upto isB s.data.toList 0) := by
    rw [hT]
    have := At.start exKw s.data.toList
    rw [hsl] at this
    exact this
  rw [← hT] at hx ⊢
  have hz300 : ((s.size : Nat) : Int) ≤ 300 := by omega
  have HX := hid hx
  have HAT := hid hat
  clear hx hat hT
  go_enter_defers Tryz.func67,Tryz.ntmps67
  go_wp2_with fail
  refine (next_any s 0 (by omega) hs _).mono ?_
  rintro e w1 ⟨rfl,g1⟩
  dsimp only [tokV]
  have ra1 : w1.heap[w.heap.size]? = some (.cells #[.nilIface] 101 (0,0)) := by
    rw [g1.block _ (by simp; omega) (by simp),Below.heap_alloc _ _ _ (by simp)]
    exact heap_alloc_new _ _
  have rb1 : w1.heap[w.heap.size + 1]? = some (.cells #[.nilIface] 56 (0,0)) := by
    rw [g1.block _ (by simp) (by simp)]
    exact heap_alloc_at _ _ _ (by simp)
  have hw1 := lt_of_block rb1
  have G1 := hid (((World.grownBy_alloc w (.cells #[.nilIface] 101) none).trans (World.grownBy_alloc _ (.cells #[.nilIface] 56) none)).trans g1)
  obtain ⟨J,hJ⟩ : ∃ J,J = upto isB s.data.toList 0 := ⟨_,rfl⟩
  rw [← hJ] at HAT ⊢
  clear g1 hJ
  have PS : Hid (PSt exKw (w1.alloc (.cells #[.string s,.int .i64 ((nxK s.data.toList J : Nat) : Int),.string (B (nxT s.data.toList J)),.int .i64 (J : Int)] 208)) w1.heap.size s T ⟨0,-1⟩) :=
    ⟨by decide,⟨J,HAT.out,heap_alloc_new _ _⟩,hs⟩
  go_wp2_with fail
  refine (read1_p T hTl n _ w1.heap.size s (fun _ => none) ⟨0,-1⟩ ex s1 HX.out PS.out (fz_none _) rfl).mono ?_
  rintro e w2 ⟨k2,(⟨v,H2,m,rfl,p2,z2,e2,r2,d2⟩ | ⟨hb,bb,rfl,hrf⟩)⟩
  case inr =>
    have ra2 : w2.heap[w.heap.size]? = some (.cells #[.nilIface] 101 (0,0)) := by
      rw [k2.block _ (by simp; omega) (by simp; omega),Below.heap_alloc _ _ _ (by omega)]
      exact ra1
    have rb2 : w2.heap[w.heap.size + 1]? = some (.cells #[.nilIface] 56 (0,0)) := by
      rw [k2.block _ (by simp; omega) (by simp; omega),Below.heap_alloc _ _ _ (by omega)]
      exact rb1
    have K2 := hid k2
    have HB := hid hb
    have HRF := hid hrf
    clear k2 hb hrf ra1 rb1
    unfold refusal
    go_wp2
    refine leaves_cons (f := 109) (args := #[.pointer (some ⟨w.heap.size,0,none⟩),.pointer (some ⟨w.heap.size + 1,0,none⟩)]) (by simp) (by simp [go_sem]) ?_
    refine (catch_refusal w.heap.size (w.heap.size + 1) 81 bb .nilIface .nilIface w2 (by simp [World.cell?,ra2]) (by simp [World.frozen?,ra2]) (by simp [World.cell?,rb2]) (by simp [World.frozen?,rb2]) (by omega) (lt_of_block ra2) (lt_of_block rb2)).mono ?_
    rintro e u' w'' ⟨rfl,rfl,hw''⟩
    obtain ⟨q0,q1,q2,q3⟩ := caught hw'' ra2 rb2 HRF.out
    refine ⟨.tuple #[.nilIface,.iface 81 (.pointer (some ⟨bb,0,none⟩))],?_,?_⟩
    · simp [results,Tryz.results67,go_sem,q0,q1]
    · have e5 := need_bad (T := T) (x := kEnd) HB.out
      refine ⟨whole_grown G1.out (by omega) K2.out q3,Or.inr ⟨by rw [e5]; exact HB.out,bb,rfl,by rw [e5]; exact q2⟩⟩
  case inl =>
    obtain ⟨t1,b1,ht1,rfl,hb1,hc1⟩ := r2.dat z2
    have ra2 : w2.heap[w.heap.size]? = some (.cells #[.nilIface] 101 (0,0)) := by
      rw [k2.block _ (by simp; omega) (by simp; omega),Below.heap_alloc _ _ _ (by omega)]
      exact ra1
    have rb2 : w2.heap[w.heap.size + 1]? = some (.cells #[.nilIface] 56 (0,0)) := by
      rw [k2.block _ (by simp; omega) (by simp; omega),Below.heap_alloc _ _ _ (by omega)]
      exact rb1
    have la2 := lt_of_block ra2
    have lb2 := lt_of_block rb2
    have a0 : w2.cell? ⟨w.heap.size,0,none⟩ = some .nilIface := by simp [World.cell?,ra2]
    have a1 : w2.cell? ⟨w.heap.size + 1,0,none⟩ = some .nilIface := by simp [World.cell?,rb2]
    have u0 : w2.frozen? ⟨w.heap.size,0,none⟩ = false := by simp [World.frozen?,ra2]
    have u1 : w2.frozen? ⟨w.heap.size + 1,0,none⟩ = false := by simp [World.frozen?,rb2]
    have hkk := p2.klt
    have hn2 := p2.neg
    obtain ⟨J2,hat2,hrd2⟩ := p2.place
    have hrl := lt_of_block hrd2
    have hend := (asked exKw exKw_ok s.data.toList J2 hat2.1).theEnd
    have hpos := (asked exKw exKw_ok s.data.toList J2 hat2.1).pos
    rw [← hat2.tk] at hend hpos
    obtain ⟨c0,c1,c2,c3,f1,f2,f3⟩ := four_p hrd2
    have hne : w1.heap.size ≠ w.heap.size := by omega
    have hne2 : w.heap.size ≠ w1.heap.size := by omega
    have K2 := hid k2
    have Z2 := hid z2
    have E2 := hid e2
    have R2 := hid r2
    have D2 := hid d2
    have RD := hid hrd2
    have RA := hid ra2
    have RB := hid rb2
    have hd400 : exDeep m ex ≤ 400 := by have := d2; simp at this; omega
    have HEND := hid hend
    have HPOS := hid hpos
    have HN2 := hid hn2
    clear k2 p2 z2 e2 r2 d2 ra1 rb1 ra2 rb2 hb1 hc1 hat2 hrd2 hend hpos c0 c2 c3 f1 f2 f3 hn2
    by_cases hk : nxK s.data.toList J2 = 0
    · rw [hk] at c1
      have HK := hid hk
      clear hk
      go_wp2
      refine leaves_cons (f := 109) (args := #[.pointer (some ⟨w.heap.size,0,none⟩),.pointer (some ⟨w.heap.size + 1,0,none⟩)]) (by simp) (by simp [go_sem]) ?_
      refine (catch_idle ⟨w.heap.size,0,none⟩ ⟨w.heap.size + 1,0,none⟩ _).mono ?_
      rintro e u' w'' ⟨rfl,rfl,hw''⟩
      obtain ⟨q0,q1,q3⟩ := stored hw'' RA.out RB.out
      refine ⟨.tuple #[(.iface t1 (.pointer (some ⟨b1,0,none⟩))),.nilIface],?_,?_⟩
      · simp [results,Tryz.results67,go_sem,q0,q1]
      · have hh0 : H2 w.heap.size = none := E2.out.2 _ (by simp; omega)
        have hh1 : H2 (w.heap.size + 1) = none := E2.out.2 _ (by simp; omega)
        have e5 : (needS T s1 kEnd).bad < 0 := by
          have hi : isS T s1 kEnd = true := by simp [isS,HN2.out,HEND.out.1 HK.out]
          rw [need_yes hi,take_yes hi]
          exact HN2.out
        refine ⟨whole_grown G1.out (by omega) K2.out q3,Or.inl ⟨e5,_,H2,m,rfl,?_,R2.out,hd400⟩⟩
        rw [hw'']
        exact ((Z2.out.set hh0 _ _).set hh0 _ _).set hh1 _ _
    · have hq : (((nxK s.data.toList J2 : Nat) : Int) == 0) = false := by simp; omega
      have HK := hid hk
      clear hk
      generalize nxK s.data.toList J2 = kk at *
      go_wp2_with fail
      have rd3 : Rdr (w2.setCell ⟨w.heap.size,0,none⟩ (.iface t1 (.pointer (some ⟨b1,0,none⟩)))) w1.heap.size s J2 := by
        unfold Rdr
        rw [Below.heap_setCell _ _ _ _ (by show w1.heap.size ≠ w.heap.size; omega)]
        exact RD.out
      refine (refuse_p _ w1.heap.size s J2 rd3).mono ?_
      rintro e w4 ⟨⟨bb,rfl,hbb⟩,g4⟩
      have ra4 : w4.heap[w.heap.size]? = some (.cells #[(.iface t1 (.pointer (some ⟨b1,0,none⟩)))] 101 (0,0)) := by
        rw [g4.block _ (by simp [World.setCell]; omega) (by simp)]
        simp [World.setCell,Array.getElem?_modify,RA.out]
      have rb4 : w4.heap[w.heap.size + 1]? = some (.cells #[.nilIface] 56 (0,0)) := by
        rw [g4.block _ (by simp [World.setCell]; omega) (by simp),Below.heap_setCell _ _ _ _ (by show w.heap.size + 1 ≠ w.heap.size; omega)]
        exact RB.out
      have HB := hid hbb
      have G4 := hid g4
      clear hbb g4 rd3 a0 a1 u0 u1
      unfold refusal
      go_wp2
      refine leaves_cons (f := 109) (args := #[.pointer (some ⟨w.heap.size,0,none⟩),.pointer (some ⟨w.heap.size + 1,0,none⟩)]) (by simp) (by simp [go_sem]) ?_
      refine (catch_refusal w.heap.size (w.heap.size + 1) 81 bb (.iface t1 (.pointer (some ⟨b1,0,none⟩))) .nilIface w4 (by simp [World.cell?,ra4]) (by simp [World.frozen?,ra4]) (by simp [World.cell?,rb4]) (by simp [World.frozen?,rb4]) (by omega) (lt_of_block ra4) (lt_of_block rb4)).mono ?_
      rintro e u' w'' ⟨rfl,rfl,hw''⟩
      obtain ⟨q0,q1,q2,q3⟩ := caught hw'' ra4 rb4 HB.out
      refine ⟨.tuple #[.nilIface,.iface 81 (.pointer (some ⟨bb,0,none⟩))],?_,?_⟩
      · simp [results,Tryz.results67,go_sem,q0,q1]
      · have hi : isS T s1 kEnd = false := by
          have : ¬ (tk T s1.k).is = kEnd := fun e => HK.out (HEND.out.2 e)
          simp [isS,this]
        have e5 := need_no HN2.out hi
        obtain ⟨r1,r2,r3,r4,r5⟩ := q3
        have q3' : w2.heap.size ≤ w''.heap.size ∧ w''.os = w2.os ∧ w''.tape = w2.tape ∧ w''.output = w2.output ∧ ∀ k,k < w.heap.size → w''.heap[k]? = w2.heap[k]? := by
          have hs4 := G4.out.size
          refine ⟨by simp [World.setCell] at hs4; omega,r2.trans G4.out.os,r3.trans G4.out.tape,r4.trans G4.out.output,fun k hk => ?_⟩
          rw [r5 k hk,G4.out.block k (by simp [World.setCell]; omega) (by simp),Below.heap_setCell _ _ _ _ (by show k ≠ w.heap.size; omega)]
        refine ⟨whole_grown G1.out (by omega) K2.out q3',Or.inr ⟨by rw [e5]; simp,bb,rfl,?_⟩⟩
        rw [e5]
        show w''.heap[bb]? = some (.cells #[.int .i64 ((tk T s1.k).pos : Int)] _ (0,0))
        rw [HPOS.out]
        exact q2
theorem blk_c {w : World} {b : Nat} {cs : Array Value} {t : TypeId} (h : w.heap[b]? = some (.cells cs t (0,0))) (i : Nat) {v : Value} (hi : cs[i]? = some v) : w.cell? ⟨b,i,none⟩ = some v := by simp [World.cell?,h,hi]
theorem blk_f {w : World} {b : Nat} {cs : Array Value} {t : TypeId} (h : w.heap[b]? = some (.cells cs t (0,0))) (i : Nat) : w.frozen? ⟨b,i,none⟩ = false := by simp [World.frozen?,h]
theorem put_c {w : World} {b : Nat} {v0 : Value} {t : TypeId} (h : w.heap[b]? = some (.cells #[v0] t (0,0))) (v : Value) : (w.setCell ⟨b,0,none⟩ v).heap[b]? = some (.cells #[v] t (0,0)) := by simp [World.setCell,Array.getElem?_modify,h]
theorem nA_Name (b : Nat) (w : World) : (Instr.typeAssert (.iface 175 (.pointer (some ⟨b,0,none⟩))) 101 157 true).run Tryz.prog w = .ok (.tuple #[.pointer none,.bool false]) w := by kernel_rfl
theorem nA_Fun (b : Nat) (w : World) : (Instr.typeAssert (.iface 175 (.pointer (some ⟨b,0,none⟩))) 101 178 true).run Tryz.prog w = .ok (.tuple #[.pointer none,.bool false]) w := by kernel_rfl
theorem nA_If (b : Nat) (w : World) : (Instr.typeAssert (.iface 175 (.pointer (some ⟨b,0,none⟩))) 101 181 true).run Tryz.prog w = .ok (.tuple #[.pointer none,.bool false]) w := by kernel_rfl
theorem nA_Let (b : Nat) (w : World) : (Instr.typeAssert (.iface 175 (.pointer (some ⟨b,0,none⟩))) 101 184 true).run Tryz.prog w = .ok (.tuple #[.pointer none,.bool false]) w := by kernel_rfl
theorem nA_LetRec (b : Nat) (w : World) : (Instr.typeAssert (.iface 175 (.pointer (some ⟨b,0,none⟩))) 101 190 true).run Tryz.prog w = .ok (.tuple #[.pointer none,.bool false]) w := by kernel_rfl
theorem nA_Apply (b : Nat) (w : World) : (Instr.typeAssert (.iface 175 (.pointer (some ⟨b,0,none⟩))) 101 195 true).run Tryz.prog w = .ok (.tuple #[.pointer none,.bool false]) w := by kernel_rfl
theorem nA_Pair (b : Nat) (w : World) : (Instr.typeAssert (.iface 175 (.pointer (some ⟨b,0,none⟩))) 101 198 true).run Tryz.prog w = .ok (.tuple #[.pointer none,.bool false]) w := by kernel_rfl
theorem idle_of (q : Addr) (w : World) :
    CallsD Tryz.prog 73 #[.pointer (some q)] .returning w fun e u' w' => e = .returned (.tuple #[]) ∧ u' = .returning ∧ w' = w := by
  refine callsD_of_wpS Tryz.func73 rfl fun c₀ cs hu => ?_
  apply wpS_seq
  apply wpS_region
  simp [wpOpsS,go_sem,recoverD,hu,Tryz.ntmps73,Exit.thenS]
  refine wpS_of_wp ?_
  go_wp2
  cases c₀
  simp_all [bodyPostS,results,Tryz.results73]
end Go.Proofs.YtcdijppegfcoaabGreatDoor
