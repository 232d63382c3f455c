import Derived.Test.YtcdijppegfcoaabGreatDoorZC01
import Derived.Test.YtcdijppegfcoaabGreatDoorZC00
import Derived.Deep.LoopGhost
import Derived.Deep.AppendLies
import Derived.Maps.OwnSet
import Derived.Lib.ItoaNum
import Derived.Laws.Runes
import Derived.Outline
import Derived.Deep.RegionWith
import Derived.Laws.EntriesVeiled
set_option maxRecDepth 100000
set_option maxHeartbeats 4000000
namespace Go.Proofs.YtcdijppegfcoaabGreatDoor
open Go.RowKit
theorem isS_bad {T : List Tok} {st : St} {x : List UInt8} (h : 0 ≤ st.bad) : isS T st x = false := by
  simp only [isS,Bool.and_eq_false_iff,decide_eq_false_iff_not]
  exact Or.inl (by omega)
theorem bracketed_p (T : List Tok) (n : Nat) (hl : T.length ≤ 400) (hE : EXPP T n) (w : World) (rb : Nat) (s : ByteArray) (H : Nat → Option Obj) (st : St) (x : Ex) (s1 : St) (ex : Ex) (st' : St) (p : Nat)
    (hx : expS T n st = some (x,s1)) (hy : (if isS T s1 kComma = true then match expS T n s1.up with
        | none => none
        | some (y,s2) => some (⟨oPair,[],[x,y],p⟩,needS T s2 kShut)
      else some (x,needS T s1 kShut)) = some (ex,st')) (h : PSt exKw w rb s T st) (hz : Fz H w) (hr : H rb = none) :
    Calls Tryz.prog 179 #[rdV rb] w fun e w' => EOut w w' rb s T H st.k st' e ex := by
  have hlt := h.lt
  have HP := hid (h.alloc (.cells #[.pointer (some ⟨rb,0,none⟩)] 153))
  have HZ := hid (hz.alloc (.cells #[.pointer (some ⟨rb,0,none⟩)] 153))
  have HE := hid hE
  have HX := hid hx
  have HY := hid hy
  have K0 := hid ((Kept.refl rb w).alloc (.cells #[.pointer (some ⟨rb,0,none⟩)] 153))
  clear h hz hE hx hy
  unfold rdV
  go_enter Tryz.func179,Tryz.ntmps179
  go_wp2_with fail
  refine (HE.out _ rb s H st x s1 HX.out HP.out HZ.out hr).mono ?_
  rintro e w1 ⟨k1,(⟨v1,H1,m1,rfl,p1,z1,e1,r1,d1⟩ | ⟨hb,b,rfl,hrf⟩)⟩
  case inr =>
    have e4 := HY.out
    rw [if_neg (by rw [isS_bad hb]; decide),need_bad hb] at e4
    cases e4
    unfold refusal
    go_wp2
    exact ⟨rfl,K0.out.trans k1,Or.inr ⟨hb,b,rfl,hrf⟩⟩
  case inl =>
  obtain ⟨t1,b1,ht1,rfl,hb1,hc1⟩ := r1.dat z1
  have bx1 : w1.cell? ⟨w.heap.size,0,none⟩ = some (.pointer (some ⟨rb,0,none⟩)) := by
    rw [kept_cell k1 (by simp) (by omega)]
    simp [go_sem]
  have hw1 : w.heap.size < w1.heap.size := by have := k1.size; simp at this; omega
  have hr1 : H1 rb = none := by rw [e1.2 rb (by simp; omega)]; exact hr
  have P1 := hid p1
  have K1 := hid (K0.out.trans k1)
  have Z1 := hid z1
  have E1 := hid (e1.from (n := w.heap.size) (by simp))
  have R1 := hid r1
  have D1 := hid d1
  clear p1 k1 z1 e1 r1 d1 hb1 hc1
  go_wp2_with fail
  refine (skips_p exKw exKw_ok _ rb s T s1 kComma P1.out (Or.inr (by decide))).mono ?_
  rintro e w2 ⟨rfl,p2,k2⟩
  have bx2 : w2.cell? ⟨w.heap.size,0,none⟩ = some (.pointer (some ⟨rb,0,none⟩)) := by
    rw [kept_cell k2 hw1 (by omega)]
    exact bx1
  have hw2 : w1.heap.size ≤ w2.heap.size := k2.size
  have P2 := hid p2
  have K2 := hid (K1.out.trans k2)
  have Z2 := hid (Z1.out.kept k2 hr1)
  clear p2 k2 bx1
  cases hi : isS T s1 kComma with
  | false =>
    have p2 := P2.out
    rw [take_no hi] at p2
    have P2' := hid p2
    have e4 := HY.out
    rw [if_neg (by rw [hi]; decide)] at e4
    cases e4
    clear hi p2
    go_wp2_with fail
    refine (must_p exKw exKw_ok _ rb s T s1 kShut P2'.out (Or.inr (by decide))).mono ?_
    rintro e w3 ⟨k3,(⟨rfl,p3⟩ | ⟨hb,b,rfl,hrf⟩)⟩
    case inr =>
      unfold refusal
      go_wp2
      exact ⟨rfl,K2.out.trans k3,Or.inr ⟨hb,b,rfl,hrf⟩⟩
    case inl =>
      have Q := hid (And.intro p3 k3)
      have hn := need_good p3.neg
      clear p3 k3
      go_wp2
      go_ret
      refine ⟨K2.out.trans Q.out.2,Or.inl ⟨_,H1,m1,rfl,Q.out.1,Z2.out.kept Q.out.2 hr1,E1.out,R1.out,?_⟩⟩
      have := D1.out
      omega
  | true =>
    have p2 := P2.out
    rw [take_yes hi] at p2
    have P2' := hid p2
    have e4 := HY.out
    rw [if_pos hi] at e4
    cases hey : expS T n s1.up with
    | none => rw [hey] at e4; cases e4
    | some q =>
    obtain ⟨y,s2⟩ := q
    rw [hey] at e4
    cases e4
    have HEY := hid hey
    clear hi p2 hey
    go_wp2_with fail
    refine (HE.out _ rb s H1 _ y s2 HEY.out P2'.out Z2.out hr1).mono ?_
    rintro e w3 ⟨k3,(⟨v2,H3,m2,rfl,p3,z3,e3,r3,d3⟩ | ⟨hb,b,rfl,hrf⟩)⟩
    case inr =>
      unfold refusal
      go_wp2
      exact ⟨rfl,K2.out.trans k3,Or.inr ⟨by rw [need_bad hb]; exact hb,b,rfl,by rw [need_bad hb]; exact hrf⟩⟩
    case inl =>
    obtain ⟨t2,b2,ht2,rfl,hb2,hc2⟩ := r3.dat z3
    have bx3 : w3.cell? ⟨w.heap.size,0,none⟩ = some (.pointer (some ⟨rb,0,none⟩)) := by
      rw [kept_cell k3 (by omega) (by omega)]
      exact bx2
    have hw3 : w2.heap.size ≤ w3.heap.size := k3.size
    have hr3 : H3 rb = none := by rw [e3.2 rb (by omega)]; exact hr1
    have P3 := hid p3
    have K3 := hid (K2.out.trans k3)
    have Z3 := hid z3
    have E3 := hid (e3.from (n := w.heap.size) (by omega))
    have R3 := hid r3
    have D3 := hid d3
    clear p3 k3 z3 e3 r3 d3 hb2 hc2 bx2
    go_wp2_with fail
    refine (must_p exKw exKw_ok _ rb s T s2 kShut P3.out (Or.inr (by decide))).mono ?_
    rintro e w4 ⟨k4,(⟨rfl,p4⟩ | ⟨hb,b,rfl,hrf⟩)⟩
    case inr =>
      unfold refusal
      go_wp2
      exact ⟨rfl,K3.out.trans k4,Or.inr ⟨hb,b,rfl,hrf⟩⟩
    case inl =>
    have hw4 : w3.heap.size ≤ w4.heap.size := k4.size
    have hn := need_good p4.neg
    have hkk := p4.klt
    obtain ⟨M,hM⟩ : ∃ M,M = max m1 m2 := ⟨_,rfl⟩
    have RA : Hid (PRep M H3 (.iface t1 (.pointer (some ⟨b1,0,none⟩))) x) := (PRep.ext E3.out _ _ _ R1.out).le (by omega)
    have RB : Hid (PRep M H3 (.iface t2 (.pointer (some ⟨b2,0,none⟩))) y) := R3.out.le (by omega)
    have q1 : exDeep M x = exDeep m1 x := deep_le (PRep.shape _ _ _ R1.out) (by omega)
    have q2 : exDeep M y = exDeep m2 y := deep_le (PRep.shape _ _ _ R3.out) (by omega)
    have D5 := hid (show max (exDeep M x) (exDeep M y) + 1 + st.k ≤ (needS T s2 kShut).k ∧ (needS T s2 kShut).k < T.length by
      have := D1.out
      have := D3.out
      have := deep_pos R1.out
      have := deep_pos R3.out
      have e5 : s1.up.k = s1.k + 1 := rfl
      omega)
    have ZA := hid ((Z3.out.kept k4 hr3).alloc (.cells #[(.iface t1 (.pointer (some ⟨b1,0,none⟩))),(.iface t2 (.pointer (some ⟨b2,0,none⟩)))] 101))
    have P5 := hid p4
    have K5 := hid (K3.out.trans k4)
    have E5 := hid (E1.out.trans E3.out (Nat.le_refl _))
    clear p4 k4 bx3 hM q1 q2
    have AB : Hid (Calls Tryz.prog 143 #[.slice (some ⟨w4.heap.size,0,none⟩) 2 2] (w4.alloc (.cells #[(.iface t1 (.pointer (some ⟨b1,0,none⟩))),(.iface t2 (.pointer (some ⟨b2,0,none⟩)))] 101)) fun e w' => e = .returned (.agg #[.int .i64 ((maxl [exDeep M x,exDeep M y] + 1 : Nat) : Int)]) ∧ (w4.alloc (.cells #[(.iface t1 (.pointer (some ⟨b1,0,none⟩))),(.iface t2 (.pointer (some ⟨b2,0,none⟩)))] 101)).grownBy w' none) :=
      above_p _ (some ⟨w4.heap.size,0,none⟩) 2 [(.iface t1 (.pointer (some ⟨b1,0,none⟩))),(.iface t2 (.pointer (some ⟨b2,0,none⟩)))] [exDeep M x,exDeep M y] rfl (by simp) (row2 (w := w4) (t := 101)) (all2 (p := fun u d => DAt _ u d) (RA.out.dat ZA.out) (RB.out.dat ZA.out)) (by have := D5.out; simp [maxl]; omega)
    go_wp2_with fail
    refine AB.out.mono ?_
    rintro e w6 ⟨rfl,g6⟩
    have G6 := hid g6
    clear g6
    go_wp2
    go_ret
    obtain ⟨H7,z7,x7,r7⟩ := node_rep (w := w6) (H := H3) (ZA.out.grown G6.out) ⟨oPair,[],[x,y],p⟩ [(.iface t1 (.pointer (some ⟨b1,0,none⟩))),(.iface t2 (.pointer (some ⟨b2,0,none⟩)))] M (.cells #[.int .i64 ((exDeep (M + 1) ⟨oPair,[],[x,y],p⟩ : Nat) : Int),(.iface t1 (.pointer (some ⟨b1,0,none⟩))),(.iface t2 (.pointer (some ⟨b2,0,none⟩)))] 200) rfl
      (kids2 (p := fun u q => PRep M H3 u q) RA.out RB.out)
      (fun H' _ h2 => Or.inr (Or.inr (Or.inr (Or.inr (Or.inr (Or.inr (Or.inr ⟨rfl,_,_,rfl,rfl,h2⟩)))))))
    have hw6 : w4.heap.size ≤ w6.heap.size := by have := G6.out.size; simp at this; omega
    refine ⟨((K5.out.alloc _).trans (Kept.of0 rb G6.out)).alloc _,Or.inl ⟨_,H7,M + 1,rfl,((P5.out.alloc _).grown G6.out).alloc _,z7,E5.out.trans x7 (by omega),r7,?_⟩⟩
    have hd : exDeep (M + 1) ⟨oPair,[],[x,y],p⟩ = max (exDeep M x) (exDeep M y) + 1 := by simp [exDeep,maxl]
    have := D5.out
    omega
theorem Rdr.grown {w w' : World} {rb : Nat} {s : ByteArray} {J : Nat} (h : Rdr w rb s J) (hg : w.grownBy w' none) : Rdr w' rb s J := by
  unfold Rdr
  rw [hg.block rb (lt_of_block h) (by simp)]
  exact h
theorem leaf_out {w w9 : World} {rb : Nat} {s : ByteArray} {T : List Tok} {H : Nat → Option Obj} {st : St} (k : Kept rb w w9) (q : PSt exKw w9 rb s T st.up) (z : Fz H w9) (op txt : List UInt8) (p : Nat) (obj : Obj)
    (hop : (op = kName ∧ obj = .cells #[.int .i64 1,.string (B txt),.int .i64 (p : Int)] 163) ∨ (op = kNum ∧ obj = .cells #[.int .i64 1,.string (B txt)] 177)) :
    EOut w (w9.alloc obj) rb s T H st.k st.up (.returned (.iface (pT op) (.pointer (some ⟨w9.heap.size,0,none⟩)))) ⟨op,[txt],[],p⟩ := by
  obtain ⟨H7,z7,x7,r7⟩ := node_rep z ⟨op,[txt],[],p⟩ [] 0 obj rfl (fun i y u h1 => by simp at h1) (fun H' _ h2 => by
    rcases hop with ⟨rfl,rfl⟩ | ⟨rfl,rfl⟩
    · exact Or.inl ⟨rfl,txt,rfl,rfl,rfl,h2⟩
    · exact Or.inr (Or.inl ⟨rfl,txt,rfl,rfl,rfl,h2⟩))
  refine ⟨k.alloc _,Or.inl ⟨_,H7,1,rfl,q.alloc _,z7,(x7.from k.size),r7,?_⟩⟩
  show exDeep 1 _ + st.k ≤ st.k + 1
  simp [exDeep,maxl]
  omega
def kInt : List UInt8 := [105,110,116]
def kBool : List UInt8 := [98,111,111,108]
def kSq : List UInt8 := [91]
def kQs : List UInt8 := [93]
def oList : List UInt8 := [108,105,115,116]
def tyKw : List (List UInt8) := [kInt,kBool]
structure Ty where
  kind : List UInt8
  var : Nat
  kids : List Ty
def numS (ns : List (List UInt8)) (n : List UInt8) : Nat × List (List UInt8) := if n ∈ ns then (ns.idxOf n,ns) else (ns.length,ns ++ [n])
def oneS (A : List (List UInt8) → St → Option (Ty × List (List UInt8) × St)) (T : List Tok) (ns : List (List UInt8)) (s : St) : Option (Ty × List (List UInt8) × St) :=
  if isS T s kInt = true then some (⟨kInt,0,[]⟩,ns,s.up)
  else if isS T s kBool = true then some (⟨kBool,0,[]⟩,ns,s.up)
  else if isS T s kSq = true then match A ns s.up with
    | none => none
    | some (t,n1,s1) => some (⟨oList,0,[t]⟩,n1,needS T s1 kQs)
  else if isS T s kOpen = true then match A ns s.up with
    | none => none
    | some (t,n1,s1) =>
      if isS T s1 kComma = true then match A n1 s1.up with
        | none => none
        | some (u,n2,s2) => some (⟨oPair,0,[t,u]⟩,n2,needS T s2 kShut)
      else some (t,n1,needS T s1 kShut)
  else some (⟨[],(numS ns (tk T s.k).s).1,[]⟩,(numS ns (tk T s.k).s).2,needS T s kName)
def arrS (T : List Tok) : Nat → List (List UInt8) → St → Option (Ty × List (List UInt8) × St)
  | 0,_,_ => none
  | n + 1,ns,s => match oneS (arrS T n) T ns s with
    | none => none
    | some (t,n1,s1) =>
      if isS T s1 kArrow = true then match arrS T n n1 s1.up with
        | none => none
        | some (u,n2,s2) => some (⟨kFun,0,[t,u]⟩,n2,s2)
      else some (t,n1,s1)
def tySize : Nat → Ty → Nat
  | 0,_ => 0
  | n + 1,t => 1 + (t.kids.map (tySize n)).sum
def tyVars : Nat → Ty → List Nat → List Nat
  | 0,_,l => l
  | n + 1,t,l => if t.kind = [] then (if t.var ∈ l then l else l ++ [t.var]) else t.kids.foldl (fun l x => tyVars n x l) l
def tyText : Nat → List (List UInt8) → Ty → List UInt8
  | 0,_,_ => []
  | n + 1,ns,t =>
    if t.kind = [] then ns.getD t.var []
    else match t.kids with
      | [a] => [91] ++ tyText n ns a ++ [93]
      | [a,b] => if t.kind = kFun then (if a.kind = kFun then [40] ++ tyText n ns a ++ [41] else tyText n ns a) ++ [32,45,62,32] ++ tyText n ns b
          else [40] ++ tyText n ns a ++ [44,32] ++ tyText n ns b ++ [41]
      | _ => t.kind
def TRep : Nat → (Nat → Option Obj) → Nat → Ty → Prop
  | 0,_,_,_ => False
  | n + 1,H,b,t => ∃ ks bs,H b = some (.cells #[.string (B t.kind),.int .i64 (t.var : Int),ks] 99006 (0,0)) ∧ RowH H 99001 ks (ptrs bs) ∧
      bs.length = t.kids.length ∧ ∀ (i : Nat) (x : Ty) (c : Nat),bs[i]? = some c → t.kids[i]? = some x → TRep n H c x
theorem sum_take_le (l : List Nat) (j : Nat) : (l.take j).sum ≤ l.sum := by
  conv => rhs; rw [← List.take_append_drop j l,List.sum_append]
  omega
theorem isS_ok {T : List Tok} {s : St} {k : List UInt8} (h : isS T s k = true) : s.bad < 0 := by
  unfold isS at h
  simp at h
  exact h.1
theorem needS_go (T : List Tok) (s : St) (k : List UInt8) : s.k ≤ (needS T s k).k ∧ (needS T s k).k ≤ s.k + 1 ∧ ((needS T s k).bad < 0 → s.bad < 0 ∧ (needS T s k).k = s.k + 1) := by
  unfold needS
  by_cases h : isS T s k = true
  · rw [if_pos h]
    exact ⟨by simp,by simp,fun _ => ⟨isS_ok h,rfl⟩⟩
  · rw [if_neg h]
    refine ⟨by simp,by simp,fun hb => ?_⟩
    exfalso
    by_cases h2 : s.bad < 0
    · simp only [if_pos h2] at hb
      omega
    · simp only [if_neg h2] at hb
      exact h2 hb
theorem numS_len (ns : List (List UInt8)) (n : List UInt8) : ns.length ≤ (numS ns n).2.length ∧ (numS ns n).2.length ≤ ns.length + 1 ∧ (numS ns n).1 < (numS ns n).2.length := by
  unfold numS
  by_cases h : n ∈ ns
  · rw [if_pos h]
    exact ⟨Nat.le_refl _,by simp,List.idxOf_lt_length_of_mem h⟩
  · rw [if_neg h]
    simp
def Went (ns : List (List UInt8)) (s : St) (ns' : List (List UInt8)) (s' : St) : Prop :=
  s.k ≤ s'.k ∧ ns.length ≤ ns'.length ∧ ns'.length + s.k ≤ ns.length + s'.k + 1 ∧ (s'.bad < 0 → ns'.length + s.k ≤ ns.length + s'.k ∧ s.k < s'.k)
theorem one_went {A : List (List UInt8) → St → Option (Ty × List (List UInt8) × St)} {T : List Tok} (hA : ∀ ns s t ns' s',s.bad < 0 → A ns s = some (t,ns',s') → Went ns s ns' s') {ns : List (List UInt8)} {s : St} {t : Ty} {ns' : List (List UInt8)} {s' : St} (hb : s.bad < 0)
    (h : oneS A T ns s = some (t,ns',s')) : Went ns s ns' s' := by
  unfold oneS at h
  by_cases h1 : isS T s kInt = true
  · rw [if_pos h1] at h
    cases h
    exact ⟨by simp [St.up],by simp,by simp [St.up]; omega,fun _ => ⟨by simp [St.up],by simp [St.up]⟩⟩
  rw [if_neg h1] at h
  by_cases h2 : isS T s kBool = true
  · rw [if_pos h2] at h
    cases h
    exact ⟨by simp [St.up],by simp,by simp [St.up]; omega,fun _ => ⟨by simp [St.up],by simp [St.up]⟩⟩
  rw [if_neg h2] at h
  have hu : s.up.k = s.k + 1 := rfl
  by_cases h3 : isS T s kSq = true
  · rw [if_pos h3] at h
    cases e : A ns s.up with
    | none => rw [e] at h; cases h
    | some r =>
      obtain ⟨x,n1,s1⟩ := r
      rw [e] at h
      cases h
      obtain ⟨w1,w2,w3,w4⟩ := hA _ _ _ _ _ (by exact hb) e
      obtain ⟨q1,q2,q3⟩ := needS_go T s1 kQs
      refine ⟨by omega,w2,by omega,fun hx => ?_⟩
      obtain ⟨hs1,hk⟩ := q3 hx
      have := w4 hs1
      omega
  rw [if_neg h3] at h
  by_cases h4 : isS T s kOpen = true
  · rw [if_pos h4] at h
    cases e : A ns s.up with
    | none => rw [e] at h; cases h
    | some r =>
      obtain ⟨x,n1,s1⟩ := r
      rw [e] at h
      obtain ⟨w1,w2,w3,w4⟩ := hA _ _ _ _ _ (by exact hb) e
      by_cases h5 : isS T s1 kComma = true
      · simp only [if_pos h5] at h
        have hu1 : s1.up.k = s1.k + 1 := rfl
        have hs1 := isS_ok h5
        have w5 := w4 hs1
        cases e2 : A n1 s1.up with
        | none => rw [e2] at h; cases h
        | some r2 =>
          obtain ⟨y,n2,s2⟩ := r2
          rw [e2] at h
          cases h
          obtain ⟨v1,v2,v3,v4⟩ := hA _ _ _ _ _ (by exact hs1) e2
          obtain ⟨q1,q2,q3⟩ := needS_go T s2 kShut
          refine ⟨by omega,by omega,by omega,fun hx => ?_⟩
          obtain ⟨hs2,hk⟩ := q3 hx
          have := v4 hs2
          omega
      · simp only [if_neg h5] at h
        cases h
        obtain ⟨q1,q2,q3⟩ := needS_go T s1 kShut
        refine ⟨by omega,w2,by omega,fun hx => ?_⟩
        obtain ⟨hs1,hk⟩ := q3 hx
        have := w4 hs1
        omega
  rw [if_neg h4] at h
  cases h
  obtain ⟨q1,q2,q3⟩ := needS_go T s kName
  obtain ⟨l1,l2,_⟩ := numS_len ns (tk T s.k).s
  refine ⟨q1,l1,by omega,fun hx => ?_⟩
  have := (q3 hx).2
  omega
theorem arr_went (T : List Tok) : ∀ (n : Nat) (ns : List (List UInt8)) (s : St) (t : Ty) (ns' : List (List UInt8)) (s' : St),s.bad < 0 → arrS T n ns s = some (t,ns',s') → Went ns s ns' s'
  | 0,_,_,_,_,_,_,h => by cases h
  | n + 1,ns,s,t,ns',s',hb,h => by
    unfold arrS at h
    cases e : oneS (arrS T n) T ns s with
    | none => rw [e] at h; cases h
    | some r =>
      obtain ⟨x,n1,s1⟩ := r
      rw [e] at h
      obtain ⟨w1,w2,w3,w4⟩ := one_went (arr_went T n) hb e
      by_cases h5 : isS T s1 kArrow = true
      · simp only [if_pos h5] at h
        have hu1 : s1.up.k = s1.k + 1 := rfl
        have hs1 := isS_ok h5
        have w5 := w4 hs1
        cases e2 : arrS T n n1 s1.up with
        | none => rw [e2] at h; cases h
        | some r2 =>
          obtain ⟨y,n2,s2⟩ := r2
          rw [e2] at h
          cases h
          obtain ⟨v1,v2,v3,v4⟩ := arr_went T n _ _ _ _ _ (by exact hs1) e2
          refine ⟨by omega,by omega,by omega,fun hx => ?_⟩
          have := v4 hx
          omega
      · simp only [if_neg h5] at h
        cases h
        exact ⟨w1,w2,w3,w4⟩
theorem one_tot {A : List (List UInt8) → St → Option (Ty × List (List UInt8) × St)} {T : List Tok} (hT : Wf T) {n : Nat} (hW : ∀ ns s t ns' s',s.bad < 0 → A ns s = some (t,ns',s') → Went ns s ns' s')
    (hA : ∀ ns s,s.bad < 0 → s.k < T.length → T.length - s.k < n → ∃ t ns' s',A ns s = some (t,ns',s') ∧ s'.k < T.length) (ns : List (List UInt8)) (s : St) (hb : s.bad < 0) (hk : s.k < T.length) (hn : T.length - s.k < n + 1) :
    ∃ t ns' s',oneS A T ns s = some (t,ns',s') ∧ s'.k < T.length := by
  have hu : s.up.k = s.k + 1 := rfl
  unfold oneS
  by_cases h1 : isS T s kInt = true
  · exact ⟨_,_,_,by rw [if_pos h1],hT.up hk h1 (by decide) (by decide)⟩
  rw [if_neg h1]
  by_cases h2 : isS T s kBool = true
  · exact ⟨_,_,_,by rw [if_pos h2],hT.up hk h2 (by decide) (by decide)⟩
  rw [if_neg h2]
  by_cases h3 : isS T s kSq = true
  · have hk1 := hT.up hk h3 (by decide) (by decide)
    obtain ⟨t,n1,s1,e,hs1⟩ := hA ns s.up hb hk1 (by omega)
    exact ⟨_,_,_,by rw [if_pos h3,e],hT.need hs1 (by decide) (by decide)⟩
  rw [if_neg h3]
  by_cases h4 : isS T s kOpen = true
  · have hk1 := hT.up hk h4 (by decide) (by decide)
    obtain ⟨t,n1,s1,e,hs1⟩ := hA ns s.up hb hk1 (by omega)
    have w1 := hW _ _ _ _ _ (show s.up.bad < 0 from hb) e
    rw [if_pos h4,e]
    by_cases h5 : isS T s1 kComma = true
    · have hk2 := hT.up hs1 h5 (by decide) (by decide)
      have hu1 : s1.up.k = s1.k + 1 := rfl
      have := w1.1
      obtain ⟨u,n2,s2,e2,hs2⟩ := hA n1 s1.up (show s1.bad < 0 from isS_ok h5) hk2 (by omega)
      exact ⟨⟨oPair,0,[t,u]⟩,n2,needS T s2 kShut,by simp only [if_pos h5,e2],hT.need hs2 (by decide) (by decide)⟩
    · exact ⟨t,n1,needS T s1 kShut,by simp only [if_neg h5],hT.need hs1 (by decide) (by decide)⟩
  rw [if_neg h4]
  exact ⟨_,_,_,rfl,hT.need hk (by decide) (by decide)⟩
theorem arr_tot {T : List Tok} (hT : Wf T) : ∀ (n : Nat) (ns : List (List UInt8)) (s : St),s.bad < 0 → s.k < T.length → T.length - s.k < n → ∃ t ns' s',arrS T n ns s = some (t,ns',s') ∧ s'.k < T.length
  | 0,_,_,_,_,h => by omega
  | n + 1,ns,s,hb,hk,h => by
    obtain ⟨t,n1,s1,e,hs1⟩ := one_tot hT (arr_went T n) (arr_tot hT n) ns s hb hk h
    have w1 := one_went (arr_went T n) hb e
    unfold arrS
    rw [e]
    by_cases h5 : isS T s1 kArrow = true
    · have hk2 := hT.up hs1 h5 (by decide) (by decide)
      have hu1 : s1.up.k = s1.k + 1 := rfl
      have := w1.1
      obtain ⟨u,n2,s2,e2,hs2⟩ := arr_tot hT n n1 s1.up (show s1.bad < 0 from isS_ok h5) hk2 (by omega)
      exact ⟨⟨kFun,0,[t,u]⟩,n2,s2,by simp only [if_pos h5,e2],hs2⟩
    · exact ⟨t,n1,s1,by simp only [if_neg h5],hs1⟩
def TyOk (N : Nat) : Nat → Ty → Prop
  | 0,_ => False
  | m + 1,t => (t.kind = [] ∧ t.var < N ∧ t.kids = []) ∨ ((t.kind = kInt ∨ t.kind = kBool) ∧ t.var = 0 ∧ t.kids = []) ∨
      (t.kind = oList ∧ t.var = 0 ∧ ∃ a,t.kids = [a] ∧ TyOk N m a) ∨ ((t.kind = oPair ∨ t.kind = kFun) ∧ t.var = 0 ∧ ∃ a b,t.kids = [a,b] ∧ TyOk N m a ∧ TyOk N m b)
theorem TyOk.up {N : Nat} : ∀ (m : Nat) (t : Ty),TyOk N m t → TyOk N (m + 1) t
  | 0,_,h => absurd h id
  | m + 1,t,h => by
    rcases h with h | h | ⟨h1,h2,a,h3,h4⟩ | ⟨h1,h2,a,b,h3,h4,h5⟩
    · exact Or.inl h
    · exact Or.inr (Or.inl h)
    · exact Or.inr (Or.inr (Or.inl ⟨h1,h2,a,h3,TyOk.up m a h4⟩))
    · exact Or.inr (Or.inr (Or.inr ⟨h1,h2,a,b,h3,TyOk.up m a h4,TyOk.up m b h5⟩))
theorem TyOk.le {N m m' : Nat} {t : Ty} (h : TyOk N m t) (hm : m ≤ m') : TyOk N m' t := by
  induction m' with
  | zero => rw [Nat.le_zero.1 hm] at h; exact h
  | succ m' ih =>
    rcases Nat.lt_or_ge m (m' + 1) with hlt | hge
    · exact TyOk.up m' t (ih (by omega))
    · rw [show m' + 1 = m from by omega]; exact h
theorem TyOk.wide {N N' : Nat} (hN : N ≤ N') : ∀ (m : Nat) (t : Ty),TyOk N m t → TyOk N' m t
  | 0,_,h => h
  | m + 1,t,h => by
    rcases h with ⟨h1,h2,h3⟩ | h | ⟨h1,h2,a,h3,h4⟩ | ⟨h1,h2,a,b,h3,h4,h5⟩
    · exact Or.inl ⟨h1,by omega,h3⟩
    · exact Or.inr (Or.inl h)
    · exact Or.inr (Or.inr (Or.inl ⟨h1,h2,a,h3,TyOk.wide hN m a h4⟩))
    · exact Or.inr (Or.inr (Or.inr ⟨h1,h2,a,b,h3,TyOk.wide hN m a h4,TyOk.wide hN m b h5⟩))
theorem TyOk.size {N : Nat} : ∀ (m m' : Nat) (t : Ty),TyOk N m t → m ≤ m' → tySize m' t = tySize m t
  | 0,_,_,h,_ => absurd h id
  | m + 1,0,_,_,hm => by omega
  | m + 1,m' + 1,t,h,hm => by
    rcases h with ⟨h1,h2,h3⟩ | ⟨h1,h2,h3⟩ | ⟨h1,h2,a,h3,h4⟩ | ⟨h1,h2,a,b,h3,h4,h5⟩
    · simp [tySize,h3]
    · simp [tySize,h3]
    · simp [tySize,h3,TyOk.size m m' a h4 (by omega)]
    · simp [tySize,h3,TyOk.size m m' a h4 (by omega),TyOk.size m m' b h5 (by omega)]
def Made (t : Ty) (ns' : List (List UInt8)) (s s' : St) : Prop := ∃ m,TyOk ns'.length m t ∧ tySize m t + s.k ≤ s'.k + 1 ∧ (s'.bad < 0 → tySize m t + s.k ≤ s'.k)
theorem two_made {k : List UInt8} (hk : k = oPair ∨ k = kFun) {a b : Ty} {N m1 m2 : Nat} (h1 : TyOk N m1 a) (h2 : TyOk N m2 b) : ∃ m,TyOk N m ⟨k,0,[a,b]⟩ ∧ tySize m ⟨k,0,[a,b]⟩ = 1 + tySize m1 a + tySize m2 b := by
  refine ⟨max m1 m2 + 1,Or.inr (Or.inr (Or.inr ⟨hk,rfl,a,b,rfl,h1.le (Nat.le_max_left _ _),h2.le (Nat.le_max_right _ _)⟩)),?_⟩
  simp [tySize,TyOk.size _ _ _ h1 (Nat.le_max_left m1 m2),TyOk.size _ _ _ h2 (Nat.le_max_right m1 m2)]
  omega
theorem one_made {A : List (List UInt8) → St → Option (Ty × List (List UInt8) × St)} {T : List Tok} (hW : ∀ ns s t ns' s',s.bad < 0 → A ns s = some (t,ns',s') → Went ns s ns' s') (hA : ∀ ns s t ns' s',s.bad < 0 → A ns s = some (t,ns',s') → Made t ns' s s') {ns : List (List UInt8)} {s : St} {t : Ty} {ns' : List (List UInt8)} {s' : St} (hb : s.bad < 0)
    (h : oneS A T ns s = some (t,ns',s')) : Made t ns' s s' := by
  have hu : s.up.k = s.k + 1 := rfl
  unfold oneS at h
  by_cases h1 : isS T s kInt = true
  · rw [if_pos h1] at h
    cases h
    exact ⟨1,Or.inr (Or.inl ⟨Or.inl rfl,rfl,rfl⟩),by simp [tySize]; omega,fun _ => by simp [tySize]; omega⟩
  rw [if_neg h1] at h
  by_cases h2 : isS T s kBool = true
  · rw [if_pos h2] at h
    cases h
    exact ⟨1,Or.inr (Or.inl ⟨Or.inr rfl,rfl,rfl⟩),by simp [tySize]; omega,fun _ => by simp [tySize]; omega⟩
  rw [if_neg h2] at h
  by_cases h3 : isS T s kSq = true
  · rw [if_pos h3] at h
    cases e : A ns s.up with
    | none => rw [e] at h; cases h
    | some r =>
      obtain ⟨x,n1,s1⟩ := r
      rw [e] at h
      cases h
      obtain ⟨m,w1,w2,w3⟩ := hA _ _ _ _ _ (show s.up.bad < 0 from hb) e
      obtain ⟨q1,q2,q3⟩ := needS_go T s1 kQs
      have ez : tySize (m + 1) ⟨oList,0,[x]⟩ = 1 + tySize m x := by simp [tySize]
      refine ⟨m + 1,Or.inr (Or.inr (Or.inl ⟨rfl,rfl,x,rfl,w1⟩)),by omega,fun hx => ?_⟩
      have := w3 (q3 hx).1
      omega
  rw [if_neg h3] at h
  by_cases h4 : isS T s kOpen = true
  · rw [if_pos h4] at h
    cases e : A ns s.up with
    | none => rw [e] at h; cases h
    | some r =>
      obtain ⟨x,n1,s1⟩ := r
      rw [e] at h
      obtain ⟨m,w1,w2,w3⟩ := hA _ _ _ _ _ (show s.up.bad < 0 from hb) e
      by_cases h5 : isS T s1 kComma = true
      · simp only [if_pos h5] at h
        have hu1 : s1.up.k = s1.k + 1 := rfl
        have hs1 := isS_ok h5
        have w5 := w3 hs1
        cases e2 : A n1 s1.up with
        | none => rw [e2] at h; cases h
        | some r2 =>
          obtain ⟨y,n2,s2⟩ := r2
          rw [e2] at h
          cases h
          obtain ⟨m2,v1,v2,v3⟩ := hA _ _ _ _ _ (show s1.up.bad < 0 from hs1) e2
          have hw := hW _ _ _ _ _ (show s1.up.bad < 0 from hs1) e2
          obtain ⟨q1,q2,q3⟩ := needS_go T s2 kShut
          obtain ⟨m3,z1,z2⟩ := two_made (Or.inl rfl) (TyOk.wide hw.2.1 _ _ w1) v1
          refine ⟨m3,z1,by omega,fun hx => ?_⟩
          have := v3 (q3 hx).1
          omega
      · simp only [if_neg h5] at h
        cases h
        obtain ⟨q1,q2,q3⟩ := needS_go T s1 kShut
        refine ⟨m,w1,by omega,fun hx => ?_⟩
        have := w3 (q3 hx).1
        omega
  rw [if_neg h4] at h
  cases h
  obtain ⟨q1,q2,q3⟩ := needS_go T s kName
  obtain ⟨l1,l2,l3⟩ := numS_len ns (tk T s.k).s
  have ez : tySize 1 ⟨[],(numS ns (tk T s.k).s).1,[]⟩ = 1 := by simp [tySize]
  refine ⟨1,Or.inl ⟨rfl,l3,rfl⟩,by omega,fun hx => ?_⟩
  have := (q3 hx).2
  omega
theorem arr_made (T : List Tok) : ∀ (n : Nat) (ns : List (List UInt8)) (s : St) (t : Ty) (ns' : List (List UInt8)) (s' : St),s.bad < 0 → arrS T n ns s = some (t,ns',s') → Made t ns' s s'
  | 0,_,_,_,_,_,_,h => by cases h
  | n + 1,ns,s,t,ns',s',hb,h => by
    unfold arrS at h
    cases e : oneS (arrS T n) T ns s with
    | none => rw [e] at h; cases h
    | some r =>
      obtain ⟨x,n1,s1⟩ := r
      rw [e] at h
      have w := one_made (arr_went T n) (arr_made T n) hb e
      by_cases h5 : isS T s1 kArrow = true
      · simp only [if_pos h5] at h
        obtain ⟨m,w1,w2,w3⟩ := w
        have hu1 : s1.up.k = s1.k + 1 := rfl
        have hs1 := isS_ok h5
        have w5 := w3 hs1
        cases e2 : arrS T n n1 s1.up with
        | none => rw [e2] at h; cases h
        | some r2 =>
          obtain ⟨y,n2,s2⟩ := r2
          rw [e2] at h
          cases h
          obtain ⟨m2,v1,v2,v3⟩ := arr_made T n _ _ _ _ _ (show s1.up.bad < 0 from hs1) e2
          have hw := arr_went T n _ _ _ _ _ (show s1.up.bad < 0 from hs1) e2
          obtain ⟨m3,z1,z2⟩ := two_made (Or.inr rfl) (TyOk.wide hw.2.1 _ _ w1) v1
          refine ⟨m3,z1,by omega,fun hx => ?_⟩
          have := v3 hx
          omega
      · simp only [if_neg h5] at h
        cases h
        exact w
theorem tyKw_ok : KwOK tyKw := by
  intro x hx
  simp only [tyKw,List.mem_cons,List.not_mem_nil,or_false] at hx
  rcases hx with rfl | rfl <;> exact ⟨_,_,rfl,by decide,by decide,by decide,by decide,by decide,by decide⟩
def IsQ (t : TypeId) : Prop := t = 242 ∨ t = 275 ∨ t = 279 ∨ t = 291 ∨ t = 209
def QRep (ns : List (List UInt8)) : Nat → (Nat → Option Obj) → Value → Ty → Prop
  | 0,_,_,_ => False
  | n + 1,H,v,t => ∃ b,
    (t.kind = [] ∧ t.kids = [] ∧ (t.var < ns.length ∧ (ns.getD t.var []).length ≤ 300) ∧ v = .iface 242 (.pointer (some ⟨b,0,none⟩)) ∧ H b = some (.cells #[.string (B (ns.getD t.var []))] 246 (0,0))) ∨
    ((t.kind = kInt ∨ t.kind = kBool) ∧ t.kids = [] ∧ v = .iface 275 (.pointer (some ⟨b,0,none⟩)) ∧ H b = some (.cells #[.string (B t.kind)] 277 (0,0))) ∨
    (t.kind = oList ∧ ∃ a u,t.kids = [a] ∧ v = .iface 279 (.pointer (some ⟨b,0,none⟩)) ∧ H b = some (.cells #[u] 281 (0,0)) ∧ QRep ns n H u a) ∨
    (t.kind = oPair ∧ ∃ a c u z,t.kids = [a,c] ∧ v = .iface 291 (.pointer (some ⟨b,0,none⟩)) ∧ H b = some (.cells #[u,z] 319 (0,0)) ∧ QRep ns n H u a ∧ QRep ns n H z c) ∨
    (t.kind = kFun ∧ ∃ a c u z,t.kids = [a,c] ∧ v = .iface 209 (.pointer (some ⟨b,0,none⟩)) ∧ H b = some (.cells #[u,z] 211 (0,0)) ∧ QRep ns n H u a ∧ QRep ns n H z c)
theorem QRep.ext {ns : List (List UInt8)} {m : Nat} {H H' : Nat → Option Obj} (e : Ext m H H') : ∀ (n : Nat) (v : Value) (x : Ty),QRep ns n H v x → QRep ns n H' v x
  | 0,_,_,h => h
  | n + 1,v,x,h => by
    obtain ⟨b,h⟩ := h
    refine ⟨b,?_⟩
    rcases h with ⟨h1,h2,h3,h4,h5⟩ | ⟨h1,h2,h3,h4⟩ | ⟨h1,a,u,h2,h3,h4,h5⟩ | ⟨h1,a,c,u,z,h2,h3,h4,h5,h6⟩ | ⟨h1,a,c,u,z,h2,h3,h4,h5,h6⟩
    · exact Or.inl ⟨h1,h2,h3,h4,e.1 _ _ h5⟩
    · exact Or.inr (Or.inl ⟨h1,h2,h3,e.1 _ _ h4⟩)
    · exact Or.inr (Or.inr (Or.inl ⟨h1,a,u,h2,h3,e.1 _ _ h4,QRep.ext e n u a h5⟩))
    · exact Or.inr (Or.inr (Or.inr (Or.inl ⟨h1,a,c,u,z,h2,h3,e.1 _ _ h4,QRep.ext e n u a h5,QRep.ext e n z c h6⟩)))
    · exact Or.inr (Or.inr (Or.inr (Or.inr ⟨h1,a,c,u,z,h2,h3,e.1 _ _ h4,QRep.ext e n u a h5,QRep.ext e n z c h6⟩)))
theorem QRep.up {ns : List (List UInt8)} {H : Nat → Option Obj} : ∀ (n : Nat) (v : Value) (x : Ty),QRep ns n H v x → QRep ns (n + 1) H v x
  | 0,_,_,h => absurd h id
  | n + 1,v,x,h => by
    obtain ⟨b,h⟩ := h
    refine ⟨b,?_⟩
    rcases h with h | h | ⟨h1,a,u,h2,h3,h4,h5⟩ | ⟨h1,a,c,u,z,h2,h3,h4,h5,h6⟩ | ⟨h1,a,c,u,z,h2,h3,h4,h5,h6⟩
    · exact Or.inl h
    · exact Or.inr (Or.inl h)
    · exact Or.inr (Or.inr (Or.inl ⟨h1,a,u,h2,h3,h4,QRep.up n u a h5⟩))
    · exact Or.inr (Or.inr (Or.inr (Or.inl ⟨h1,a,c,u,z,h2,h3,h4,QRep.up n u a h5,QRep.up n z c h6⟩)))
    · exact Or.inr (Or.inr (Or.inr (Or.inr ⟨h1,a,c,u,z,h2,h3,h4,QRep.up n u a h5,QRep.up n z c h6⟩)))
theorem QRep.le {ns : List (List UInt8)} {H : Nat → Option Obj} {n m : Nat} {v : Value} {x : Ty} (h : QRep ns n H v x) (hm : n ≤ m) : QRep ns m H v x := by
  induction m with
  | zero => rw [Nat.le_zero.1 hm] at h; exact h
  | succ m ih =>
    rcases Nat.lt_or_ge n (m + 1) with hlt | hge
    · exact QRep.up m v x (ih (by omega))
    · rw [show m + 1 = n from by omega]; exact h
theorem getD_pre {ns ns' : List (List UInt8)} (h : ns <+: ns') {i : Nat} (hi : i < ns.length) : ns'.getD i [] = ns.getD i [] := by
  obtain ⟨r,rfl⟩ := h
  simp [List.getD,List.getElem?_append_left hi]
theorem QRep.wide {ns ns' : List (List UInt8)} (hp : ns <+: ns') {H : Nat → Option Obj} : ∀ (n : Nat) (v : Value) (x : Ty),QRep ns n H v x → QRep ns' n H v x
  | 0,_,_,h => h
  | n + 1,v,x,h => by
    obtain ⟨b,h⟩ := h
    refine ⟨b,?_⟩
    rcases h with ⟨h1,h2,h3,h4,h5⟩ | h | ⟨h1,a,u,h2,h3,h4,h5⟩ | ⟨h1,a,c,u,z,h2,h3,h4,h5,h6⟩ | ⟨h1,a,c,u,z,h2,h3,h4,h5,h6⟩
    · exact Or.inl ⟨h1,h2,⟨Nat.lt_of_lt_of_le h3.1 hp.length_le,by rw [getD_pre hp h3.1]; exact h3.2⟩,h4,by rw [getD_pre hp h3.1]; exact h5⟩
    · exact Or.inr (Or.inl h)
    · exact Or.inr (Or.inr (Or.inl ⟨h1,a,u,h2,h3,h4,QRep.wide hp n u a h5⟩))
    · exact Or.inr (Or.inr (Or.inr (Or.inl ⟨h1,a,c,u,z,h2,h3,h4,QRep.wide hp n u a h5,QRep.wide hp n z c h6⟩)))
    · exact Or.inr (Or.inr (Or.inr (Or.inr ⟨h1,a,c,u,z,h2,h3,h4,QRep.wide hp n u a h5,QRep.wide hp n z c h6⟩)))
theorem QRep.val {ns : List (List UInt8)} {H : Nat → Option Obj} {n : Nat} {v : Value} {x : Ty} {w : World} (h : QRep ns n H v x) (hz : Fz H w) : ∃ t b,IsQ t ∧ v = .iface t (.pointer (some ⟨b,0,none⟩)) ∧ b < w.heap.size := by
  cases n with
  | zero => exact absurd h id
  | succ n =>
    obtain ⟨b,h⟩ := h
    rcases h with ⟨h1,h2,h3,h4,h5⟩ | ⟨h1,h2,h3,h4⟩ | ⟨h1,a,u,h2,h3,h4,h5⟩ | ⟨h1,a,c,u,z,h2,h3,h4,h5,h6⟩ | ⟨h1,a,c,u,z,h2,h3,h4,h5,h6⟩
    · exact ⟨_,b,Or.inl rfl,h4,hz.lt h5⟩
    · exact ⟨_,b,Or.inr (Or.inl rfl),h3,hz.lt h4⟩
    · exact ⟨_,b,Or.inr (Or.inr (Or.inl rfl)),h3,hz.lt h4⟩
    · exact ⟨_,b,Or.inr (Or.inr (Or.inr (Or.inl rfl))),h3,hz.lt h4⟩
    · exact ⟨_,b,Or.inr (Or.inr (Or.inr (Or.inr rfl))),h3,hz.lt h4⟩
theorem q_new {w : World} {H : Nat → Option Obj} (hz : Fz H w) (C : Array Value) (t : TypeId) : ∃ H',Fz H' (w.alloc (.cells C t)) ∧ Ext w.heap.size H H' ∧ H' w.heap.size = some (.cells C t (0,0)) := by
  have n1 : H w.heap.size = none := hz.none (Nat.le_refl _)
  exact ⟨_,(hz.alloc _).add (heap_alloc_new _ _),(Ext.refl _ _).add (Nat.le_refl _) n1,Fz.more_same _ _ _⟩
theorem num_get (ns : List (List UInt8)) (n : List UInt8) : (numS ns n).1 < (numS ns n).2.length ∧ (numS ns n).2.getD (numS ns n).1 [] = n ∧ ns <+: (numS ns n).2 := by
  unfold numS
  split
  · rename_i h
    have hl := List.idxOf_lt_length_of_mem h
    refine ⟨hl,?_,List.prefix_refl _⟩
    simp [List.getD,List.getElem?_eq_getElem hl]
  · exact ⟨by simp,by simp [List.getD],List.prefix_append _ _⟩
theorem one_pre {T : List Tok} {A : List (List UInt8) → St → Option (Ty × List (List UInt8) × St)} (hA : ∀ ns s t ns' s',A ns s = some (t,ns',s') → ns <+: ns') (ns : List (List UInt8)) (s : St) (t : Ty) (ns' : List (List UInt8)) (s' : St)
    (h : oneS A T ns s = some (t,ns',s')) : ns <+: ns' := by
  unfold oneS at h
  split at h
  · cases h; exact List.prefix_refl _
  · split at h
    · cases h; exact List.prefix_refl _
    · split at h
      · cases e : A ns s.up with
        | none => rw [e] at h; cases h
        | some q =>
          obtain ⟨t1,n1,s1⟩ := q
          rw [e] at h
          cases h
          exact hA _ _ _ _ _ e
      · split at h
        · cases e : A ns s.up with
          | none => rw [e] at h; cases h
          | some q =>
            obtain ⟨t1,n1,s1⟩ := q
            rw [e] at h
            simp only at h
            split at h
            · cases e2 : A n1 s1.up with
              | none => rw [e2] at h; cases h
              | some q2 =>
                obtain ⟨t2,n2,s2⟩ := q2
                rw [e2] at h
                cases h
                exact (hA _ _ _ _ _ e).trans (hA _ _ _ _ _ e2)
            · cases h
              exact hA _ _ _ _ _ e
        · cases h
          exact (num_get _ _).2.2
theorem arr_pre {T : List Tok} : ∀ (n : Nat) (ns : List (List UInt8)) (s : St) (t : Ty) (ns' : List (List UInt8)) (s' : St),arrS T n ns s = some (t,ns',s') → ns <+: ns'
  | 0,_,_,_,_,_,h => by cases h
  | n + 1,ns,s,t,ns',s',h => by
    rw [arrS] at h
    cases e : oneS (arrS T n) T ns s with
    | none => rw [e] at h; cases h
    | some q =>
      obtain ⟨t1,n1,s1⟩ := q
      rw [e] at h
      simp only at h
      have p1 := one_pre (arr_pre n) ns s t1 n1 s1 e
      split at h
      · cases e2 : arrS T n n1 s1.up with
        | none => rw [e2] at h; cases h
        | some q2 =>
          obtain ⟨t2,n2,s2⟩ := q2
          rw [e2] at h
          cases h
          exact p1.trans (arr_pre n _ _ _ _ _ e2)
      · cases h
        exact p1
def TOut (w w' : World) (rb : Nat) (s : ByteArray) (T : List Tok) (H : Nat → Option Obj) (ns' : List (List UInt8)) (st' : St) (e : Ending) (t : Ty) : Prop :=
  Kept rb w w' ∧ ((∃ v H' m,e = .returned v ∧ PSt tyKw w' rb s T st' ∧ Fz H' w' ∧ Ext w.heap.size H H' ∧ QRep ns' m H' v t) ∨ (0 ≤ st'.bad ∧ Refused w' e st'.bad))
def WHQ (T : List Tok) (n : Nat) : Prop := ∀ (w : World) (rb : Nat) (s : ByteArray) (H : Nat → Option Obj) (ns : List (List UInt8)) (st : St) (t : Ty) (ns' : List (List UInt8)) (st' : St),arrS T n ns st = some (t,ns',st') → PSt tyKw w rb s T st → Fz H w → H rb = none →
  Calls Tryz.prog 52 #[rdV rb] w fun e w' => TOut w w' rb s T H ns' st' e t
def ONQ (T : List Tok) (n : Nat) : Prop := ∀ (w : World) (rb : Nat) (s : ByteArray) (H : Nat → Option Obj) (ns : List (List UInt8)) (st : St) (t : Ty) (ns' : List (List UInt8)) (st' : St),oneS (arrS T n) T ns st = some (t,ns',st') → PSt tyKw w rb s T st → Fz H w → H rb = none →
  Calls Tryz.prog 84 #[rdV rb] w fun e w' => TOut w w' rb s T H ns' st' e t
def letterS (n : Nat) : List UInt8 := [UInt8.ofNat (97 + n % 26)] ++ (if 25 < n then [UInt8.ofNat (48 + n / 26)] else [])
def mostS : List Nat → Nat
  | [] => 0
  | v :: l => max (v + 1) (mostS l)
def namesTo (l : List Nat) (j : Nat) : List (List UInt8) := (List.range (mostS l)).map fun v => if v ∈ l.take j then letterS (l.idxOf v) else []
def canNames (l : List Nat) : List (List UInt8) := namesTo l l.length
def tyCanon (n : Nat) (t : Ty) : List UInt8 := tyText n (canNames (tyVars n t [])) t
def errV (a : Addr) : Value := .iface 372 (.pointer (some a))
theorem grown_drew {w w' : World} {r : Option Nat} (h : w.grownBy w' r) : w.grownBy w'.drew r := ⟨h.os,h.tape,h.output,h.size,h.block⟩
structure Gb (R : Nat → Prop) (w w' : World) : Prop where
  os : w'.os = w.os
  tape : w'.tape = w.tape
  output : w'.output = w.output
  size : w.heap.size ≤ w'.heap.size
  block : ∀ k,k < w.heap.size → ¬ R k → w'.heap[k]? = w.heap[k]?
theorem Gb.refl (R : Nat → Prop) (w : World) : Gb R w w := ⟨rfl,rfl,rfl,Nat.le_refl _,fun _ _ _ => rfl⟩
theorem Gb.trans {R R' : Nat → Prop} {w w1 w2 : World} (h : Gb R w w1) (k : Gb R' w1 w2) (hR : ∀ i,R' i → R i ∨ w.heap.size ≤ i) : Gb R w w2 :=
  ⟨k.os.trans h.os,k.tape.trans h.tape,k.output.trans h.output,Nat.le_trans h.size k.size,fun i hi hn => by
    rw [k.block i (Nat.lt_of_lt_of_le hi h.size) (fun e => by rcases hR i e with e | e; exact hn e; omega),h.block i hi hn]⟩
theorem Gb.tr {R : Nat → Prop} {w w1 w2 : World} (h : Gb R w w1) (k : Gb R w1 w2) : Gb R w w2 := h.trans k fun _ e => Or.inl e
theorem Gb.mono {R R' : Nat → Prop} {w w' : World} (h : Gb R w w') (hR : ∀ i,R i → R' i) : Gb R' w w' := ⟨h.os,h.tape,h.output,h.size,fun k hk hn => h.block k hk fun e => hn (hR k e)⟩
theorem Gb.drew {R : Nat → Prop} {w w' : World} (h : Gb R w w') : Gb R w w'.drew := ⟨h.os,h.tape,h.output,h.size,h.block⟩
theorem Gb.of {R : Nat → Prop} {w w' : World} {r : Option Nat} (h : w.grownBy w' r) (hR : ∀ b,r = some b → R b ∨ w.heap.size ≤ b) : Gb R w w' :=
  ⟨h.os,h.tape,h.output,h.size,fun k hk hn => h.block k hk (fun e => by rcases hR k e.symm with e | e; exact hn e; omega)⟩
theorem Gb.new {R : Nat → Prop} {w w' : World} (h : w.grownBy w' none) : Gb R w w' := Gb.of h (fun b e => by cases e)
theorem Gb.alloc {R : Nat → Prop} {w w' : World} (h : Gb R w w') (o : Obj) : Gb R w (w'.alloc o) := h.tr (Gb.new (World.grownBy_alloc _ _ _))
theorem Gb.set {R : Nat → Prop} {w w' : World} (h : Gb R w w') {b : Nat} (hb : R b ∨ w.heap.size ≤ b) (i : Nat) (v : Value) : Gb R w (w'.setCell ⟨b,i,none⟩ v) := by
  refine h.trans (R' := fun k => k = b) ⟨rfl,rfl,rfl,by simp [World.setCell],fun k hk hn => Below.heap_setCell _ _ _ _ hn⟩ (fun k e => by rw [e]; exact hb)
theorem Gb.cell {R : Nat → Prop} {w w' : World} (h : Gb R w w') {b i : Nat} {v : Value} (hc : w.cell? ⟨b,i,none⟩ = some v) (hl : b < w.heap.size) (hn : ¬ R b) : w'.cell? ⟨b,i,none⟩ = some v := by
  rw [World.cell?_of_block (a := ⟨b,i,none⟩) (h.block b hl hn)]; exact hc
theorem Gb.at {R : Nat → Prop} {w w' : World} (h : Gb R w w') {b : Nat} {o : Obj} (hc : w.heap[b]? = some o) (hn : ¬ R b) : w'.heap[b]? = some o := by
  rw [h.block b (lt_of_block hc) hn]; exact hc
theorem Fz.gb {H : Nat → Option Obj} {R : Nat → Prop} {w w' : World} (h : Fz H w) (g : Gb R w w') (hn : ∀ k o,H k = some o → ¬ R k) : Fz H w' := fun k o e => g.at (h k o e) (hn k o e)
structure Et where
  kind : List UInt8
  name : List UInt8
  num : Nat
  kids : List Et
def oCell : List UInt8 := [99]
def cT (k : Nat) : Et := ⟨oCell,[],k,[]⟩
structure Sto where
  rep : List Nat
  con : List (Option Et)
def Sto.root (σ : Sto) (c : Nat) : Nat := σ.rep.getD c c
def Sto.is (σ : Sto) (c : Nat) : Option Et := σ.con.getD (σ.root c) none
def kidsS (σ : Sto) (t : Et) : List Et := if t.kind = oCell then (match σ.is t.num with | none => [] | some nd => nd.kids) else t.kids
def nowS (σ : Sto) (t : Et) : Et := if t.kind = oCell then (match σ.is t.num with | none => cT (σ.root t.num) | some nd => nd) else t
def ERep (lo : Nat) (H : Nat → Option Obj) (ca : List Nat) : Nat → Value → Et → Prop
  | 0,_,_ => False
  | n + 1,v,t => ∃ b,
    (t.kind = oCell ∧ t.kids = [] ∧ ca[t.num]? = some b ∧ v = .iface 173 (.pointer (some ⟨b,0,none⟩))) ∨
    (t.kind = [] ∧ t.kids = [] ∧ t.name.length ≤ 300 ∧ lo ≤ b ∧ v = .iface 242 (.pointer (some ⟨b,0,none⟩)) ∧ H b = some (.cells #[.string (B t.name)] 246 (0,0))) ∨
    ((t.kind = kInt ∨ t.kind = kBool) ∧ t.kids = [] ∧ v = .iface 275 (.pointer (some ⟨b,0,none⟩)) ∧ H b = some (.cells #[.string (B t.kind)] 277 (0,0))) ∨
    (t.kind = oList ∧ lo ≤ b ∧ ∃ a u,t.kids = [a] ∧ v = .iface 279 (.pointer (some ⟨b,0,none⟩)) ∧ H b = some (.cells #[u] 281 (0,0)) ∧ ERep lo H ca n u a) ∨
    (t.kind = oPair ∧ lo ≤ b ∧ ∃ a c u z,t.kids = [a,c] ∧ v = .iface 291 (.pointer (some ⟨b,0,none⟩)) ∧ H b = some (.cells #[u,z] 319 (0,0)) ∧ ERep lo H ca n u a ∧ ERep lo H ca n z c) ∨
    (t.kind = kFun ∧ lo ≤ b ∧ ∃ a c u z,t.kids = [a,c] ∧ v = .iface 209 (.pointer (some ⟨b,0,none⟩)) ∧ H b = some (.cells #[u,z] 211 (0,0)) ∧ ERep lo H ca n u a ∧ ERep lo H ca n z c)
theorem get_pre {ca ca' : List Nat} (h : ca <+: ca') {i b : Nat} (e : ca[i]? = some b) : ca'[i]? = some b := by
  obtain ⟨r,rfl⟩ := h
  rw [List.getElem?_append_left (List.getElem?_eq_some_iff.1 e).1]; exact e
theorem ERep.ext {lo lo' : Nat} {H H' : Nat → Option Obj} {ca ca' : List Nat} (hl : lo' ≤ lo) (e : ∀ k o,H k = some o → H' k = some o) (ha : ca <+: ca') : ∀ (n : Nat) (v : Value) (t : Et),ERep lo H ca n v t → ERep lo' H' ca' n v t
  | 0,_,_,h => h
  | n + 1,v,x,h => by
    obtain ⟨b,h⟩ := h
    refine ⟨b,?_⟩
    rcases h with ⟨h1,h2,h3,h4⟩ | ⟨h1,h2,h3,h0,h4,h5⟩ | ⟨h1,h2,h3,h4⟩ | ⟨h1,h0,a,u,h2,h3,h4,h5⟩ | ⟨h1,h0,a,c,u,z,h2,h3,h4,h5,h6⟩ | ⟨h1,h0,a,c,u,z,h2,h3,h4,h5,h6⟩
    · exact Or.inl ⟨h1,h2,get_pre ha h3,h4⟩
    · exact Or.inr (Or.inl ⟨h1,h2,h3,by omega,h4,e _ _ h5⟩)
    · exact Or.inr (Or.inr (Or.inl ⟨h1,h2,h3,e _ _ h4⟩))
    · exact Or.inr (Or.inr (Or.inr (Or.inl ⟨h1,by omega,a,u,h2,h3,e _ _ h4,ERep.ext hl e ha n u a h5⟩)))
    · exact Or.inr (Or.inr (Or.inr (Or.inr (Or.inl ⟨h1,by omega,a,c,u,z,h2,h3,e _ _ h4,ERep.ext hl e ha n u a h5,ERep.ext hl e ha n z c h6⟩))))
    · exact Or.inr (Or.inr (Or.inr (Or.inr (Or.inr ⟨h1,by omega,a,c,u,z,h2,h3,e _ _ h4,ERep.ext hl e ha n u a h5,ERep.ext hl e ha n z c h6⟩))))
theorem ERep.up {lo : Nat} {H : Nat → Option Obj} {ca : List Nat} : ∀ (n : Nat) (v : Value) (x : Et),ERep lo H ca n v x → ERep lo H ca (n + 1) v x
  | 0,_,_,h => absurd h id
  | n + 1,v,x,h => by
    obtain ⟨b,h⟩ := h
    refine ⟨b,?_⟩
    rcases h with h | h | h | ⟨h1,h0,a,u,h2,h3,h4,h5⟩ | ⟨h1,h0,a,c,u,z,h2,h3,h4,h5,h6⟩ | ⟨h1,h0,a,c,u,z,h2,h3,h4,h5,h6⟩
    · exact Or.inl h
    · exact Or.inr (Or.inl h)
    · exact Or.inr (Or.inr (Or.inl h))
    · exact Or.inr (Or.inr (Or.inr (Or.inl ⟨h1,h0,a,u,h2,h3,h4,ERep.up n u a h5⟩)))
    · exact Or.inr (Or.inr (Or.inr (Or.inr (Or.inl ⟨h1,h0,a,c,u,z,h2,h3,h4,ERep.up n u a h5,ERep.up n z c h6⟩))))
    · exact Or.inr (Or.inr (Or.inr (Or.inr (Or.inr ⟨h1,h0,a,c,u,z,h2,h3,h4,ERep.up n u a h5,ERep.up n z c h6⟩))))
theorem ERep.le {lo : Nat} {H : Nat → Option Obj} {ca : List Nat} {n m : Nat} {v : Value} {x : Et} (h : ERep lo H ca n v x) (hm : n ≤ m) : ERep lo H ca m v x := by
  induction m with
  | zero => rw [Nat.le_zero.1 hm] at h; exact h
  | succ m ih =>
    rcases Nat.lt_or_ge n (m + 1) with hlt | hge
    · exact ERep.up m v x (ih (by omega))
    · rw [show m + 1 = n from by omega]; exact h
def IsE (t : TypeId) : Prop := t = 173 ∨ t = 242 ∨ t = 275 ∨ t = 279 ∨ t = 291 ∨ t = 209
theorem ERep.val {lo : Nat} {H : Nat → Option Obj} {ca : List Nat} {n : Nat} {v : Value} {x : Et} (h : ERep lo H ca n v x) : ∃ t b,IsE t ∧ v = .iface t (.pointer (some ⟨b,0,none⟩)) := by
  cases n with
  | zero => exact absurd h id
  | succ n =>
    obtain ⟨b,h⟩ := h
    rcases h with ⟨h1,h2,h3,h4⟩ | ⟨h1,h2,h3,h0,h4,h5⟩ | ⟨h1,h2,h3,h4⟩ | ⟨h1,h0,a,u,h2,h3,h4,h5⟩ | ⟨h1,h0,a,c,u,z,h2,h3,h4,h5,h6⟩ | ⟨h1,h0,a,c,u,z,h2,h3,h4,h5,h6⟩
    · exact ⟨_,b,Or.inl rfl,h4⟩
    · exact ⟨_,b,Or.inr (Or.inl rfl),h4⟩
    · exact ⟨_,b,Or.inr (Or.inr (Or.inl rfl)),h3⟩
    · exact ⟨_,b,Or.inr (Or.inr (Or.inr (Or.inl rfl))),h3⟩
    · exact ⟨_,b,Or.inr (Or.inr (Or.inr (Or.inr (Or.inl rfl)))),h3⟩
    · exact ⟨_,b,Or.inr (Or.inr (Or.inr (Or.inr (Or.inr rfl)))),h3⟩
def ORep (H : Nat → Option Obj) (ca : List Nat) (o : Option Et) (v : Value) : Prop :=
  (o = none ∧ v = .nilIface) ∨ ∃ nd,o = some nd ∧ nd.kind ≠ [] ∧ nd.kind ≠ oCell ∧ (∀ k,k ∈ nd.kids → k.kind = oCell) ∧ ERep 0 H ca 2 v nd
def CV (H : Nat → Option Obj) (ca : List Nat) (σ : Sto) (d : Nat → Nat) (i : Nat) (v : Value) : Prop :=
  (σ.rep[i]? = some i ∧ ORep H ca (σ.con.getD i none) v) ∨
  ∃ j c b,σ.rep[i]? = some c ∧ c ≠ i ∧ σ.rep[j]? = some c ∧ ca[j]? = some b ∧ v = .iface 173 (.pointer (some ⟨b,0,none⟩)) ∧ (j = c ∨ d j < d i)
def cellB (i : Nat) (v : Value) : Obj := .cells #[.int .i64 ((i : Int) + 1),v] 284 (0,0)
structure CSd (H : Nat → Option Obj) (ca : List Nat) (σ : Sto) (d : Nat → Nat) (w : World) : Prop where
  fz : Fz H w
  len : ca.length = σ.rep.length
  lenc : σ.con.length = σ.rep.length
  nd : ca.Nodup
  off : ∀ a,a ∈ ca → H a = none
  few : σ.rep.length ≤ 1099511627776
  rr : ∀ (i c : Nat),σ.rep[i]? = some c → σ.rep[c]? = some c
  blk : ∀ (i a : Nat),ca[i]? = some a → ∃ v,w.heap[a]? = some (cellB i v) ∧ CV H ca σ d i v
theorem CSd.root_get {H : Nat → Option Obj} {ca : List Nat} {σ : Sto} {d : Nat → Nat} {w : World} (h : CSd H ca σ d w) {i a : Nat} (e : ca[i]? = some a) : ∃ b,σ.rep[i]? = some (σ.root i) ∧ ca[σ.root i]? = some b := by
  have hi : i < σ.rep.length := by rw [← h.len]; exact (List.getElem?_eq_some_iff.1 e).1
  have e1 : σ.rep[i]? = some (σ.root i) := by unfold Sto.root; rw [List.getElem?_eq_getElem hi]; simp [List.getD,List.getElem?_eq_getElem hi]
  have e2 := h.rr i _ e1
  have h2 : σ.root i < ca.length := by rw [h.len]; exact (List.getElem?_eq_some_iff.1 e2).1
  exact ⟨ca[σ.root i],e1,List.getElem?_eq_getElem h2⟩
theorem CSd.gb {H : Nat → Option Obj} {ca : List Nat} {σ : Sto} {d : Nat → Nat} {R : Nat → Prop} {w w' : World} (h : CSd H ca σ d w) (g : Gb R w w') (ha : ∀ a,a ∈ ca → ¬ R a) (hn : ∀ k o,H k = some o → ¬ R k) : CSd H ca σ d w' :=
  ⟨h.fz.gb g hn,h.len,h.lenc,h.nd,h.off,h.few,h.rr,fun i a e => by
    obtain ⟨v,h1,h2⟩ := h.blk i a e
    exact ⟨v,g.at h1 (ha a (List.mem_of_getElem? e)),h2⟩⟩
theorem CSd.short {H : Nat → Option Obj} {ca : List Nat} {σ : Sto} {d : Nat → Nat} {w : World} (h : CSd H ca σ d w) {i c a b : Nat} (ei : ca[i]? = some a) (er : σ.rep[i]? = some c) (hc : c ≠ i) (eb : ca[c]? = some b) :
    CSd H ca σ d (w.setCell ⟨a,1,none⟩ (.iface 173 (.pointer (some ⟨b,0,none⟩)))) := by
  refine ⟨h.fz.set (h.off a (List.mem_of_getElem? ei)) 1 _,h.len,h.lenc,h.nd,h.off,h.few,h.rr,fun j x e => ?_⟩
  obtain ⟨v,h1,h2⟩ := h.blk j x e
  by_cases hj : j = i
  · subst hj
    rw [e] at ei
    cases ei
    refine ⟨_,?_,Or.inr ⟨c,c,b,er,hc,h.rr _ _ er,eb,rfl,Or.inl rfl⟩⟩
    simp [World.setCell,Array.getElem?_modify,h1,cellB]
  · refine ⟨v,?_,h2⟩
    rw [Below.heap_setCell _ _ _ _ (fun e' => hj ?_)]
    · exact h1
    · have e2 : x = a := e'
      subst e2
      exact (List.getElem?_inj (List.getElem?_eq_some_iff.1 e).1 h.nd).1 (e.trans ei.symm)
end Go.Proofs.YtcdijppegfcoaabGreatDoor
namespace Go.Proofs.YtcdijppegfcoaabGreatDoor
open Go.RowKit Go.Maps Go.WideMaps
def getL {α β : Type} [DecidableEq α] : List (α × β) → α → Option β
  | [],_ => none
  | p :: l,a => if p.1 = a then some p.2 else getL l a
def putL {α β : Type} [DecidableEq α] : List (α × β) → α → β → List (α × β)
  | [],a,b => [(a,b)]
  | p :: l,a,b => if p.1 = a then (a,b) :: l else p :: putL l a b
theorem getL_put {α β : Type} [DecidableEq α] (a : α) (b : β) (c : α) : ∀ (l : List (α × β)),getL (putL l a b) c = if a = c then some b else getL l c
  | [] => rfl
  | p :: l => by
    rw [putL]
    split
    · rename_i h
      rw [getL]
      simp only
      split
      · rfl
      · rename_i h2
        rw [getL,if_neg (by rw [h]; exact h2)]
    · rename_i h
      rw [getL,getL_put a b c l,getL]
      by_cases h1 : p.1 = c
      · rw [if_pos h1,if_neg (fun e => h (h1.trans e.symm)),if_pos h1]
      · rw [if_neg h1,if_neg h1]
theorem getL_none {α β : Type} [DecidableEq α] {a : α} : ∀ {l : List (α × β)},getL l a = none ↔ a ∉ l.map (·.1)
  | [] => by simp [getL]
  | p :: l => by
    rw [getL]
    split
    · rename_i h; simp [h]
    · rename_i h; rw [getL_none]; simp [Ne.symm h]
theorem putL_new {α β : Type} [DecidableEq α] {a : α} (b : β) : ∀ {l : List (α × β)},getL l a = none → putL l a b = l ++ [(a,b)]
  | [],_ => rfl
  | p :: l,h => by
    rw [getL] at h
    split at h
    · cases h
    · rename_i h1
      rw [putL,if_neg h1,putL_new b h]
      rfl
theorem putL_keys {α β : Type} [DecidableEq α] {a : α} (b : β) : ∀ {l : List (α × β)},(getL l a).isSome = true → (putL l a b).map (·.1) = l.map (·.1)
  | [],h => by simp [getL] at h
  | p :: l,h => by
    rw [putL]
    split
    · rename_i h1; simp [h1]
    · rename_i h1
      rw [getL,if_neg h1] at h
      simp [putL_keys b h]
theorem putL_len {α β : Type} [DecidableEq α] (l : List (α × β)) (a : α) (b : β) : (putL l a b).length = l.length + if (getL l a).isSome = true then 0 else 1 := by
  cases e : getL l a with
  | none => rw [putL_new b e]; simp
  | some c =>
    have := congrArg List.length (putL_keys b (l := l) (a := a) (by rw [e]; rfl))
    simpa using this
theorem putL_nodup {α β : Type} [DecidableEq α] {l : List (α × β)} (h : (l.map (·.1)).Nodup) (a : α) (b : β) : ((putL l a b).map (·.1)).Nodup := by
  cases e : getL l a with
  | none =>
    rw [putL_new b e,List.map_append,List.nodup_append]
    refine ⟨h,by simp,fun x hx y hy => ?_⟩
    simp at hy
    rw [hy]
    intro e2
    rw [e2] at hx
    exact (getL_none.1 e) hx
  | some c => rw [putL_keys b (by rw [e]; rfl)]; exact h
def hR (v : Value) : Option (DataW Value × List MemPlace) := some (.held v,[])
def GM {α β : Type} [DecidableEq α] (kl : α → Lit) (ev : β → Value) (k : TypeId) (w : World) (mb : Nat) (l : List (α × β)) : Prop :=
  ∃ D : DataW Value,w.ownsMap Tryz.prog k hR mb l.length D ∧ Maps.size D = l.length ∧ (l.map (·.1)).Nodup ∧ (∀ a,Maps.has D (kl a) = (getL l a).isSome) ∧ ∀ a b z,getL l a = some b → D.atKey (kl a) z = .held (ev b)
section
variable {α β : Type} [DecidableEq α] {kl : α → Lit} {ev : β → Value} {k : TypeId} {w : World} {mb : Nat} {l : List (α × β)}
theorem GM.new : GM kl ev k (w.alloc (.map #[] 0)) w.heap.size ([] : List (α × β)) :=
  ⟨.map [],World.ownsMap_made _ _ _ _,rfl,by simp,fun a => rfl,fun a b z h => by cases h⟩
theorem GM.isMap (h : GM kl ev k w mb l) : ∃ es clock,w.heap[mb]? = some (.map es clock) := by
  obtain ⟨D,⟨es,clock,hb,_⟩,_⟩ := h
  exact ⟨es,clock,hb⟩
theorem GM.lt (h : GM kl ev k w mb l) : mb < w.heap.size := by
  obtain ⟨D,h1,_⟩ := h
  exact h1.lt
theorem GM.same {w' : World} (h : GM kl ev k w mb l) (hb : w'.heap[mb]? = w.heap[mb]?) : GM kl ev k w' mb l := by
  obtain ⟨D,⟨es,clock,h1,h2⟩,h3⟩ := h
  exact ⟨D,⟨es,clock,hb.trans h1,h2⟩,h3⟩
theorem GM.gb {R : Nat → Prop} {w' : World} (h : GM kl ev k w mb l) (g : Gb R w w') (hn : ¬ R mb) : GM kl ev k w' mb l := h.same (g.block mb h.lt hn)
theorem GM.apart {b : Nat} {cs : Array Value} {t : TypeId} {f : Nat × Nat} (h : GM kl ev k w mb l) (hb : w.heap[b]? = some (.cells cs t f)) : b ≠ mb := fun e => by
  obtain ⟨es,cl,h1⟩ := h.isMap
  rw [e,h1] at hb
  cases hb
theorem GM.len {t e : TypeId} (h : GM kl ev k w mb l) (ht : Tryz.prog.underlying t = some (.map k e)) (ty : TypeId) : (Builtin.len_ #[t] ty #[.map (some mb)]).run Tryz.prog w = .ok (.int .i64 (l.length : Int)) w := by
  obtain ⟨D,h1,h2,_⟩ := h
  rw [h1.len ht ty,h2]
theorem GM.look {t e : TypeId} (h : GM kl ev k w mb l) (K : Keyed Tryz.prog k) (ht : Tryz.prog.underlying t = some (.map k e)) {z : Value} (hz : (zeroValue e).run Tryz.prog w = .ok z w) {key : Value} {a : α} (hkey : keyOf Tryz.prog k key = some (kl a)) :
    (Instr.lookup t (.map (some mb)) key true).run Tryz.prog w = .ok (.tuple #[((getL l a).map ev).getD z,.bool (getL l a).isSome]) w := by
  obtain ⟨D,h1,h2,h3,h4,h5⟩ := h
  obtain ⟨u,ps,hr,hu⟩ := h1.look_ok K ht hz (show hR z = some (.held z,[]) from rfl) hkey
  rw [hr,h4 a]
  cases e1 : getL l a with
  | none =>
    have hf : Maps.has D (kl a) = false := by rw [h4 a,e1]; rfl
    rw [atKey_of_not_has hf] at hu
    simp [hR] at hu
    rw [hu.1]
    rfl
  | some b =>
    rw [h5 a b _ e1] at hu
    simp [hR] at hu
    rw [hu.1]
    rfl
theorem GM.look1 {t e : TypeId} (h : GM kl ev k w mb l) (K : Keyed Tryz.prog k) (ht : Tryz.prog.underlying t = some (.map k e)) {z : Value} (hz : (zeroValue e).run Tryz.prog w = .ok z w) {key : Value} {a : α} (hkey : keyOf Tryz.prog k key = some (kl a)) :
    (Instr.lookup t (.map (some mb)) key false).run Tryz.prog w = .ok (((getL l a).map ev).getD z) w := by
  obtain ⟨D,h1,h2,h3,h4,h5⟩ := h
  obtain ⟨u,ps,hr,hu⟩ := h1.lookup K ht hz (show hR z = some (.held z,[]) from rfl) hkey
  rw [hr]
  cases e1 : getL l a with
  | none =>
    have hf : Maps.has D (kl a) = false := by rw [h4 a,e1]; rfl
    rw [atKey_of_not_has hf] at hu
    simp [hR] at hu
    rw [hu.1]
    rfl
  | some b =>
    rw [h5 a b _ e1] at hu
    simp [hR] at hu
    rw [hu.1]
    rfl
theorem GM.store {t e : TypeId} (h : GM kl ev k w mb l) (K : Keyed Tryz.prog k) (ht : Tryz.prog.underlying t = some (.map k e)) (hinj : ∀ x y,kl x = kl y → x = y) (hlit : ∀ x,WideAt.IsKeyLit (kl x)) (hl : l.length ≤ 1099511627776) {key : Value} {a : α} (b : β) (hkey : keyOf Tryz.prog k key = some (kl a)) :
    ∃ w',(Instr.mapUpdate t (.map (some mb)) key (ev b)).run Tryz.prog w = .ok () w' ∧ GM kl ev k w' mb (putL l a b) ∧ w.grownBy w' (some mb) := by
  obtain ⟨D,h1,h2,h3,h4,h5⟩ := h
  have td := h1.tidy K
  obtain ⟨w',r1,r2,r3⟩ := h1.update K ht (by unfold maxLen; omega) hkey (show hR (ev b) = some (.held (ev b),[]) from rfl)
  have hsz : Maps.size (D.put (kl a) (.held (ev b))) = (putL l a b).length := by
    rw [size_put td,h4 a,h2,putL_len]
    cases (getL l a).isSome <;> simp
  refine ⟨w',r1,⟨_,?_,hsz,putL_nodup h3 a b,fun c => ?_,fun c x z hc => ?_⟩,r3⟩
  · obtain ⟨es,clock,q1,q2,q3,q4⟩ := r2
    refine ⟨es,clock,q1,q2,?_,q4⟩
    rw [← hsz,q4]
    simp [Maps.size,length_sorted]
  · rw [getL_put]
    by_cases e : a = c
    · rw [if_pos e,← e,has_put_same td.isMap (hlit a)]
      rfl
    · rw [if_neg e,has_put_other (fun e2 => e (hinj _ _ e2.symm)),h4 c]
  · rw [getL_put] at hc
    by_cases e : a = c
    · rw [if_pos e] at hc
      cases hc
      rw [← e]
      exact atKey_put_same td.isMap (hlit a) _ _
    · rw [if_neg e] at hc
      rw [atKey_put_other (fun e2 => e (hinj _ _ e2.symm))]
      exact h5 c x z hc
end
def kI (n : Nat) : Lit := .int .i64 ((n : Int) + 1)
theorem kI_inj (x y : Nat) (h : kI x = kI y) : x = y := by
  unfold kI at h
  injection h with _ h2
  omega
theorem kI_lit (x : Nat) : WideAt.IsKeyLit (kI x) := trivial
theorem intLaw : Keyed Tryz.prog 3 := int_keyed Tryz.underlying3
theorem kI_key {n : Nat} (hn : n ≤ 1099511627776) : keyOf Tryz.prog 3 (.int .i64 ((n : Int) + 1)) = some (kI n) :=
  keyOf_int_mk Tryz.underlying3 (WalkArith.wf_i64 (n := (n : Int) + 1) (by omega))
def kS (s : List UInt8) : Lit := .string s
theorem kS_inj (x y : List UInt8) (h : kS x = kS y) : x = y := by
  unfold kS at h
  injection h
theorem kS_lit (x : List UInt8) : WideAt.IsKeyLit (kS x) := trivial
theorem strLaw : Keyed Tryz.prog 9 := string_keyed Tryz.underlying9
theorem kS_key {k : List UInt8} (hk : k.length ≤ 300) : keyOf Tryz.prog 9 (.string (B k)) = some (kS k) := by
  have := keyOf_string_mk (P := Tryz.prog) (k := 9) Tryz.underlying9 (s := B k) (by rw [size_B]; unfold maxLen; omega)
  rw [this]
  rfl
def Sto.new (σ : Sto) (o : Option Et) : Sto := ⟨σ.rep ++ [σ.rep.length],σ.con ++ [o]⟩
def Sto.link (σ : Sto) (one other : Nat) : Sto := ⟨σ.rep.map fun r => if r = one then other else r,σ.con⟩
def Sto.put (σ : Sto) (c : Nat) (o : Option Et) : Sto := ⟨σ.rep,σ.con.set c o⟩
def joinAllS (J : Nat → Nat → Sto → Option (Option Sto)) : List Et → List Et → Sto → Option (Option Sto)
  | a :: ca,b :: bs,σ => match J a.num b.num σ with
    | some (some σ') => joinAllS J ca bs σ'
    | r => r
  | [],[],σ => some (some σ)
  | _,_,_ => none
def joinS : Nat → Nat → Nat → Sto → Option (Option Sto)
  | 0,_,_,_ => none
  | f + 1,a,b,σ =>
    if σ.root a = σ.root b then some (some σ)
    else match σ.is a with
      | none => some (some (σ.link (σ.root a) (σ.root b)))
      | some was => match σ.is b with
        | none => some (some ((σ.link (σ.root a) (σ.root b)).put (σ.root b) (some was)))
        | some nd => if was.kind = nd.kind then joinAllS (joinS f) was.kids nd.kids (σ.link (σ.root a) (σ.root b)) else some none
def loopsAllS (L : Nat → List (Nat × Nat) → Option (Option (List (Nat × Nat)))) : List Et → List (Nat × Nat) → Option (Option (List (Nat × Nat)))
  | [],far => some (some far)
  | c :: cs,far => match L c.num far with
    | some (some far) => loopsAllS L cs far
    | r => r
def loopsS (σ : Sto) : Nat → Nat → List (Nat × Nat) → Option (Option (List (Nat × Nat)))
  | 0,_,_ => none
  | f + 1,c,far => match getL far (σ.root c) with
    | some 1 => some none
    | some 2 => some (some far)
    | some _ => none
    | none => match loopsAllS (loopsS σ f) (kidsS σ (cT c)) (far ++ [(σ.root c,1)]) with
      | some (some far) => some (some (putL far (σ.root c) 2))
      | r => r
def equalS (a b : Nat) (σ : Sto) : Option (Option Sto) := match joinS (σ.rep.length + 1) a b σ with
  | some (some σ') => match loopsS σ' (σ.rep.length + 1) a [] with
    | some (some _) => some (some σ')
    | some none => some none
    | none => none
  | r => r
def addAllS (A : Et → List Nat → Option (List Nat)) : List Et → List Nat → Option (List Nat)
  | [],L => some L
  | t :: ts,L => match A t L with
    | none => none
    | some L => addAllS A ts L
def addS (σ : Sto) : Nat → Et → List Nat → Option (List Nat)
  | 0,_,_ => none
  | f + 1,t,L => if t.kind = oCell then (if σ.root t.num ∈ L then some L else addAllS (addS σ f) (kidsS σ t) (L ++ [σ.root t.num])) else addAllS (addS σ f) t.kids L
def mapS {α β : Type} (F : α → Option β) : List α → Option (List β)
  | [] => some []
  | a :: ca => match F a with
    | none => none
    | some b => match mapS F ca with
      | none => none
      | some bs => some (b :: bs)
def vT (n : List UInt8) : Et := ⟨[],n,0,[]⟩
def instAllS (I : Et → Sto → List (List UInt8 × Nat) → Option (Sto × List (List UInt8 × Nat) × Nat)) : List Et → Sto → List (List UInt8 × Nat) → Option (Sto × List (List UInt8 × Nat) × List Et)
  | [],σ,g => some (σ,g,[])
  | t :: ts,σ,g => match I t σ g with
    | none => none
    | some (σ1,g1,c) => match instAllS I ts σ1 g1 with
      | none => none
      | some (σ2,g2,cs) => some (σ2,g2,cT c :: cs)
def roomy (σ : Sto) : Bool := decide (σ.rep.length < 1099511627776)
def instS : Nat → Et → Sto → List (List UInt8 × Nat) → Option (Sto × List (List UInt8 × Nat) × Nat)
  | 0,_,_,_ => none
  | f + 1,t,σ,g =>
    if t.kind = oCell then some (σ,g,t.num)
    else if t.kind = [] then match getL g t.name with
      | some c => some (σ,g,c)
      | none => if roomy σ = true ∧ g.length < 1000 then some (σ.new none,g ++ [(t.name,σ.rep.length)],σ.rep.length) else none
    else match instAllS (instS f) t.kids σ g with
      | none => none
      | some (σ1,g1,cs) => if roomy σ1 = true then some (σ1.new (some ⟨t.kind,[],0,cs⟩),g1,σ1.rep.length) else none
def roomAllS (R : Et → Int → Option Int) : List Et → Int → Option Int
  | [],l => some l
  | t :: ts,l => if l < 0 then some l else match R t l with
    | none => none
    | some l => roomAllS R ts l
def roomS (σ : Sto) : Nat → Et → Int → Option Int
  | 0,_,_ => none
  | f + 1,t,left => roomAllS (roomS σ f) (kidsS σ t) (left - 1)
def ordS {α : Type} [DecidableEq α] (L : List α) (v : α) : List α := if v ∈ L then L else L ++ [v]
def sameAllS (S : Et → Et → List (List UInt8) → List (List UInt8) → Option (Option (List (List UInt8) × List (List UInt8)))) : List Et → List Et → List (List UInt8) → List (List UInt8) → Option (Option (List (List UInt8) × List (List UInt8)))
  | a :: ca,b :: bs,p,q => match S a b p q with
    | some (some (p,q)) => sameAllS S ca bs p q
    | r => r
  | [],[],p,q => some (some (p,q))
  | _,_,_,_ => none
def sameS (σ : Sto) : Nat → Et → Et → List (List UInt8) → List (List UInt8) → Option (Option (List (List UInt8) × List (List UInt8)))
  | 0,_,_,_,_ => none
  | f + 1,a,b,p,q =>
    if (nowS σ a).kind = [] then
      if (nowS σ b).kind = [] then
        if p.length ≤ 200 ∧ q.length ≤ 200 then
          if (ordS p (nowS σ a).name).idxOf (nowS σ a).name = (ordS q (nowS σ b).name).idxOf (nowS σ b).name then some (some (ordS p (nowS σ a).name,ordS q (nowS σ b).name)) else some none
        else none
      else some none
    else if a.kind = oCell ∧ b.kind = oCell ∧ σ.root a.num = σ.root b.num then some (some (p,q))
    else if (nowS σ a).kind = (nowS σ b).kind ∧ (nowS σ a).kind ≠ oCell then sameAllS (sameS σ f) (nowS σ a).kids (nowS σ b).kids p q
    else some none
structure Ds where
  steps : List (List UInt8 × Nat × Nat)
  out : List UInt8
  stands : List (Nat × Nat × Nat)
  L : List (List UInt8)
  O : List Nat
def putS (x : List UInt8) (f t : Nat) (s : Ds) : Option Ds :=
  if f ≤ t ∧ t ≤ s.out.length + x.length ∧ s.out.length + x.length + (t - f) ≤ 100000 ∧ s.steps.length < 100000 then
    some ⟨s.steps ++ [(x,f,t)],s.out ++ x ++ ((s.out ++ x).drop f).take (t - f),s.stands,s.L,s.O⟩
  else none
def anyS (md : Nat) (n : List UInt8) (s : Ds) : Option Ds :=
  if md = 0 then putS n 0 0 s
  else if s.L.length ≤ 200 then putS (letterS ((ordS s.L n).idxOf n)) 0 0 ⟨s.steps,s.out,s.stands,ordS s.L n,s.O⟩
  else none
def ownS (md : Nat) (c : Nat) (s : Ds) : Option Ds :=
  if md = 2 ∧ s.O.length ≤ 200 then putS ([95] ++ letterS ((ordS s.O c).idxOf c)) 0 0 ⟨s.steps,s.out,s.stands,s.L,ordS s.O c⟩ else none
def wordS (x : List UInt8) (s : Option Ds) : Option Ds := match s with
  | none => none
  | some s => putS x 0 0 s
def goOn (A : Et → Ds → Option Ds) (t : Et) (s : Option Ds) : Option Ds := match s with
  | none => none
  | some s => A t s
def fromS (A : Et → Ds → Option Ds) (σ : Sto) (t : Et) (s : Option Ds) : Option Ds :=
  if (nowS σ t).kind = kFun then wordS [41] (goOn A t (wordS [40] s)) else goOn A t s
def firstS (A : Et → Ds → Option Ds) (σ : Sto) (md : Nat) (t : Et) (s : Ds) : Option Ds :=
  if (nowS σ t).kind = [] then anyS md (nowS σ t).name s
  else if (nowS σ t).kind = oCell then ownS md (nowS σ t).num s
  else match (nowS σ t).kids with
    | [] => putS (nowS σ t).kind 0 0 s
    | [a] => wordS [93] (goOn A a (wordS [91] (some s)))
    | [a,b] => if (nowS σ t).kind = kFun then goOn A b (wordS [32,45,62,32] (fromS A σ a (some s))) else wordS [41] (goOn A b (wordS [44,32] (goOn A a (wordS [40] (some s)))))
    | _ => none
def standS (r n : Nat) (s : Option Ds) : Option Ds := match s with
  | none => none
  | some s => match getL s.stands r with
    | some _ => none
    | none => if s.stands.length < 100000 then some ⟨s.steps,s.out,s.stands ++ [(r,n,s.out.length)],s.L,s.O⟩ else none
def draftS (σ : Sto) (md : Nat) : Nat → Et → Ds → Option Ds
  | 0,_,_ => none
  | f + 1,t,s =>
    if t.kind = oCell then match getL s.stands (σ.root t.num) with
      | some (a,b) => putS [] a b s
      | none => standS (σ.root t.num) s.out.length (firstS (draftS σ md f) σ md t s)
    else firstS (draftS σ md f) σ md t s
def ds0 (O : List Nat) : Ds := ⟨[],[],[],[],O⟩
theorem e_Cell_Cell (b : Nat) (w : World) : (Instr.typeAssert (.iface 173 (.pointer (some ⟨b,0,none⟩))) 77 173 true).run Tryz.prog w = .ok (.tuple #[.pointer (some ⟨b,0,none⟩),.bool true]) w := by kernel_rfl
theorem e_Cell_Var (b : Nat) (w : World) : (Instr.typeAssert (.iface 173 (.pointer (some ⟨b,0,none⟩))) 77 242 true).run Tryz.prog w = .ok (.tuple #[.pointer none,.bool false]) w := by kernel_rfl
theorem e_Cell_Basic (b : Nat) (w : World) : (Instr.typeAssert (.iface 173 (.pointer (some ⟨b,0,none⟩))) 77 275 true).run Tryz.prog w = .ok (.tuple #[.pointer none,.bool false]) w := by kernel_rfl
theorem e_Cell_List (b : Nat) (w : World) : (Instr.typeAssert (.iface 173 (.pointer (some ⟨b,0,none⟩))) 77 279 true).run Tryz.prog w = .ok (.tuple #[.pointer none,.bool false]) w := by kernel_rfl
theorem e_Cell_Pair (b : Nat) (w : World) : (Instr.typeAssert (.iface 173 (.pointer (some ⟨b,0,none⟩))) 77 291 true).run Tryz.prog w = .ok (.tuple #[.pointer none,.bool false]) w := by kernel_rfl
theorem e_Cell_Arrow (b : Nat) (w : World) : (Instr.typeAssert (.iface 173 (.pointer (some ⟨b,0,none⟩))) 77 209 true).run Tryz.prog w = .ok (.tuple #[.pointer none,.bool false]) w := by kernel_rfl
theorem e_Var_Cell (b : Nat) (w : World) : (Instr.typeAssert (.iface 242 (.pointer (some ⟨b,0,none⟩))) 77 173 true).run Tryz.prog w = .ok (.tuple #[.pointer none,.bool false]) w := by kernel_rfl
theorem e_Var_Var (b : Nat) (w : World) : (Instr.typeAssert (.iface 242 (.pointer (some ⟨b,0,none⟩))) 77 242 true).run Tryz.prog w = .ok (.tuple #[.pointer (some ⟨b,0,none⟩),.bool true]) w := by kernel_rfl
theorem e_Var_Basic (b : Nat) (w : World) : (Instr.typeAssert (.iface 242 (.pointer (some ⟨b,0,none⟩))) 77 275 true).run Tryz.prog w = .ok (.tuple #[.pointer none,.bool false]) w := by kernel_rfl
theorem e_Var_List (b : Nat) (w : World) : (Instr.typeAssert (.iface 242 (.pointer (some ⟨b,0,none⟩))) 77 279 true).run Tryz.prog w = .ok (.tuple #[.pointer none,.bool false]) w := by kernel_rfl
theorem e_Var_Pair (b : Nat) (w : World) : (Instr.typeAssert (.iface 242 (.pointer (some ⟨b,0,none⟩))) 77 291 true).run Tryz.prog w = .ok (.tuple #[.pointer none,.bool false]) w := by kernel_rfl
theorem e_Var_Arrow (b : Nat) (w : World) : (Instr.typeAssert (.iface 242 (.pointer (some ⟨b,0,none⟩))) 77 209 true).run Tryz.prog w = .ok (.tuple #[.pointer none,.bool false]) w := by kernel_rfl
theorem e_Basic_Cell (b : Nat) (w : World) : (Instr.typeAssert (.iface 275 (.pointer (some ⟨b,0,none⟩))) 77 173 true).run Tryz.prog w = .ok (.tuple #[.pointer none,.bool false]) w := by kernel_rfl
theorem e_Basic_Var (b : Nat) (w : World) : (Instr.typeAssert (.iface 275 (.pointer (some ⟨b,0,none⟩))) 77 242 true).run Tryz.prog w = .ok (.tuple #[.pointer none,.bool false]) w := by kernel_rfl
theorem e_Basic_Basic (b : Nat) (w : World) : (Instr.typeAssert (.iface 275 (.pointer (some ⟨b,0,none⟩))) 77 275 true).run Tryz.prog w = .ok (.tuple #[.pointer (some ⟨b,0,none⟩),.bool true]) w := by kernel_rfl
theorem e_Basic_List (b : Nat) (w : World) : (Instr.typeAssert (.iface 275 (.pointer (some ⟨b,0,none⟩))) 77 279 true).run Tryz.prog w = .ok (.tuple #[.pointer none,.bool false]) w := by kernel_rfl
theorem e_Basic_Pair (b : Nat) (w : World) : (Instr.typeAssert (.iface 275 (.pointer (some ⟨b,0,none⟩))) 77 291 true).run Tryz.prog w = .ok (.tuple #[.pointer none,.bool false]) w := by kernel_rfl
theorem e_Basic_Arrow (b : Nat) (w : World) : (Instr.typeAssert (.iface 275 (.pointer (some ⟨b,0,none⟩))) 77 209 true).run Tryz.prog w = .ok (.tuple #[.pointer none,.bool false]) w := by kernel_rfl
theorem e_List_Cell (b : Nat) (w : World) : (Instr.typeAssert (.iface 279 (.pointer (some ⟨b,0,none⟩))) 77 173 true).run Tryz.prog w = .ok (.tuple #[.pointer none,.bool false]) w := by kernel_rfl
theorem e_List_Var (b : Nat) (w : World) : (Instr.typeAssert (.iface 279 (.pointer (some ⟨b,0,none⟩))) 77 242 true).run Tryz.prog w = .ok (.tuple #[.pointer none,.bool false]) w := by kernel_rfl
theorem e_List_Basic (b : Nat) (w : World) : (Instr.typeAssert (.iface 279 (.pointer (some ⟨b,0,none⟩))) 77 275 true).run Tryz.prog w = .ok (.tuple #[.pointer none,.bool false]) w := by kernel_rfl
theorem e_List_List (b : Nat) (w : World) : (Instr.typeAssert (.iface 279 (.pointer (some ⟨b,0,none⟩))) 77 279 true).run Tryz.prog w = .ok (.tuple #[.pointer (some ⟨b,0,none⟩),.bool true]) w := by kernel_rfl
theorem e_List_Pair (b : Nat) (w : World) : (Instr.typeAssert (.iface 279 (.pointer (some ⟨b,0,none⟩))) 77 291 true).run Tryz.prog w = .ok (.tuple #[.pointer none,.bool false]) w := by kernel_rfl
theorem e_List_Arrow (b : Nat) (w : World) : (Instr.typeAssert (.iface 279 (.pointer (some ⟨b,0,none⟩))) 77 209 true).run Tryz.prog w = .ok (.tuple #[.pointer none,.bool false]) w := by kernel_rfl
theorem e_Pair_Cell (b : Nat) (w : World) : (Instr.typeAssert (.iface 291 (.pointer (some ⟨b,0,none⟩))) 77 173 true).run Tryz.prog w = .ok (.tuple #[.pointer none,.bool false]) w := by kernel_rfl
theorem e_Pair_Var (b : Nat) (w : World) : (Instr.typeAssert (.iface 291 (.pointer (some ⟨b,0,none⟩))) 77 242 true).run Tryz.prog w = .ok (.tuple #[.pointer none,.bool false]) w := by kernel_rfl
theorem e_Pair_Basic (b : Nat) (w : World) : (Instr.typeAssert (.iface 291 (.pointer (some ⟨b,0,none⟩))) 77 275 true).run Tryz.prog w = .ok (.tuple #[.pointer none,.bool false]) w := by kernel_rfl
theorem e_Pair_List (b : Nat) (w : World) : (Instr.typeAssert (.iface 291 (.pointer (some ⟨b,0,none⟩))) 77 279 true).run Tryz.prog w = .ok (.tuple #[.pointer none,.bool false]) w := by kernel_rfl
theorem e_Pair_Pair (b : Nat) (w : World) : (Instr.typeAssert (.iface 291 (.pointer (some ⟨b,0,none⟩))) 77 291 true).run Tryz.prog w = .ok (.tuple #[.pointer (some ⟨b,0,none⟩),.bool true]) w := by kernel_rfl
theorem e_Pair_Arrow (b : Nat) (w : World) : (Instr.typeAssert (.iface 291 (.pointer (some ⟨b,0,none⟩))) 77 209 true).run Tryz.prog w = .ok (.tuple #[.pointer none,.bool false]) w := by kernel_rfl
theorem e_Arrow_Cell (b : Nat) (w : World) : (Instr.typeAssert (.iface 209 (.pointer (some ⟨b,0,none⟩))) 77 173 true).run Tryz.prog w = .ok (.tuple #[.pointer none,.bool false]) w := by kernel_rfl
theorem e_Arrow_Var (b : Nat) (w : World) : (Instr.typeAssert (.iface 209 (.pointer (some ⟨b,0,none⟩))) 77 242 true).run Tryz.prog w = .ok (.tuple #[.pointer none,.bool false]) w := by kernel_rfl
theorem e_Arrow_Basic (b : Nat) (w : World) : (Instr.typeAssert (.iface 209 (.pointer (some ⟨b,0,none⟩))) 77 275 true).run Tryz.prog w = .ok (.tuple #[.pointer none,.bool false]) w := by kernel_rfl
theorem e_Arrow_List (b : Nat) (w : World) : (Instr.typeAssert (.iface 209 (.pointer (some ⟨b,0,none⟩))) 77 279 true).run Tryz.prog w = .ok (.tuple #[.pointer none,.bool false]) w := by kernel_rfl
theorem e_Arrow_Pair (b : Nat) (w : World) : (Instr.typeAssert (.iface 209 (.pointer (some ⟨b,0,none⟩))) 77 291 true).run Tryz.prog w = .ok (.tuple #[.pointer none,.bool false]) w := by kernel_rfl
theorem e_Arrow_Arrow (b : Nat) (w : World) : (Instr.typeAssert (.iface 209 (.pointer (some ⟨b,0,none⟩))) 77 209 true).run Tryz.prog w = .ok (.tuple #[.pointer (some ⟨b,0,none⟩),.bool true]) w := by kernel_rfl
theorem e_nil_Cell (w : World) : (Instr.typeAssert .nilIface 77 173 true).run Tryz.prog w = .ok (.tuple #[.pointer none,.bool false]) w := by kernel_rfl
def CP (b : Nat) : Value := .pointer (some ⟨b,0,none⟩)
def CI (b : Nat) : Value := .iface 173 (.pointer (some ⟨b,0,none⟩))
def InAs (ca : List Nat) (k : Nat) : Prop := k ∈ ca
theorem cell_at {w : World} {a i : Nat} {v : Value} (h : w.heap[a]? = some (cellB i v)) : w.cell? ⟨a,0,none⟩ = some (.int .i64 ((i : Int) + 1)) ∧ w.cell? ⟨a,1,none⟩ = some v ∧ w.frozen? ⟨a,0,none⟩ = false ∧ w.frozen? ⟨a,1,none⟩ = false := by
  simp [World.cell?,World.frozen?,h,cellB]
theorem last_nil (a i : Nat) (w : World) (h : w.heap[a]? = some (cellB i .nilIface)) : Calls Tryz.prog 129 #[CP a] w fun e w' => e = .returned (CP a) ∧ w' = w := by
  obtain ⟨c0,c1,_,_⟩ := cell_at h
  have ht := e_nil_Cell w
  clear h
  unfold CP
  go_enter Tryz.func129,Tryz.ntmps129
  go_wp2
  go_ret
  exact ⟨rfl,rfl⟩
theorem last_node (a i b : Nat) (t : TypeId) (w : World) (h : w.heap[a]? = some (cellB i (.iface t (.pointer (some ⟨b,0,none⟩))))) (ht : (Instr.typeAssert (.iface t (.pointer (some ⟨b,0,none⟩))) 77 173 true).run Tryz.prog w = .ok (.tuple #[.pointer none,.bool false]) w) :
    Calls Tryz.prog 129 #[CP a] w fun e w' => e = .returned (CP a) ∧ w' = w := by
  obtain ⟨c0,c1,_,_⟩ := cell_at h
  clear h
  unfold CP
  go_enter Tryz.func129,Tryz.ntmps129
  go_wp2
  go_ret
  exact ⟨rfl,rfl⟩
theorem last_root {H : Nat → Option Obj} {ca : List Nat} {o : Option Et} {a i : Nat} {v : Value} {w : World} (h : w.heap[a]? = some (cellB i v)) (ho : ORep H ca o v) : Calls Tryz.prog 129 #[CP a] w fun e w' => e = .returned (CP a) ∧ w' = w := by
  rcases ho with ⟨_,rfl⟩ | ⟨nd,_,h1,h2,_,b,h3⟩
  · exact last_nil a i w h
  · rcases h3 with ⟨q1,_⟩ | ⟨q1,_⟩ | ⟨_,_,rfl,_⟩ | ⟨_,_,_,_,_,rfl,_⟩ | ⟨_,_,_,_,_,_,_,rfl,_⟩ | ⟨_,_,_,_,_,_,_,rfl,_⟩
    · exact absurd q1 h2
    · exact absurd q1 h1
    · exact last_node a i b _ w h (e_Basic_Cell b w)
    · exact last_node a i b _ w h (e_List_Cell b w)
    · exact last_node a i b _ w h (e_Pair_Cell b w)
    · exact last_node a i b _ w h (e_Arrow_Cell b w)
def RTS (ca : List Nat) (σ : Sto) (w w' : World) : Prop := ∀ (j x : Nat),σ.rep[j]? = some j → ca[j]? = some x → w'.heap[x]? = w.heap[x]?
theorem RTS.refl (ca : List Nat) (σ : Sto) (w : World) : RTS ca σ w w := fun _ _ _ _ => rfl
def LST (H : Nat → Option Obj) (ca : List Nat) (σ : Sto) (d : Nat → Nat) (i : Nat) (w : World) (e : Ending) (w' : World) : Prop := ∃ b,e = .returned (CP b) ∧ ca[σ.root i]? = some b ∧ CSd H ca σ d w' ∧ Gb (InAs ca) w w' ∧ RTS ca σ w w'
theorem last_step {H : Nat → Option Obj} {ca : List Nat} {σ : Sto} {d : Nat → Nat} {i j a b : Nat} {w : World} (hc : CSd H ca σ d w) (ei : ca[i]? = some a) (hne : σ.root i ≠ i) (hrj : σ.root j = σ.root i) (hb : w.heap[a]? = some (cellB i (CI b)))
    (hl : Calls Tryz.prog 129 #[CP b] w (LST H ca σ d j w)) : Calls Tryz.prog 129 #[CP a] w (LST H ca σ d i w) := by
  obtain ⟨c0,c1,_,_⟩ := cell_at hb
  have ht := e_Cell_Cell b w
  have HL := hid hl
  have Q := hid (And.intro hc (And.intro ei (And.intro hne hrj)))
  unfold CI at c1
  unfold CP at *
  clear hl hc ei hne hrj hb
  go_enter Tryz.func129,Tryz.ntmps129
  go_wp2_with fail
  refine HL.out.mono ?_
  rintro e w1 ⟨b1,rfl,h1,h2,h3,h4⟩
  obtain ⟨hc,ei,hne,hrj⟩ := Q.out
  obtain ⟨v1,hv1,_⟩ := h2.blk i a ei
  obtain ⟨_,x1,_,f1⟩ := cell_at hv1
  have Q1 := hid (And.intro h1 (And.intro h2 (And.intro h3 h4)))
  clear h1 h2 h3 h4 hv1 hc ei hne hrj c0 c1
  unfold CP
  go_wp2
  go_ret
  obtain ⟨h1,h2,h3,h4⟩ := Q1.out
  obtain ⟨hc,ei,hne,hrj⟩ := Q.out
  rw [hrj] at h1
  obtain ⟨_,er,_⟩ := h2.root_get ei
  exact ⟨b1,rfl,h1,h2.short ei er hne h1,h3.set (Or.inl (List.mem_of_getElem? ei)) 1 _,fun j x ej ex => by
    rw [Below.heap_setCell _ _ _ _ (fun e' => ?_)]
    · exact h4 j x ej ex
    · have e2 : x = a := e'
      rw [e2] at ex
      have e3 : j = i := (List.getElem?_inj (List.getElem?_eq_some_iff.1 ex).1 h2.nd).1 (ex.trans ei.symm)
      rw [e3,er] at ej
      exact hne (Option.some.inj ej)⟩
theorem last_any {H : Nat → Option Obj} {ca : List Nat} {σ : Sto} {d : Nat → Nat} : ∀ (n i a : Nat) (w : World),d i < n → ca[i]? = some a → CSd H ca σ d w → Calls Tryz.prog 129 #[CP a] w (LST H ca σ d i w)
  | 0,_,_,_,h,_,_ => by omega
  | n + 1,i,a,w,h,ei,hc => by
    obtain ⟨v,hv,hcv⟩ := hc.blk i a ei
    obtain ⟨_,er,_⟩ := hc.root_get ei
    rcases hcv with ⟨q1,q2⟩ | ⟨j,c,b,q1,q2,q3,q4,rfl,q6⟩
    · rw [er] at q1
      refine (last_root hv q2).mono ?_
      rintro e w' ⟨rfl,rfl⟩
      exact ⟨a,rfl,by rw [Option.some.inj q1]; exact ei,hc,Gb.refl _ _,RTS.refl _ _ _⟩
    · rw [er] at q1
      have e1 := Option.some.inj q1
      obtain ⟨_,erj,_⟩ := hc.root_get q4
      rw [q3] at erj
      have e2 := Option.some.inj erj
      refine last_step hc ei (by rw [e1]; exact q2) (by rw [← e2,e1]) hv ?_
      rcases q6 with rfl | q6
      · obtain ⟨v2,hv2,hcv2⟩ := hc.blk j b q4
        rcases hcv2 with ⟨_,p2⟩ | ⟨_,c',_,p1,p2,_⟩
        · refine (last_root hv2 p2).mono ?_
          rintro e w' ⟨rfl,rfl⟩
          exact ⟨b,rfl,by rw [← e2]; exact q4,hc,Gb.refl _ _,RTS.refl _ _ _⟩
        · rw [q3] at p1
          exact absurd (Option.some.inj p1).symm p2
      · exact last_any n j b w (by omega) q4 hc
theorem CSd.root_val {H : Nat → Option Obj} {ca : List Nat} {σ : Sto} {d : Nat → Nat} {w : World} (h : CSd H ca σ d w) {i b : Nat} (hi : i < ca.length) (eb : ca[σ.root i]? = some b) : ∃ v,w.heap[b]? = some (cellB (σ.root i) v) ∧ ORep H ca (σ.is i) v := by
  obtain ⟨v,hv,hcv⟩ := h.blk _ b eb
  refine ⟨v,hv,?_⟩
  obtain ⟨_,er,_⟩ := h.root_get (List.getElem?_eq_getElem hi)
  have er2 := h.rr _ _ er
  rcases hcv with ⟨_,p2⟩ | ⟨_,c',_,p1,p2,_⟩
  · exact p2
  · rw [er2] at p1
    exact absurd (Option.some.inj p1).symm p2
theorem nowS_cell (σ : Sto) (i : Nat) : nowS σ (cT i) = (match σ.is i with | none => cT (σ.root i) | some nd => nd) := by
  unfold nowS
  rw [if_pos (show (cT i).kind = oCell from rfl)]
  rfl
def NOW (H : Nat → Option Obj) (ca : List Nat) (σ : Sto) (d : Nat → Nat) (v : Value) (w : World) (e : Ending) (w' : World) : Prop := e = .returned v ∧ CSd H ca σ d w' ∧ Gb (InAs ca) w w'
theorem now_other {t : TypeId} (b : Nat) (w : World) (ht : (Instr.typeAssert (.iface t (.pointer (some ⟨b,0,none⟩))) 77 173 true).run Tryz.prog w = .ok (.tuple #[.pointer none,.bool false]) w) :
    Calls Tryz.prog 168 #[.iface t (.pointer (some ⟨b,0,none⟩))] w fun e w' => e = .returned (.iface t (.pointer (some ⟨b,0,none⟩))) ∧ w' = w := by
  go_enter Tryz.func168,Tryz.ntmps168
  go_wp2
  go_ret
  exact ⟨rfl,rfl⟩
theorem now_cell {H : Nat → Option Obj} {ca : List Nat} {σ : Sto} {d : Nat → Nat} (i a : Nat) (w : World) (ei : ca[i]? = some a) (hc : CSd H ca σ d w) : ∃ v,ERep 0 H ca 2 v (nowS σ (cT i)) ∧ Calls Tryz.prog 168 #[CI a] w (NOW H ca σ d v w) := by
  obtain ⟨b0,er0,eb0⟩ := hc.root_get ei
  have hil := (List.getElem?_eq_some_iff.1 ei).1
  obtain ⟨v0,hv0,ho⟩ := hc.root_val hil eb0
  have HL := hid (last_any (d i + 1) i a w (by omega) ei hc)
  have ht := e_Cell_Cell a w
  have E0 := hid (And.intro eb0 (And.intro hv0 (hc.rr _ _ er0)))
  unfold CI
  unfold CP at HL
  rcases ho with ⟨he,rfl⟩ | ⟨nd,he,k1,k2,k3,k4⟩
  · refine ⟨CI b0,⟨b0,Or.inl ?_⟩,?_⟩
    · rw [nowS_cell,he]
      exact ⟨rfl,rfl,eb0,rfl⟩
    clear ei hc er0 eb0 hv0 hil he
    unfold CI
    go_enter Tryz.func168,Tryz.ntmps168
    go_wp2_with fail
    refine HL.out.mono ?_
    rintro e w1 ⟨b1,rfl,h1,h2,h3,h4⟩
    obtain rfl := Option.some.inj (E0.out.1.symm.trans h1)
    have x1 := (cell_at ((h4 _ _ E0.out.2.2 h1).trans E0.out.2.1)).2.1
    have Q1 := hid (And.intro h2 h3)
    clear h1 h2 h3 h4
    unfold CP
    go_wp2
    go_ret
    exact ⟨rfl,Q1.out.1,Q1.out.2⟩
  · refine ⟨v0,by rw [nowS_cell,he]; exact k4,?_⟩
    obtain ⟨t0,c0,ht0,rfl⟩ := k4.val
    clear ei hc er0 eb0 hv0 hil he k1 k2 k3 k4
    rcases ht0 with rfl | rfl | rfl | rfl | rfl | rfl
    all_goals
      go_enter Tryz.func168,Tryz.ntmps168
      go_wp2_with fail
      refine HL.out.mono ?_
      rintro e w1 ⟨b1,rfl,h1,h2,h3,h4⟩
      obtain rfl := Option.some.inj (E0.out.1.symm.trans h1)
      have x1 := (cell_at ((h4 _ _ E0.out.2.2 h1).trans E0.out.2.1)).2.1
      have Q1 := hid (And.intro h2 h3)
      clear h1 h2 h3 h4
      unfold CP
      go_wp2
      go_ret
      exact ⟨rfl,Q1.out.1,Q1.out.2⟩
theorem now_any {H : Nat → Option Obj} {ca : List Nat} {σ : Sto} {d : Nat → Nat} {lo m : Nat} {v : Value} {t : Et} {w : World} (h : ERep lo H ca (m + 2) v t) (hc : CSd H ca σ d w) : ∃ v1,ERep (if t.kind = oCell then 0 else lo) H ca (m + 2) v1 (nowS σ t) ∧ (t.kind ≠ oCell → v1 = v) ∧ Calls Tryz.prog 168 #[v] w (NOW H ca σ d v1 w) := by
  have hh := h
  obtain ⟨b,h⟩ := h
  have other : ∀ (t0 : TypeId),v = .iface t0 (.pointer (some ⟨b,0,none⟩)) → t.kind ≠ oCell → (Instr.typeAssert (.iface t0 (.pointer (some ⟨b,0,none⟩))) 77 173 true).run Tryz.prog w = .ok (.tuple #[.pointer none,.bool false]) w →
      ∃ v1,ERep (if t.kind = oCell then 0 else lo) H ca (m + 2) v1 (nowS σ t) ∧ (t.kind ≠ oCell → v1 = v) ∧ Calls Tryz.prog 168 #[v] w (NOW H ca σ d v1 w) := fun t0 hv hk ht => by
    have en : nowS σ t = t := by unfold nowS; rw [if_neg hk]
    rw [en,if_neg hk]
    refine ⟨v,hh,fun _ => rfl,?_⟩
    subst hv
    refine (now_other b w ht).mono ?_
    rintro e w' ⟨rfl,rfl⟩
    exact ⟨rfl,hc,Gb.refl _ _⟩
  rcases h with ⟨h1,h2,h3,h4⟩ | ⟨h1,h2,h3,h0,h4,h5⟩ | ⟨h1,h2,h3,h4⟩ | ⟨h1,h0,a,u,h2,h3,h4,h5⟩ | ⟨h1,h0,a,c,u,z,h2,h3,h4,h5,h6⟩ | ⟨h1,h0,a,c,u,z,h2,h3,h4,h5,h6⟩
  · have en : nowS σ t = nowS σ (cT t.num) := by unfold nowS; rw [if_pos h1,if_pos (show (cT t.num).kind = oCell from rfl)]; rfl
    rw [en,if_pos h1]
    obtain ⟨v1,q1,q2⟩ := now_cell t.num b w h3 hc
    subst h4
    exact ⟨v1,q1.le (by omega),fun hk => absurd h1 hk,q2⟩
  · exact other _ h4 (by rw [h1]; decide) (e_Var_Cell b w)
  · exact other _ h3 (by rcases h1 with h1 | h1 <;> rw [h1] <;> decide) (e_Basic_Cell b w)
  · exact other _ h3 (by rw [h1]; decide) (e_List_Cell b w)
  · exact other _ h3 (by rw [h1]; decide) (e_Pair_Cell b w)
  · exact other _ h3 (by rw [h1]; decide) (e_Arrow_Cell b w)
theorem itoa_q (w : World) : ∀ (d : Nat),d < 10 → Calls Tryz.prog 132 #[.int .i64 (d : Int)] w fun e w' => e = .returned (.string (B [UInt8.ofNat (48 + d)])) ∧ w' = w
  | 0,_ => by go_enter Tryz.func132,Tryz.ntmps132; go_wp2; go_ret; exact ⟨rfl,rfl⟩
  | 1,_ => by go_enter Tryz.func132,Tryz.ntmps132; go_wp2; go_ret; exact ⟨rfl,rfl⟩
  | 2,_ => by go_enter Tryz.func132,Tryz.ntmps132; go_wp2; go_ret; exact ⟨rfl,rfl⟩
  | 3,_ => by go_enter Tryz.func132,Tryz.ntmps132; go_wp2; go_ret; exact ⟨rfl,rfl⟩
  | 4,_ => by go_enter Tryz.func132,Tryz.ntmps132; go_wp2; go_ret; exact ⟨rfl,rfl⟩
  | 5,_ => by go_enter Tryz.func132,Tryz.ntmps132; go_wp2; go_ret; exact ⟨rfl,rfl⟩
  | 6,_ => by go_enter Tryz.func132,Tryz.ntmps132; go_wp2; go_ret; exact ⟨rfl,rfl⟩
  | 7,_ => by go_enter Tryz.func132,Tryz.ntmps132; go_wp2; go_ret; exact ⟨rfl,rfl⟩
  | 8,_ => by go_enter Tryz.func132,Tryz.ntmps132; go_wp2; go_ret; exact ⟨rfl,rfl⟩
  | 9,_ => by go_enter Tryz.func132,Tryz.ntmps132; go_wp2; go_ret; exact ⟨rfl,rfl⟩
  | n + 10,h => by omega
theorem encode_one (r : Nat) (hr : r < 128) : Utf8.encode (r : Int) = B [UInt8.ofNat r] := by
  have hv : Utf8.valid (r : Int) = true := by
    unfold Utf8.valid
    simp
    omega
  unfold Utf8.encode
  simp only [hv,if_true,Int.toNat_natCast]
  rw [if_pos hr]
  rfl
theorem nth_q (w : World) (n : Nat) (hn : n < 260) :
    Calls Tryz.prog 90 #[.int .i64 (n : Int)] w fun e w' => e = .returned (.string (B (letterS n))) ∧ w' = w := by
  have hr : n % 26 < 26 := Nat.mod_lt _ (by omega)
  have he := encode_one (97 + n % 26) (by omega)
  have hc : ((97 + n % 26 : Nat) : Int) = 97 + (n : Int) % 26 := by omega
  rw [hc] at he
  obtain ⟨b,hb⟩ : ∃ b,b = UInt8.ofNat (97 + n % 26) := ⟨_,rfl⟩
  rw [← hb] at he
  have hm : (n : Int).tmod 26 = (n : Int) % 26 := Int.tmod_eq_emod_of_nonneg (by omega)
  have hq : (n : Int).tdiv 26 = ((n / 26 : Nat) : Int) := by rw [Int.tdiv_eq_ediv_of_nonneg (by omega)]; omega
  have hr0 : 0 ≤ (n : Int) % 26 := by omega
  have hr1 : (n : Int) % 26 < 26 := by omega
  by_cases h25 : 25 < n
  · have e : letterS n = [b] ++ [UInt8.ofNat (48 + n / 26)] := by unfold letterS; rw [if_pos h25,hb]
    rw [e]
    have h25' : ¬ (n : Int) < 26 := by omega
    have HF := hid (itoa_q w (n / 26) (by omega))
    generalize UInt8.ofNat (48 + n / 26) = b2 at *
    clear hb hc e hr
    have sz1 : (B [b]).size = 1 := rfl
    have sz2 : (B [b2]).size = 1 := rfl
    go_enter Tryz.func90,Tryz.ntmps90
    go_wp2_with (go_at_call 132; refine HF.out.mono ?_; rintro e w1 ⟨rfl,rfl⟩)
    go_ret
    refine ⟨?_,rfl⟩
    show Ending.returned (.string (B [b] ++ B [b2])) = _
    rw [append_B]
    rfl
  · have e : letterS n = [b] := by unfold letterS; rw [if_neg h25,hb]; rfl
    rw [e]
    have h25' : (n : Int) < 26 := by omega
    clear hb hc e hr
    go_enter Tryz.func90,Tryz.ntmps90
    go_wp2
    go_ret
    exact ⟨rfl,rfl⟩
end Go.Proofs.YtcdijppegfcoaabGreatDoor
namespace Go.Proofs.YtcdijppegfcoaabGreatDoor
open Go.RowKit Go.Maps Go.WideMaps
theorem keyLaw : Keyed Tryz.prog 9 := string_keyed Tryz.underlying9
theorem zeroInt (w : World) : (zeroValue 3).run Tryz.prog w = .ok (.int .i64 0) w := by kernel_rfl
def MP (w : World) (mb : Nat) (L : List (List UInt8)) : Prop :=
  ∃ D : DataW Unit,w.ownsMap Tryz.prog 9 (plainElem Tryz.prog 3) mb L.length D ∧ Maps.size D = L.length ∧ (∀ k : List UInt8,Maps.has D (.string k) = decide (k ∈ L)) ∧ ∀ k,k ∈ L → D.atKey (.string k) (.lit (.int .i64 0)) = .lit (.int .i64 (L.idxOf k : Int))
theorem MP.new (w : World) : MP (w.alloc (.map #[] 0)) w.heap.size [] :=
  ⟨.map [],World.ownsMap_made _ _ _ _,rfl,fun k => rfl,fun k h => by cases h⟩
theorem MP.kept {w w' : World} {mb : Nat} {L : List (List UInt8)} {r : Option Nat} (h : MP w mb L) (hg : w.grownBy w' r) (hne : some mb ≠ r) : MP w' mb L := by
  obtain ⟨D,h1,h2⟩ := h
  exact ⟨D,h1.kept hg hne,h2⟩
theorem MP.lt {w : World} {mb : Nat} {L : List (List UInt8)} (h : MP w mb L) : mb < w.heap.size := by
  obtain ⟨D,h1,_⟩ := h
  exact h1.lt
theorem MP.isMap {w : World} {mb : Nat} {L : List (List UInt8)} (h : MP w mb L) : ∃ es clock,w.heap[mb]? = some (.map es clock) := by
  obtain ⟨D,⟨es,clock,hb,_⟩,_⟩ := h
  exact ⟨es,clock,hb⟩
theorem keyB {k : List UInt8} (hk : k.length ≤ 300) : keyOf Tryz.prog 9 (.string (B k)) = some (.string k) := by
  have := keyOf_string_mk (P := Tryz.prog) (k := 9) Tryz.underlying9 (s := B k) (by rw [size_B]; unfold maxLen; omega)
  rw [this]
  rfl
theorem MP.look_in {w : World} {mb : Nat} {L : List (List UInt8)} (h : MP w mb L) {k : List UInt8} (hk : k.length ≤ 300) (hm : k ∈ L) :
    (Instr.lookup 288 (.map (some mb)) (.string (B k)) true).run Tryz.prog w = .ok (.tuple #[.int .i64 (L.idxOf k : Int),.bool true]) w := by
  obtain ⟨D,h1,h2,h3,h4⟩ := h
  obtain ⟨v,ps,hr,hv⟩ := h1.look_ok keyLaw Tryz.underlying288 (zeroInt w) (plainElem_int Tryz.underlying3 (by decide)) (keyB hk)
  obtain ⟨c,rfl,hc,_⟩ := plainElem_int_inv Tryz.underlying3 hv
  rw [hr,h3 k,decide_eq_true hm]
  rw [h4 k hm] at hc
  have := congrArg Prod.fst hc
  simp at this
  rw [this]
theorem MP.look_out {w : World} {mb : Nat} {L : List (List UInt8)} (h : MP w mb L) {k : List UInt8} (hk : k.length ≤ 300) (hm : k ∉ L) :
    (Instr.lookup 288 (.map (some mb)) (.string (B k)) true).run Tryz.prog w = .ok (.tuple #[.int .i64 0,.bool false]) w := by
  obtain ⟨D,h1,h2,h3,h4⟩ := h
  obtain ⟨v,ps,hr,hv⟩ := h1.look_ok keyLaw Tryz.underlying288 (zeroInt w) (plainElem_int Tryz.underlying3 (by decide)) (keyB hk)
  obtain ⟨c,rfl,hc,_⟩ := plainElem_int_inv Tryz.underlying3 hv
  have hf : Maps.has D (.string k) = false := by rw [h3 k,decide_eq_false hm]
  rw [hr,hf]
  rw [atKey_of_not_has hf] at hc
  have := congrArg Prod.fst hc
  simp at this
  rw [this]
theorem MP.len {w : World} {mb : Nat} {L : List (List UInt8)} (h : MP w mb L) (ty : TypeId) : (Builtin.len_ #[288] ty #[.map (some mb)]).run Tryz.prog w = .ok (.int .i64 (L.length : Int)) w := by
  obtain ⟨D,h1,h2,h3,h4⟩ := h
  rw [h1.len Tryz.underlying288 ty,h2]
theorem MP.store {w : World} {mb : Nat} {L : List (List UInt8)} (h : MP w mb L) {k : List UInt8} (hk : k.length ≤ 300) (hm : k ∉ L) (hL : L.length ≤ 1000) :
    ∃ w',(Instr.mapUpdate 288 (.map (some mb)) (.string (B k)) (.int .i64 (L.length : Int))).run Tryz.prog w = .ok () w' ∧ MP w' mb (L ++ [k]) ∧ w.grownBy w' (some mb) := by
  obtain ⟨D,h1,h2,h3,h4⟩ := h
  have td := h1.tidy keyLaw
  obtain ⟨w',r1,r2,r3⟩ := h1.update keyLaw Tryz.underlying288 (by unfold maxLen; omega) (keyB hk) (plainElem_int Tryz.underlying3 (a := (L.length : Int)) (WalkArith.wf_i64 (n := (L.length : Int)) (by omega)))
  have hf : Maps.has D (.string k) = false := by rw [h3 k,decide_eq_false hm]
  refine ⟨w',r1,⟨_,by rw [List.length_append]; exact r2,?_,fun k' => ?_,fun k' hk' => ?_⟩,r3⟩
  · rw [size_put td,hf,h2]
    simp
  · by_cases e : k' = k
    · subst e
      rw [has_put_same (k := .string k') td.isMap (by trivial)]
      simp
    · rw [has_put_other (by simpa using e),h3 k']
      simp [e]
  · by_cases e : k' = k
    · subst e
      rw [atKey_put_same (k := .string k') td.isMap (by trivial)]
      rw [List.idxOf_append,if_neg hm]
      simp
    · rw [atKey_put_other (by simpa using e)]
      have hin : k' ∈ L := by
        rcases List.mem_append.1 hk' with h | h
        · exact h
        · exact absurd (List.mem_singleton.1 h) e
      rw [h4 k' hin,List.idxOf_append,if_pos hin]
structure AB where
  kb : Nat
  nb : Nat
  cb : Nat
  mb : Nat
def numV (cb : Nat) : Value := .func (.func 131) #[] #[.pointer (some ⟨cb,0,none⟩)]
def askV (a : AB) : Value := .func (.func 89) #[] #[.pointer (some ⟨a.kb,0,none⟩),.pointer (some ⟨a.nb,0,none⟩)]
structure IO1 (w : World) (a : AB) (L : List (List UInt8)) : Prop where
  mrk : w.heap[a.kb]? = some (.cells #[.string (B [])] 9 (0,0))
  nf : w.heap[a.nb]? = some (.cells #[numV a.cb] 218 (0,0))
  blk : w.heap[a.cb]? = some (.cells #[.map (some a.mb)] 288 (0,0))
  mp : MP w a.mb L
theorem IO1.ne {w : World} {a : AB} {L : List (List UInt8)} (h : IO1 w a L) : a.cb ≠ a.mb ∧ a.kb ≠ a.mb ∧ a.nb ≠ a.mb := by
  obtain ⟨es,cl,hb⟩ := h.mp.isMap
  refine ⟨fun e => ?_,fun e => ?_,fun e => ?_⟩
  · have := h.blk
    rw [e,hb] at this
    cases this
  · have := h.mrk
    rw [e,hb] at this
    cases this
  · have := h.nf
    rw [e,hb] at this
    cases this
theorem IO1.over {w w' : World} {a : AB} {L L' : List (List UInt8)} (h : IO1 w a L) (hg : w.grownBy w' (some a.mb)) (hm : MP w' a.mb L') : IO1 w' a L' :=
  ⟨by rw [hg.block _ (lt_of_block h.mrk) (by simp; exact h.ne.2.1)]; exact h.mrk,by rw [hg.block _ (lt_of_block h.nf) (by simp; exact h.ne.2.2)]; exact h.nf,by rw [hg.block _ (lt_of_block h.blk) (by simp; exact h.ne.1)]; exact h.blk,hm⟩
def askS (L : List (List UInt8)) (nm : List UInt8) : List (List UInt8) := if nm ∈ L then L else L ++ [nm]
theorem num_q (w : World) (a : AB) (nm : List UInt8) (L : List (List UInt8)) (hnm : nm.length ≤ 300) (h : IO1 w a L) (hL : L.length ≤ 200) :
    Calls Tryz.prog 131 #[.string (B nm),.pointer (some ⟨a.cb,0,none⟩)] w fun e w' => e = .returned (.int .i64 ((askS L nm).idxOf nm : Nat)) ∧ IO1 w' a (askS L nm) ∧ w.grownBy w' (some a.mb) := by
  have c0 : w.cell? ⟨a.cb,0,none⟩ = some (.map (some a.mb)) := by simp [World.cell?,h.blk]
  have H := hid h
  by_cases hm : nm ∈ L
  · have e : askS L nm = L := by unfold askS; rw [if_pos hm]
    rw [e]
    have hlk := h.mp.look_in hnm hm
    obtain ⟨ix,hixe⟩ : ∃ ix,ix = L.idxOf nm := ⟨_,rfl⟩
    rw [← hixe] at hlk ⊢
    clear h hm e hixe
    go_enter Tryz.func131,Tryz.ntmps131
    go_wp2
    go_ret
    exact ⟨rfl,H.out,World.grownBy.refl _ _⟩
  · have e : askS L nm = L ++ [nm] := by unfold askS; rw [if_neg hm]
    rw [e]
    have hlk := h.mp.look_out hnm hm
    have hln := fun ty => MP.len h.mp ty
    obtain ⟨w5,hst,hmp,hg5⟩ := MP.store h.mp hnm hm (by omega)
    have hix : (L ++ [nm]).idxOf nm = L.length := by rw [List.idxOf_append,if_neg hm]; simp
    rw [hix]
    have Q := hid (And.intro hmp hg5)
    clear h hm e hix hmp hg5
    go_enter Tryz.func131,Tryz.ntmps131
    go_wp2
    go_ret
    exact ⟨rfl,H.out.over Q.out.2 Q.out.1,Q.out.2⟩
theorem ask_q (w : World) (a : AB) (nm : List UInt8) (L : List (List UInt8)) (hnm : nm.length ≤ 300) (h : IO1 w a L) (hL : L.length ≤ 200) :
    Calls Tryz.prog 89 #[.string (B nm),.pointer (some ⟨a.kb,0,none⟩),.pointer (some ⟨a.nb,0,none⟩)] w fun e w' => e = .returned (.string (B (letterS ((askS L nm).idxOf nm)))) ∧ IO1 w' a (askS L nm) ∧ w.grownBy w' (some a.mb) := by
  have c0 : w.cell? ⟨a.kb,0,none⟩ = some (.string (B [])) := by simp [World.cell?,h.mrk]
  have c1 : w.cell? ⟨a.nb,0,none⟩ = some (.func (.func 131) #[] #[.pointer (some ⟨a.cb,0,none⟩)]) := by simp [World.cell?,h.nf,numV]
  have hix : (askS L nm).idxOf nm ≤ 200 := by
    unfold askS
    split
    · rename_i hm
      have := List.idxOf_lt_length_of_mem hm
      omega
    · rename_i hm
      rw [List.idxOf_append,if_neg hm]
      simp; omega
  have CN := hid (num_q w.drew a nm L hnm ⟨h.mrk,h.nf,h.blk,h.mp⟩ hL)
  obtain ⟨L',hL'⟩ : ∃ L',L' = askS L nm := ⟨_,rfl⟩
  rw [← hL'] at CN hix ⊢
  obtain ⟨ix,hixe⟩ : ∃ ix,ix = L'.idxOf nm := ⟨_,rfl⟩
  rw [← hixe] at CN hix ⊢
  have CM := hid (fun w => nth_q w ix (by omega))
  have hsz : (B (letterS ix)).size ≤ 1000 := by
    rw [size_B]
    unfold letterS
    split <;> simp
  have sz0 : (B ([] : List UInt8)).size = 0 := rfl
  have W := hid (show ∀ w1,IO1 w1 a L' → w1.cell? ⟨a.kb,0,none⟩ = some (.string (B [])) from fun w1 i1 => by simp [World.cell?,i1.mrk])
  clear h hL hL' hixe hix hnm
  go_enter Tryz.func89,Tryz.ntmps89
  go_wp2_with fail
  go_region_with (first
    | (go_at_call 131; refine CN.out.mono ?_; rintro e w1 ⟨rfl,i1,g1⟩; have c5 := W.out w1 i1; have I1 := hid i1; have G1 := hid g1; clear i1 g1)
    | (go_at_call 90; refine (CM.out _).mono ?_; rintro e w2 ⟨rfl,rfl⟩))
  all_goals
    go_wp2
    go_ret
    refine ⟨?_,I1.out,⟨G1.out.os,G1.out.tape,G1.out.output,G1.out.size,G1.out.block⟩⟩
    show Ending.returned (.string (B [] ++ B (letterS ix))) = _
    rw [append_B]
    rfl
def INO (w w' : World) (e : Ending) : Prop := ∃ cb mb,e = .returned (numV cb) ∧ w'.heap[cb]? = some (.cells #[.map (some mb)] 288 (0,0)) ∧ MP w' mb [] ∧ w.grownBy w' none ∧ w.heap.size ≤ mb
theorem inOrder_q (w : World) : Calls Tryz.prog 88 #[] w fun e w' => INO w w' e := by
  have hmm := @run_makeMap Tryz.prog
  have hmf : ∀ (fn : Fn) (first cap : Array Value) (w : World),(Instr.makeFunc fn first cap).run Tryz.prog w = .ok (.func fn first cap) w := fun _ _ _ _ => rfl
  go_enter Tryz.func88,Tryz.ntmps88
  go_wp2
  go_ret
  refine ⟨w.heap.size + 1,w.heap.size,rfl,heap_alloc_at _ _ _ (by simp),(MP.new w).kept (World.grownBy_alloc _ _ none) (by simp),(World.grownBy_alloc _ _ _).trans (World.grownBy_alloc _ _ _),Nat.le_refl _⟩
def LTO (w w' : World) (e : Ending) : Prop := ∃ a,e = .returned (askV a) ∧ IO1 w' a [] ∧ w.grownBy w' none ∧ w.heap.size ≤ a.mb
theorem letters_q (w : World) : Calls Tryz.prog 55 #[.string (B [])] w fun e w' => LTO w w' e := by
  have hmf : ∀ (fn : Fn) (first cap : Array Value) (w : World),(Instr.makeFunc fn first cap).run Tryz.prog w = .ok (.func fn first cap) w := fun _ _ _ _ => rfl
  have hk : (w.alloc (.cells #[.string (B [])] 9)).heap[w.heap.size]? = some (.cells #[.string (B [])] 9 (0,0)) := heap_alloc_at _ _ _ rfl
  have HK := hid hk
  clear hk
  go_enter Tryz.func55,Tryz.ntmps55
  go_wp2_with fail
  refine (inOrder_q _).mono ?_
  rintro e w1 ⟨cb,mb,rfl,hc,hm,g1,hmb⟩
  have Q := hid (And.intro hc (And.intro hm (And.intro g1 hmb)))
  have hs1 : w.heap.size + 1 ≤ w1.heap.size := by have := g1.size; simpa using this
  clear hc hm g1 hmb
  unfold numV
  go_wp2
  go_ret
  obtain ⟨hc,hm,g1,hmb⟩ := Q.out
  have hk1 := (g1.block w.heap.size (by simp) (by simp)).trans HK.out
  have ga := World.grownBy_alloc w1 (.cells #[numV cb] 218) none
  refine ⟨⟨w.heap.size,w1.heap.size,cb,mb⟩,rfl,⟨(ga.block w.heap.size (by omega) (by simp)).trans hk1,heap_alloc_at _ _ _ rfl,(ga.block _ (lt_of_block hc) (by simp)).trans hc,hm.kept ga (by simp)⟩,((World.grownBy_alloc _ _ _).trans g1).trans ga,?_⟩
  simp at hmb
  show w.heap.size ≤ mb
  omega
def stepL (s : List UInt8 × Nat × Nat) : List Value := [.string (B s.1),.int .i64 (s.2.1 : Int),.int .i64 (s.2.2 : Int)]
def stepA (s : List UInt8 × Nat × Nat) : Value := .agg #[.string (B s.1),.int .i64 (s.2.1 : Int),.int .i64 (s.2.2 : Int)]
def standA (s : Nat × Nat) : Value := .agg #[.string (B []),.int .i64 (s.1 : Int),.int .i64 (s.2 : Int)]
def stepsL (l : List (List UInt8 × Nat × Nat)) : List Value := l.flatMap stepL
def runS : List (List UInt8 × Nat × Nat) → List UInt8 → List UInt8
  | [],out => out
  | (x,f,t) :: l,out => runS l (out ++ x ++ ((out ++ x).drop f).take (t - f))
theorem runS_app (l r : List (List UInt8 × Nat × Nat)) (out : List UInt8) : runS (l ++ r) out = runS r (runS l out) := by
  induction l generalizing out with
  | nil => rfl
  | cons a l ih => obtain ⟨x,f,t⟩ := a; simp [runS,ih]
def okS : List (List UInt8 × Nat × Nat) → List UInt8 → Prop
  | [],_ => True
  | (x,f,t) :: l,out => f ≤ t ∧ t ≤ out.length + x.length ∧ okS l (out ++ x ++ ((out ++ x).drop f).take (t - f))
theorem okS_app (l r : List (List UInt8 × Nat × Nat)) (out : List UInt8) : okS (l ++ r) out ↔ okS l out ∧ okS r (runS l out) := by
  induction l generalizing out with
  | nil => simp [okS,runS]
  | cons a l ih => obtain ⟨x,f,t⟩ := a; simp [okS,runS,ih,and_assoc]
def numI (cb : Nat) : Value := .func (.func 216) #[] #[.pointer (some ⟨cb,0,none⟩)]
def askI (a : AB) : Value := .func (.func 213) #[] #[.pointer (some ⟨a.kb,0,none⟩),.pointer (some ⟨a.nb,0,none⟩)]
def natV (n : Nat) : Value := .int .i64 (n : Int)
structure IOI (w : World) (a : AB) (O : List Nat) : Prop where
  mrk : w.heap[a.kb]? = some (.cells #[.string (B [95])] 9 (0,0))
  nf : w.heap[a.nb]? = some (.cells #[numI a.cb] 364 (0,0))
  blk : w.heap[a.cb]? = some (.cells #[.map (some a.mb)] 359 (0,0))
  mp : GM kI natV 3 w a.mb (O.zip (List.range O.length))
  few : ∀ c,c ∈ O → c ≤ 1099511627776
theorem IOI.same {w w' : World} {a : AB} {O : List Nat} (h : IOI w a O) (h1 : w'.heap[a.kb]? = w.heap[a.kb]?) (h2 : w'.heap[a.nb]? = w.heap[a.nb]?) (h3 : w'.heap[a.cb]? = w.heap[a.cb]?) (h4 : w'.heap[a.mb]? = w.heap[a.mb]?) : IOI w' a O :=
  ⟨h1.trans h.mrk,h2.trans h.nf,h3.trans h.blk,h.mp.same h4,h.few⟩
theorem IO1.same {w w' : World} {a : AB} {L : List (List UInt8)} (h : IO1 w a L) (h1 : w'.heap[a.kb]? = w.heap[a.kb]?) (h2 : w'.heap[a.nb]? = w.heap[a.nb]?) (h3 : w'.heap[a.cb]? = w.heap[a.cb]?) (h4 : w'.heap[a.mb]? = w.heap[a.mb]?) : IO1 w' a L := by
  refine ⟨h1.trans h.mrk,h2.trans h.nf,h3.trans h.blk,?_⟩
  obtain ⟨D,⟨es,clock,q1,q2⟩,q3⟩ := h.mp
  exact ⟨D,⟨es,clock,h4.trans q1,q2⟩,q3⟩
structure Dc where
  db : Nat
  mb : Nat
  any : Option AB
  own : Option AB
def ownV : Value := .func (.func 174) #[] #[]
def Dc.anyV (c : Dc) : Value := match c.any with
  | none => ownV
  | some a => askV a
def Dc.ownV (c : Dc) : Value := match c.own with
  | none => .nilFunc
  | some a => askI a
def draftB (c : Dc) (sv : Value) (n : Nat) : Obj := .cells #[c.anyV,c.ownV,sv,.int .i64 (n : Int),.map (some c.mb)] 216 (0,0)
structure DR (c : Dc) (bs : Nat) (s : Ds) (w : World) : Prop where
  blk : ∃ sv,w.heap[c.db]? = some (draftB c sv s.out.length) ∧ w.ownsRow bs 225 3 sv s.steps.length (stepsL s.steps)
  run : runS s.steps [] = s.out
  ok : okS s.steps []
  short : s.out.length ≤ 100000 ∧ s.steps.length ≤ 100000
  st : GM kI standA 3 w c.mb s.stands
  an : ∀ a,c.any = some a → IO1 w a s.L ∧ bs ≤ a.mb ∧ a.mb ≠ c.mb
  ow : ∀ a,c.own = some a → IOI w a s.O ∧ a.mb ≠ c.mb
  ap : ∀ a b,c.any = some a → c.own = some b → a.mb ≠ b.mb
  lo : bs ≤ c.db ∧ bs ≤ c.mb
def DCh (c : Dc) (bs : Nat) (k : Nat) : Prop := bs ≤ k ∨ ∃ a,c.own = some a ∧ k = a.mb
theorem DR.put {c : Dc} {bs : Nat} {s : Ds} {w w1 w' : World} {sv sv' : Value} {x : List UInt8} {f t : Nat} {s' : Ds} (h : DR c bs s w) (hp : putS x f t s = some s') (hb : w.heap[c.db]? = some (draftB c sv s.out.length))
    (g : w.grownBy w1 sv.ownBlock) (hown : w1.ownsRow bs 225 3 sv' (s.steps.length + 1) (stepsL s.steps ++ stepL (x,f,t))) (ho : w.ownsRow bs 225 3 sv s.steps.length (stepsL s.steps))
    (hw' : w'.heap[c.db]? = some (draftB c sv' (s.out.length + (x.length + (t - f))))) (hk : ∀ k,k < w1.heap.size → k ≠ c.db → w'.heap[k]? = w1.heap[k]?) : DR c bs s' w' := by
  unfold putS at hp
  split at hp
  · rename_i hc
    obtain ⟨c1,c2,c3,c4⟩ := hc
    cases hp
    have hout : (s.out ++ x ++ ((s.out ++ x).drop f).take (t - f)).length = s.out.length + (x.length + (t - f)) := by simp; omega
    -- the row's block,if there is one
    have hrow : ∀ k o,w.heap[k]? = some o → (∀ cs fz,o ≠ .cells cs 225 fz) → k ≠ c.db → w'.heap[k]? = w.heap[k]? := fun k o e1 e2 e3 => by
      have hl := lt_of_block e1
      rw [hk k (Nat.lt_of_lt_of_le hl g.size) e3,g.block k hl (fun e4 => ?_)]
      rcases ho.2 with ⟨rfl,_⟩ | ⟨gb,cap,cur,rfl,_,q3,_⟩
      · simp [Value.ownBlock] at e4
      · simp [Value.ownBlock] at e4
        rw [e4,q3] at e1
        exact e2 _ _ (Option.some.inj e1).symm
    have hcell : ∀ (k : Nat) (cs : Array Value) (T : TypeId) (fz : Nat × Nat),w.heap[k]? = some (Obj.cells cs T fz) → T ≠ 225 → T ≠ 216 → w'.heap[k]? = w.heap[k]? := fun k cs T fz e1 e2 e3 =>
      hrow k _ e1 (fun cs' fz' e => by injection e; exact e2 (by assumption)) (fun e => by rw [e,hb] at e1; unfold draftB at e1; injection e1 with e1; injection e1 with _ e1 _; exact e3 e1.symm)
    have hmap : ∀ (k : Nat) (es : Array MapEntry) (cl : Nat),w.heap[k]? = some (Obj.map es cl) → w'.heap[k]? = w.heap[k]? := fun k es cl e1 =>
      hrow k _ e1 (fun cs' fz' e => by cases e) (fun e => by rw [e,hb] at e1; unfold draftB at e1; cases e1)
    have hg : ∀ (a : Nat),(∃ es cl,w.heap[a]? = some (Obj.map es cl)) → w'.heap[a]? = w.heap[a]? := fun a ⟨es,cl,e⟩ => hmap a es cl e
    refine ⟨⟨sv',by show w'.heap[c.db]? = some (draftB c sv' (s.out ++ x ++ ((s.out ++ x).drop f).take (t - f)).length); rw [hout]; exact hw',?_⟩,?_,?_,⟨by show (s.out ++ x ++ ((s.out ++ x).drop f).take (t - f)).length ≤ _; rw [hout]; omega,by simp; omega⟩,?_,fun a ha => ?_,fun a ha => ?_,h.ap,h.lo⟩
    · show w'.ownsRow bs _ 3 sv' (s.steps ++ [(x,f,t)]).length (stepsL (s.steps ++ [(x,f,t)]))
      have e1 : stepsL (s.steps ++ [(x,f,t)]) = stepsL s.steps ++ stepL (x,f,t) := by simp [stepsL]
      rw [e1,List.length_append]
      refine ⟨hown.1,?_⟩
      rcases hown.2 with q | ⟨gb,cap,cur,q1,q2,q3,q4⟩
      · exact Or.inl q
      · refine Or.inr ⟨gb,cap,cur,q1,q2,?_,q4⟩
        rw [hk gb (lt_of_block q3) (fun e => ?_)]
        · exact q3
        · have hd : w1.heap[c.db]? = w.heap[c.db]? := g.block c.db (lt_of_block hb) (fun e4 => by
            rcases ho.2 with ⟨rfl,_⟩ | ⟨gb2,cap2,cur2,rfl,_,q5,_⟩
            · simp [Value.ownBlock] at e4
            · simp [Value.ownBlock] at e4
              rw [← e4,hb] at q5
              unfold draftB at q5
              injection q5 with q5
              injection q5 with _ q5 _
              exact absurd q5 (by decide))
          rw [e,hd,hb] at q3
          unfold draftB at q3
          injection q3 with q3
          injection q3 with _ q3 _
          exact absurd q3 (by decide)
    · show runS (s.steps ++ [(x,f,t)]) [] = _
      rw [runS_app,h.run]
      rfl
    · show okS (s.steps ++ [(x,f,t)]) []
      rw [okS_app,h.run]
      exact ⟨h.ok,c1,c2,trivial⟩
    · exact h.st.same (hg _ h.st.isMap)
    · obtain ⟨i,l1,l2⟩ := h.an a ha
      obtain ⟨D,⟨es,clock,q1,q2⟩,q3⟩ := i.mp
      exact ⟨i.same (hcell _ _ _ _ i.mrk (by decide) (by decide)) (hcell _ _ _ _ i.nf (by decide) (by decide)) (hcell _ _ _ _ i.blk (by decide) (by decide)) (hmap _ _ _ q1),l1,l2⟩
    · obtain ⟨i,l1⟩ := h.ow a ha
      exact ⟨i.same (hcell _ _ _ _ i.mrk (by decide) (by decide)) (hcell _ _ _ _ i.nf (by decide) (by decide)) (hcell _ _ _ _ i.blk (by decide) (by decide)) (hg _ i.mp.isMap),l1⟩
  · cases hp
def PUT (c : Dc) (bs : Nat) (s' : Ds) (w : World) (e : Ending) (w' : World) : Prop := e = .returned (.tuple #[]) ∧ DR c bs s' w' ∧ Gb (fun k => bs ≤ k) w w'
theorem info_step : (Tryz.prog.info? 225).map (fun i => (i.zero,i.size,i.bytes)) = some (some (.agg #[.string (B []),.int .i64 0,.int .i64 0]),3,32) := by kernel_rfl
theorem draft_cells {w : World} {c : Dc} {sv : Value} {n : Nat} (h : w.heap[c.db]? = some (draftB c sv n)) : w.cell? ⟨c.db,0,none⟩ = some c.anyV ∧ w.cell? ⟨c.db,1,none⟩ = some c.ownV ∧ w.cell? ⟨c.db,2,none⟩ = some sv ∧ w.cell? ⟨c.db,3,none⟩ = some (.int .i64 (n : Int)) ∧ w.cell? ⟨c.db,4,none⟩ = some (.map (some c.mb)) ∧ w.frozen? ⟨c.db,2,none⟩ = false ∧ w.frozen? ⟨c.db,3,none⟩ = false := by
  simp [World.cell?,World.frozen?,h,draftB]
theorem three_at (w : World) (n : Nat) (hn : w.heap.size = n) (a b c : Value) (t : TypeId) : ∀ (j : Nat) (u : Value),[a,b,c][j]? = some u → (w.alloc (.cells #[a,b,c] t)).cell? (Addr.add ⟨n,0,none⟩ j) = some u := by
  subst hn
  intro j u h
  match j,h with
  | 0,h => simp at h; subst h; simp [go_sem]
  | 1,h => simp at h; subst h; simp [go_sem]
  | 2,h => simp at h; subst h; simp [go_sem]
  | j + 3,h => simp at h
theorem step_one (x : List UInt8) (f t : Nat) : ∀ u,u ∈ stepL (x,f,t) → u.oneCell' = true := by
  intro u hu
  simp [stepL] at hu
  rcases hu with rfl | rfl | rfl <;> rfl
theorem past2 {w : World} {k : Nat} {o1 o2 x : Obj} (h : w.heap[k]? = some x) : ((w.alloc o1).alloc o2).heap[k]? = some x := by
  rw [Below.heap_alloc _ _ _ (by simp; have := lt_of_block h; omega),Below.heap_alloc _ _ _ (lt_of_block h)]
  exact h
theorem row_lt {w : World} {sv : Value} {m bs : Nat} {xs : List Value} {t : TypeId} {k : Nat} (ho : w.ownsRow bs t k sv m xs) : some w.heap.size ≠ sv.ownBlock := fun e => by
  rcases ho.2 with ⟨rfl,_⟩ | ⟨gb,cap,cur,rfl,_,q3,_⟩
  · simp [Value.ownBlock] at e
  · simp [Value.ownBlock] at e
    have := lt_of_block q3
    omega
theorem past1 {w : World} {o2 : Obj} {cs : Array Value} {t : TypeId} : ((w.alloc (.cells cs t)).alloc o2).heap[w.heap.size]? = some (.cells cs t (0,0)) := by
  rw [Below.heap_alloc _ _ _ (by simp)]
  exact heap_alloc_at _ _ _ rfl
theorem three_cells {w : World} {n : Nat} {x y z : Value} {t : TypeId} (h : w.heap[n]? = some (.cells #[x,y,z] t (0,0))) : w.cell? ⟨n,0,none⟩ = some x ∧ w.cell? ⟨n,1,none⟩ = some y ∧ w.cell? ⟨n,2,none⟩ = some z := by simp [World.cell?,h]
theorem draft_ne {w : World} {c : Dc} {sv : Value} {n m bs : Nat} {xs : List Value} (h : w.heap[c.db]? = some (draftB c sv n)) (ho : w.ownsRow bs 225 3 sv m xs) : some c.db ≠ sv.ownBlock := fun e => by
  rcases ho.2 with ⟨rfl,_⟩ | ⟨gb,cap,cur,rfl,_,q3,_⟩
  · simp [Value.ownBlock] at e
  · simp [Value.ownBlock] at e
    rw [← e,h] at q3
    unfold draftB at q3
    injection q3 with q3
    injection q3 with _ q3 _
    exact absurd q3 (by decide)
theorem put_end {c : Dc} {bs : Nat} {s s' : Ds} {w W w7 : World} {x : List UInt8} {f t : Nat} {sv : Value} {g7 cap7 : Nat} (h : DR c bs s w) (hp : putS x f t s = some s') (hb : w.heap[c.db]? = some (draftB c sv s.out.length)) (hown : w.ownsRow bs 225 3 sv s.steps.length (stepsL s.steps))
    (gW : w.grownBy W none) (hown7 : w7.ownsRow bs 225 3 (.slice (some ⟨g7,0,none⟩) (s.steps.length + 1) cap7) (s.steps.length + 1) (stepsL s.steps ++ stepL (x,f,t))) (hg7 : W.grownBy w7 sv.ownBlock) (b7 : w7.heap[c.db]? = some (draftB c sv s.out.length)) :
    PUT c bs s' w (.returned (.tuple #[])) ((w7.setCell ⟨c.db,2,none⟩ (.slice (some ⟨g7,0,none⟩) (s.steps.length + 1) cap7)).setCell ⟨c.db,3,none⟩ (.int .i64 ((s.out.length : Int) + ((x.length : Int) + (t : Int) - (f : Int))))).drew := by
  have g : w.grownBy w7 sv.ownBlock := ⟨hg7.os.trans gW.os,hg7.tape.trans gW.tape,hg7.output.trans gW.output,Nat.le_trans gW.size hg7.size,fun k hk hn => by rw [hg7.block k (Nat.lt_of_lt_of_le hk gW.size) hn,gW.block k hk (by simp)]⟩
  have hft : f ≤ t := by
    unfold putS at hp
    split at hp
    · omega
    · cases hp
  refine ⟨rfl,h.put hp hb g hown7 hown ?_ (fun k hk hn => ?_),?_⟩
  · show ((w7.setCell _ _).setCell _ _).heap[c.db]? = _
    have e : ((s.out.length : Int) + ((x.length : Int) + (t : Int) - (f : Int))) = ((s.out.length + (x.length + (t - f)) : Nat) : Int) := by omega
    rw [e]
    simp [World.setCell,Array.getElem?_modify,b7,draftB]
  · show ((w7.setCell _ _).setCell _ _).heap[k]? = _
    rw [Below.heap_setCell _ _ _ _ hn,Below.heap_setCell _ _ _ _ hn]
  · have g1 : Gb (fun k => bs ≤ k) w w7 := Gb.of g (fun b e => Or.inl (by
      rcases hown.2 with ⟨rfl,_⟩ | ⟨gb,cap,cur,rfl,q2,_⟩
      · cases e
      · simp [Value.ownBlock] at e
        rw [← e]; exact q2))
    exact ((g1.set (Or.inl h.lo.1) 2 _).set (Or.inl h.lo.1) 3 _).drew
theorem put_any {c : Dc} {bs : Nat} {s s' : Ds} {w : World} {x : List UInt8} {f t : Nat} (h : DR c bs s w) (hp : putS x f t s = some s') (hbs : bs ≤ w.heap.size) :
    Calls Tryz.prog 130 #[CP c.db,stepA (x,f,t)] w (PUT c bs s' w) := by
  obtain ⟨sv,hb,hown⟩ := h.blk
  obtain ⟨_,_,c2,c3,_,f2,f3⟩ := draft_cells hb
  have hdl := lt_of_block hb
  have Q := hid (And.intro h (And.intro hp (And.intro hb (And.intro hown (draft_ne hb hown)))))
  have hn : s.out.length ≤ 100000 ∧ s.steps.length < 100000 ∧ f ≤ t ∧ t ≤ 100000 ∧ x.length ≤ 100000 := by
    unfold putS at hp
    split at hp
    · omega
    · cases hp
  obtain ⟨hn1,hn2,hn3,hn4,hn5⟩ := hn
  obtain ⟨i0,hi,hz0,hz1,hz2⟩ := info_parts info_step
  clear h hp hb
  unfold CP stepA
  go_enter Tryz.func130,Tryz.ntmps130
  go_wp2_with fail
  have NR := hid (row_lt hown)
  have hsz : (B x).size = x.length := size_B x
  have hm1 : s.steps.length + 1 ≤ maxLen := by unfold maxLen; omega
  have hm2 : (s.steps.length + 1) * 32 ≤ 140737488355328 := by omega
  have hm3 : (w.alloc (.cells #[.string (B x),.int .i64 (f : Int),.int .i64 (t : Int)] 225)).heap.size = w.heap.size + 1 := by simp
  go_region_law (refine step_append_lies _ rfl (.tmp 9) (.tmp 11) 214 rfl bs 225 i0 (.agg #[.string (B []),.int .i64 0,.int .i64 0]) 3 32 Tryz.underlying214 hi hz0 hz1 hz2 rfl (by decide) sv s.steps.length (stepsL s.steps) rfl (((hown.alloc _).alloc _)) ⟨w.heap.size + 1,0,none⟩ 1 1 (stepL (x,f,t)) rfl rfl (three_at _ _ hm3 _ _ _ _) (step_one x f t) (by decide) hm1 hm2 (by simp; omega) (w.heap.size + 2) (by simp) ?_; intro g7 cap7 w7 hown7 hgrow7 hat7 _; have b7 := (hgrow7.block c.db (by simp; omega) Q.out.2.2.2.2).trans (past2 Q.out.2.2.1); obtain ⟨_,_,x2,x3,_,y2,y3⟩ := draft_cells b7; obtain ⟨z0,z1,z2⟩ := three_cells ((hgrow7.block w.heap.size (by simp; omega) NR.out).trans past1); have R7 := hid (And.intro hown7 (And.intro hgrow7 (And.intro hat7 b7))); clear hown7 hgrow7 hat7 b7)
  all_goals
    go_wp2_with fail
    go_region
    go_wp2
    first | go_end0 | skip
    exact put_end Q.out.1 Q.out.2.1 Q.out.2.2.1 Q.out.2.2.2.1 (grown_drew ((World.grownBy_alloc _ _ none).trans (World.grownBy_alloc _ _ none))) R7.out.1 R7.out.2.1 R7.out.2.2.2
end Go.Proofs.YtcdijppegfcoaabGreatDoor
