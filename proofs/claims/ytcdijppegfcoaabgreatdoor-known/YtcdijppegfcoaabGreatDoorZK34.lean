import Derived.Test.YtcdijppegfcoaabGreatDoorZK30
import Derived.Test.YtcdijppegfcoaabGreatDoorZK32
import Derived.Test.YtcdijppegfcoaabGreatDoorZK33
set_option maxRecDepth 100000
set_option maxHeartbeats 2000000
namespace Go.Proofs.YtcdijppegfcoaabGreatDoor
open Go.RowKit
theorem fun_e0 {C : TC} {ad : Nat → Addr} {P : Ex → List (List UInt8 × Et) → Sto → Option (Sum Nat (Sto × Nat))} (hP : PAE C ad P) {e : Ex} {u dep : Value} {p : List UInt8} {b m : Nat} {σ : Sto} {nb : List (List UInt8 × Et)} {H : Nat → Option Obj} {ca : List Nat} {d : Nat → Nat} {nv : Value} {vs : List NE} {w : World} {σ1 : Sto} {c0 : Nat} {σ2 σ3 : Sto} {c2 c3 : Nat}
    (hb : H b = some (.cells #[dep,.string (B p),u] 180 (0,0))) (hp : PRep m H u e) (e1 : ofT none σ = some (σ1,c0)) (hl : nb.length + 1 ≤ 1000) (e2 : P e (nb ++ [(p,cT c0)]) σ1 = some (.inr (σ2,c2))) (i3 : ofT (some ⟨kFun,[],0,[cT c0,cT c2]⟩) σ2 = some (σ3,c3)) (h : TSv C H ca σ d nb nv vs w) (hgl : GLb C.base ad w) :
    Calls Tryz.prog 154 #[CP C.tb,.pointer (some ⟨b,0,none⟩)] w (TSE C ad H ca (.inr (σ3,c3)) nb w) := by
  obtain ⟨T0,b0,rfl⟩ := hp.val
  have CO := hid (h.of (o := none) (Or.inl ⟨rfl,rfl⟩) e1)
  have Q := hid (And.intro hb (And.intro hp (And.intro e2 (And.intro hl (And.intro hP hgl)))))
  have I3 := hid i3
  have hfz := h.ms.cs.fz
  have hbw := hfz _ _ hb
  have hbl := lt_of_block hbw
  have hbt : b ≠ C.tb := fun e => by rw [e] at hb; rw [h.ms.ht] at hb; cases hb
  have hba : ¬ InAs ca b := fun hm => by rw [h.ms.cs.off b hm] at hb; cases hb
  clear hp hb e2 hl hP h hfz e1 hgl i3
  unfold CP at *
  go_enter Tryz.func154,Tryz.ntmps154
  go_wp2_with fail
  refine CO.out.mono ?_
  rintro e w1 ⟨x0,rfl,ex0,t1,mx1,g1⟩
  have hb1 : w1.heap[b]? = some (.cells #[dep,.string (B p),.iface T0 (.pointer (some ⟨b0,0,none⟩))] 180 (0,0)) := t1.ms.cs.fz _ _ Q.out.1
  have k1 := blk_c hb1 1 rfl
  have k2 := blk_c hb1 2 rfl
  have hl1 := lt_of_block hb1
  have gW : w1.grownBy (w1.alloc (.cells #[.string (B p),CI x0] 338)).drew none := grown_drew (World.grownBy_alloc _ _ _)
  have CW := hid (within_e (nbs := [(p,cT c0)]) (nws := [((p,173,x0) : List UInt8 × TypeId × Nat)]) (gm := w1.heap.size) (capm := 1) Q.out.2.2.2.2.1 Q.out.2.1 Q.out.2.2.1 (Q.out.2.2.2.2.2.gb (g1.tr (Gb.new gW))) (t1.grown gW) rfl (Nat.zero_lt_succ _) Q.out.2.2.2.1 (World.news_of_block (w := (w1.alloc (.cells #[.string (B p),CI x0] 338)).drew) (heap_alloc_new w1 _)) (fun i p' q e1 e2 => by
      cases i with
      | zero => cases e1; cases e2; exact ⟨rfl,1,er_cell ex0⟩
      | succ i => cases e1))
  have E0 := hid (And.intro ex0 (And.intro mx1 (And.intro g1 gW)))
  clear ex0 t1 mx1 g1 CO gW
  unfold CI CP at *
  go_wp2_with fail
  go_region_with (go_at_call 157; refine CW.out.mono ?_; rintro e w3 ⟨H3,ca3,d3,x2,nv3,vs3,rfl,ex2,t3,mx3,g3⟩; have Q3 := hid (And.intro ex2 (And.intro t3 (And.intro mx3 g3))); clear ex2 t3 mx3 g3; unfold CP at *)
  all_goals
    obtain ⟨ex2,t3,mx3,g3⟩ := Q3.out
    have CM := hid ((t3.made (cs := #[CI x0,CI x2]) (T := 211) (or_arrow (get_pre mx3.pre E0.out.1) ex2 onto1_at) I3.out).mono fun e w9 h9 => TSP.low (H := H) (ca := ca) (w := w) h9 ((E0.out.2.1.trans mx3 (Nat.le_trans E0.out.2.2.1.size E0.out.2.2.2.size))) ((E0.out.2.2.1.tr (Gb.new E0.out.2.2.2)).tr g3))
    clear ex2 t3 mx3 g3 Q3 CW E0
    unfold CI CP at *
    go_wp2_with fail
    refine CM.out.mono ?_
    rintro e w9 h9
    have H9 := hid h9
    obtain ⟨_,_,_,x9,_,_,rfl,_⟩ := h9
    clear CM
    unfold CP at *
    go_wp2
    go_ret
    exact H9.out
theorem fun_e1 {C : TC} {ad : Nat → Addr} {P : Ex → List (List UInt8 × Et) → Sto → Option (Sum Nat (Sto × Nat))} (hP : PAE C ad P) {e : Ex} {u dep : Value} {p : List UInt8} {b m : Nat} {σ : Sto} {nb : List (List UInt8 × Et)} {H : Nat → Option Obj} {ca : List Nat} {d : Nat → Nat} {nv : Value} {vs : List NE} {w : World} {σ1 : Sto} {c0 : Nat} {q : Nat}
    (hb : H b = some (.cells #[dep,.string (B p),u] 180 (0,0))) (hp : PRep m H u e) (e1 : ofT none σ = some (σ1,c0)) (hl : nb.length + 1 ≤ 1000) (e2 : P e (nb ++ [(p,cT c0)]) σ1 = some (.inl q)) (h : TSv C H ca σ d nb nv vs w) (hgl : GLb C.base ad w) :
    Calls Tryz.prog 154 #[CP C.tb,.pointer (some ⟨b,0,none⟩)] w (TSE C ad H ca (.inl q) nb w) := by
  obtain ⟨T0,b0,rfl⟩ := hp.val
  have CO := hid (h.of (o := none) (Or.inl ⟨rfl,rfl⟩) e1)
  have Q := hid (And.intro hb (And.intro hp (And.intro e2 (And.intro hl (And.intro hP hgl)))))
  have hfz := h.ms.cs.fz
  have hbw := hfz _ _ hb
  have hbl := lt_of_block hbw
  have hbt : b ≠ C.tb := fun e => by rw [e] at hb; rw [h.ms.ht] at hb; cases hb
  have hba : ¬ InAs ca b := fun hm => by rw [h.ms.cs.off b hm] at hb; cases hb
  clear hp hb e2 hl hP h hfz e1 hgl
  unfold CP at *
  go_enter Tryz.func154,Tryz.ntmps154
  go_wp2_with fail
  refine CO.out.mono ?_
  rintro e w1 ⟨x0,rfl,ex0,t1,mx1,g1⟩
  have hb1 : w1.heap[b]? = some (.cells #[dep,.string (B p),.iface T0 (.pointer (some ⟨b0,0,none⟩))] 180 (0,0)) := t1.ms.cs.fz _ _ Q.out.1
  have k1 := blk_c hb1 1 rfl
  have k2 := blk_c hb1 2 rfl
  have hl1 := lt_of_block hb1
  have gW : w1.grownBy (w1.alloc (.cells #[.string (B p),CI x0] 338)).drew none := grown_drew (World.grownBy_alloc _ _ _)
  have CW := hid (within_e (nbs := [(p,cT c0)]) (nws := [((p,173,x0) : List UInt8 × TypeId × Nat)]) (gm := w1.heap.size) (capm := 1) Q.out.2.2.2.2.1 Q.out.2.1 Q.out.2.2.1 (Q.out.2.2.2.2.2.gb (g1.tr (Gb.new gW))) (t1.grown gW) rfl (Nat.zero_lt_succ _) Q.out.2.2.2.1 (World.news_of_block (w := (w1.alloc (.cells #[.string (B p),CI x0] 338)).drew) (heap_alloc_new w1 _)) (fun i p' q e1 e2 => by
      cases i with
      | zero => cases e1; cases e2; exact ⟨rfl,1,er_cell ex0⟩
      | succ i => cases e1))
  have E0 := hid (And.intro ex0 (And.intro mx1 (And.intro g1 gW)))
  clear ex0 t1 mx1 g1 CO gW
  unfold CI CP at *
  go_wp2_with fail
  go_region_with (go_at_call 157; refine CW.out.mono ?_; rintro e w3 ⟨rfl,g3⟩; have Q9 := hid ((E0.out.2.2.1.tr (Gb.new E0.out.2.2.2)).tr g3); clear g3; unfold fltE errV; refine by_end w ⟨rfl,rfl,Q9.out⟩ ?_)
  all_goals trivial
theorem findpair_e0 {C : TC} {ad : Nat → Addr} {P : Ex → List (List UInt8 × Et) → Sto → Option (Sum Nat (Sto × Nat))} (hP : PAE C ad P) {e1 e2 : Ex} {u1 u2 dep : Value} {b m : Nat} {σ : Sto} {nb : List (List UInt8 × Et)} {H : Nat → Option Obj} {ca : List Nat} {d : Nat → Nat} {nv : Value} {vs : List NE} {w : World} {σ1 : Sto} {c1 : Nat} {σ2 σ3 : Sto} {c2 c3 : Nat}
    (hb : H b = some (.cells #[dep,u1,u2] 200 (0,0))) (hp1 : PRep m H u1 e1) (hp2 : PRep m H u2 e2) (i1 : P e1 nb σ = some (.inr (σ1,c1))) (i2 : P e2 nb σ1 = some (.inr (σ2,c2))) (i3 : ofT (some ⟨oPair,[],0,[cT c1,cT c2]⟩) σ2 = some (σ3,c3)) (h : TSv C H ca σ d nb nv vs w) (hgl : GLb C.base ad w) :
    Calls Tryz.prog 120 #[CP C.tb,.iface 198 (.pointer (some ⟨b,0,none⟩))] w (TSE C ad H ca (.inr (σ3,c3)) nb w) := by
  obtain ⟨T1,b1,rfl⟩ := hp1.val
  obtain ⟨T2,b2,rfl⟩ := hp2.val
  have C1 := hid (hP e1 _ m σ nb _ H ca d nv vs w hp1 i1 h hgl)
  have hbw := h.ms.cs.fz _ _ hb
  have k1 := blk_c hbw 1 rfl
  have Q := hid (And.intro hb (And.intro hp2 (And.intro hgl hP)))
  have a0 := xA_Pair_Name b
  have a1 := xA_Pair_Fun b
  have a2 := xA_Pair_If b
  have a3 := xA_Pair_Let b
  have a4 := xA_Pair_LetRec b
  have a5 := xA_Pair_Apply b
  have a6 := xA_Pair_Pair b
  have I2 := hid i2
  have I3 := hid i3
  clear hP hb hp1 hp2 i1 h hbw hgl i2 i3
  unfold CP at *
  go_enter Tryz.func120,Tryz.ntmps120
  go_wp2_with fail
  refine C1.out.mono ?_
  rintro e w1 ⟨H1,ca1,d1,x1,nv1,vs1,rfl,ex1,t1,mx1,g1⟩
  have hb1 := mx1.ext _ _ Q.out.1
  have hbw1 := t1.ms.cs.fz _ _ hb1
  have k2 := blk_c hbw1 2 rfl
  have hbl1 := lt_of_block hbw1
  have CB := hid (Q.out.2.2.2 e2 _ m σ1 nb _ H1 ca1 d1 nv1 vs1 w1.drew (mx1.prep Q.out.2.1) I2.out t1.drew ((Q.out.2.2.1.gb g1).gb (Gb.refl _ w1).drew))
  have Q1 := hid (And.intro ex1 (And.intro mx1 g1))
  clear ex1 t1 mx1 g1 C1 hb1 hbw1
  unfold CP at *
  go_wp2_with fail
  go_region_with (first
    | (go_at_call 75; refine CB.out.mono ?_; rintro e w2 ⟨H2,ca2,d2,x2,nv2,vs2,rfl,ex2,t2,mx2,g2⟩; have CM := hid ((t2.made (cs := #[CI x1,CI x2]) (T := 319) (or_pair (get_pre mx2.pre Q1.out.1) ex2 onto1_at) I3.out).mono fun e w9 h9 => TSP.low (H := H) (ca := ca) (w := w) h9 (Q1.out.2.1.trans mx2 Q1.out.2.2.size) (Q1.out.2.2.tr g2.drewL)); clear ex2 t2 mx2 g2; unfold CI CP at *)
    | (go_at_call 160; refine CM.out.mono ?_; rintro e w9 h9; have H9 := hid h9; obtain ⟨_,_,_,x9,_,_,rfl,_⟩ := h9; unfold CP at *))
  all_goals go_wp2
  all_goals go_ret
  all_goals exact H9.out
theorem findpair_e1 {C : TC} {ad : Nat → Addr} {P : Ex → List (List UInt8 × Et) → Sto → Option (Sum Nat (Sto × Nat))} (hP : PAE C ad P) {e1 e2 : Ex} {u1 u2 dep : Value} {b m : Nat} {σ : Sto} {nb : List (List UInt8 × Et)} {H : Nat → Option Obj} {ca : List Nat} {d : Nat → Nat} {nv : Value} {vs : List NE} {w : World} {q : Nat}
    (hb : H b = some (.cells #[dep,u1,u2] 200 (0,0))) (hp1 : PRep m H u1 e1) (hp2 : PRep m H u2 e2) (i1 : P e1 nb σ = some (.inl q)) (h : TSv C H ca σ d nb nv vs w) (hgl : GLb C.base ad w) :
    Calls Tryz.prog 120 #[CP C.tb,.iface 198 (.pointer (some ⟨b,0,none⟩))] w (TSE C ad H ca (.inl q) nb w) := by
  obtain ⟨T1,b1,rfl⟩ := hp1.val
  obtain ⟨T2,b2,rfl⟩ := hp2.val
  have C1 := hid (hP e1 _ m σ nb _ H ca d nv vs w hp1 i1 h hgl)
  have hbw := h.ms.cs.fz _ _ hb
  have k1 := blk_c hbw 1 rfl
  have Q := hid (And.intro hb (And.intro hp2 (And.intro hgl hP)))
  have a0 := xA_Pair_Name b
  have a1 := xA_Pair_Fun b
  have a2 := xA_Pair_If b
  have a3 := xA_Pair_Let b
  have a4 := xA_Pair_LetRec b
  have a5 := xA_Pair_Apply b
  have a6 := xA_Pair_Pair b
  clear hP hb hp1 hp2 i1 h hbw hgl
  unfold CP at *
  go_enter Tryz.func120,Tryz.ntmps120
  go_wp2_with fail
  refine C1.out.mono ?_
  rintro e w1 ⟨rfl,g1⟩
  have Q9 := hid g1
  clear g1 C1
  unfold fltE errV
  go_wp2
  exact ⟨rfl,rfl,Q9.out⟩
theorem findpair_e2 {C : TC} {ad : Nat → Addr} {P : Ex → List (List UInt8 × Et) → Sto → Option (Sum Nat (Sto × Nat))} (hP : PAE C ad P) {e1 e2 : Ex} {u1 u2 dep : Value} {b m : Nat} {σ : Sto} {nb : List (List UInt8 × Et)} {H : Nat → Option Obj} {ca : List Nat} {d : Nat → Nat} {nv : Value} {vs : List NE} {w : World} {q : Nat} {σ1 : Sto} {c1 : Nat}
    (hb : H b = some (.cells #[dep,u1,u2] 200 (0,0))) (hp1 : PRep m H u1 e1) (hp2 : PRep m H u2 e2) (i1 : P e1 nb σ = some (.inr (σ1,c1))) (i2 : P e2 nb σ1 = some (.inl q)) (h : TSv C H ca σ d nb nv vs w) (hgl : GLb C.base ad w) :
    Calls Tryz.prog 120 #[CP C.tb,.iface 198 (.pointer (some ⟨b,0,none⟩))] w (TSE C ad H ca (.inl q) nb w) := by
  obtain ⟨T1,b1,rfl⟩ := hp1.val
  obtain ⟨T2,b2,rfl⟩ := hp2.val
  have C1 := hid (hP e1 _ m σ nb _ H ca d nv vs w hp1 i1 h hgl)
  have hbw := h.ms.cs.fz _ _ hb
  have k1 := blk_c hbw 1 rfl
  have Q := hid (And.intro hb (And.intro hp2 (And.intro hgl hP)))
  have a0 := xA_Pair_Name b
  have a1 := xA_Pair_Fun b
  have a2 := xA_Pair_If b
  have a3 := xA_Pair_Let b
  have a4 := xA_Pair_LetRec b
  have a5 := xA_Pair_Apply b
  have a6 := xA_Pair_Pair b
  have I2 := hid i2
  clear hP hb hp1 hp2 i1 h hbw hgl i2
  unfold CP at *
  go_enter Tryz.func120,Tryz.ntmps120
  go_wp2_with fail
  refine C1.out.mono ?_
  rintro e w1 ⟨H1,ca1,d1,x1,nv1,vs1,rfl,ex1,t1,mx1,g1⟩
  have hb1 := mx1.ext _ _ Q.out.1
  have hbw1 := t1.ms.cs.fz _ _ hb1
  have k2 := blk_c hbw1 2 rfl
  have hbl1 := lt_of_block hbw1
  have CB := hid (Q.out.2.2.2 e2 _ m σ1 nb _ H1 ca1 d1 nv1 vs1 w1.drew (mx1.prep Q.out.2.1) I2.out t1.drew ((Q.out.2.2.1.gb g1).gb (Gb.refl _ w1).drew))
  have Q1 := hid (And.intro ex1 (And.intro mx1 g1))
  clear ex1 t1 mx1 g1 C1 hb1 hbw1
  unfold CP at *
  go_wp2_with fail
  go_region_with (go_at_call 75; refine CB.out.mono ?_; rintro e w2 ⟨rfl,g2⟩; have Q9 := hid (Q1.out.2.2.tr g2.drewL); clear g2; unfold fltE errV; refine by_end w ⟨rfl,rfl,Q9.out⟩ ?_)
  all_goals trivial
def letE (P : Ex → List (List UInt8 × Et) → Sto → Option (Sum Nat (Sto × Nat))) (p : List UInt8) (v b : Ex) (nb : List (List UInt8 × Et)) (σ : Sto) : Option (Sum Nat (Sto × Nat)) :=
  andE (P v nb σ) fun σ1 c1 => match reachS σ1 nb with
    | none => none
    | some L => match generalU σ1 L 400 c1 with
      | none => none
      | some t => withE P b nb [(p,t)] σ1
def findE (P : Ex → List (List UInt8 × Et) → Sto → Option (Sum Nat (Sto × Nat))) (ge : List (List UInt8 × Et)) (most : Nat) (e : Ex) (nb : List (List UInt8 × Et)) (σ : Sto) : Option (Sum Nat (Sto × Nat)) :=
  if e.op = kName then (match e.names with | [nm] => liftE (nameT ge nm nb σ) | _ => none)
  else if e.op = kFun then (match e.names,e.kids with | [p],[b] => funE P p b nb σ | _,_ => none)
  else if e.op = kIf then (match e.kids with | [a,b,c] => ifE P a b c nb σ | _ => none)
  else if e.op = kLet then (match e.names,e.kids with | [p],[v,b] => letE P p v b nb σ | _,_ => none)
  else if e.op = kRec then (match e.kids.getLast? with | some b => if e.names.length ≤ 1000 then recE P most e.names e.kids.dropLast b nb σ else none | none => none)
  else if e.op = oApp then (match e.kids with | [a,b] => applyE P a b nb σ | _ => none)
  else if e.op = oPair then (match e.kids with | [a,b] => pairE P a b nb σ | _ => none)
  else if e.op = kNum then liftE (ofT (some ⟨kInt,[],0,[]⟩) σ)
  else none
def partE (ge : List (List UInt8 × Et)) (most : Nat) : Nat → Ex → List (List UInt8 × Et) → Sto → Option (Sum Nat (Sto × Nat))
  | 0,_,_,_ => none
  | f + 1,e,nb,σ => sizeE (findE (partE ge most f) ge most e nb σ)
theorem findk_Fun {C : TC} {ad : Nat → Addr} {H : Nat → Option Obj} {ca : List Nat} {nb : List (List UInt8 × Et)} {w : World} {b : Nat} {r : Sum Nat (Sto × Nat)} (CF0 : Calls Tryz.prog 154 #[CP C.tb,.pointer (some ⟨b,0,none⟩)] w (TSE C ad H ca r nb w)) :
    Calls Tryz.prog 120 #[CP C.tb,.iface 178 (.pointer (some ⟨b,0,none⟩))] w (TSE C ad H ca r nb w) := by
  have CF := hid CF0
  have a0 := xA_Fun_Name b
  have a1 := xA_Fun_Fun b
  clear CF0
  unfold CP at *
  cases r with
  | inl q =>
    go_enter Tryz.func120,Tryz.ntmps120
    go_wp2_with fail
    refine CF.out.mono ?_
    rintro e w9 ⟨rfl,g9⟩
    have Q9 := hid g9
    clear g9 CF
    unfold fltE errV
    go_wp2
    exact ⟨rfl,rfl,Q9.out⟩
  | inr y =>
    go_enter Tryz.func120,Tryz.ntmps120
    go_wp2_with fail
    refine CF.out.mono ?_
    rintro e w9 h9
    have H9 := hid h9
    obtain ⟨_,_,_,x9,_,_,rfl,_⟩ := h9
    clear CF
    unfold CP at *
    go_wp2
    go_ret
    exact H9.out
theorem findk_If {C : TC} {ad : Nat → Addr} {H : Nat → Option Obj} {ca : List Nat} {nb : List (List UInt8 × Et)} {w : World} {b : Nat} {r : Sum Nat (Sto × Nat)} (CF0 : Calls Tryz.prog 155 #[CP C.tb,.pointer (some ⟨b,0,none⟩)] w (TSE C ad H ca r nb w)) :
    Calls Tryz.prog 120 #[CP C.tb,.iface 181 (.pointer (some ⟨b,0,none⟩))] w (TSE C ad H ca r nb w) := by
  have CF := hid CF0
  have a0 := xA_If_Name b
  have a1 := xA_If_Fun b
  have a2 := xA_If_If b
  clear CF0
  unfold CP at *
  cases r with
  | inl q =>
    go_enter Tryz.func120,Tryz.ntmps120
    go_wp2_with fail
    refine CF.out.mono ?_
    rintro e w9 ⟨rfl,g9⟩
    have Q9 := hid g9
    clear g9 CF
    unfold fltE errV
    go_wp2
    exact ⟨rfl,rfl,Q9.out⟩
  | inr y =>
    go_enter Tryz.func120,Tryz.ntmps120
    go_wp2_with fail
    refine CF.out.mono ?_
    rintro e w9 h9
    have H9 := hid h9
    obtain ⟨_,_,_,x9,_,_,rfl,_⟩ := h9
    clear CF
    unfold CP at *
    go_wp2
    go_ret
    exact H9.out
theorem findk_Let {C : TC} {ad : Nat → Addr} {H : Nat → Option Obj} {ca : List Nat} {nb : List (List UInt8 × Et)} {w : World} {b : Nat} {r : Sum Nat (Sto × Nat)} (CF0 : Calls Tryz.prog 156 #[CP C.tb,.pointer (some ⟨b,0,none⟩)] w (TSE C ad H ca r nb w)) :
    Calls Tryz.prog 120 #[CP C.tb,.iface 184 (.pointer (some ⟨b,0,none⟩))] w (TSE C ad H ca r nb w) := by
  have CF := hid CF0
  have a0 := xA_Let_Name b
  have a1 := xA_Let_Fun b
  have a2 := xA_Let_If b
  have a3 := xA_Let_Let b
  clear CF0
  unfold CP at *
  cases r with
  | inl q =>
    go_enter Tryz.func120,Tryz.ntmps120
    go_wp2_with fail
    refine CF.out.mono ?_
    rintro e w9 ⟨rfl,g9⟩
    have Q9 := hid g9
    clear g9 CF
    unfold fltE errV
    go_wp2
    exact ⟨rfl,rfl,Q9.out⟩
  | inr y =>
    go_enter Tryz.func120,Tryz.ntmps120
    go_wp2_with fail
    refine CF.out.mono ?_
    rintro e w9 h9
    have H9 := hid h9
    obtain ⟨_,_,_,x9,_,_,rfl,_⟩ := h9
    clear CF
    unfold CP at *
    go_wp2
    go_ret
    exact H9.out
theorem findk_Apply {C : TC} {ad : Nat → Addr} {H : Nat → Option Obj} {ca : List Nat} {nb : List (List UInt8 × Et)} {w : World} {b : Nat} {r : Sum Nat (Sto × Nat)} (CF0 : Calls Tryz.prog 159 #[CP C.tb,.pointer (some ⟨b,0,none⟩)] w (TSE C ad H ca r nb w)) :
    Calls Tryz.prog 120 #[CP C.tb,.iface 195 (.pointer (some ⟨b,0,none⟩))] w (TSE C ad H ca r nb w) := by
  have CF := hid CF0
  have a0 := xA_Apply_Name b
  have a1 := xA_Apply_Fun b
  have a2 := xA_Apply_If b
  have a3 := xA_Apply_Let b
  have a4 := xA_Apply_LetRec b
  have a5 := xA_Apply_Apply b
  clear CF0
  unfold CP at *
  cases r with
  | inl q =>
    go_enter Tryz.func120,Tryz.ntmps120
    go_wp2_with fail
    refine CF.out.mono ?_
    rintro e w9 ⟨rfl,g9⟩
    have Q9 := hid g9
    clear g9 CF
    unfold fltE errV
    go_wp2
    exact ⟨rfl,rfl,Q9.out⟩
  | inr y =>
    go_enter Tryz.func120,Tryz.ntmps120
    go_wp2_with fail
    refine CF.out.mono ?_
    rintro e w9 h9
    have H9 := hid h9
    obtain ⟨_,_,_,x9,_,_,rfl,_⟩ := h9
    clear CF
    unfold CP at *
    go_wp2
    go_ret
    exact H9.out
end Go.Proofs.YtcdijppegfcoaabGreatDoor
