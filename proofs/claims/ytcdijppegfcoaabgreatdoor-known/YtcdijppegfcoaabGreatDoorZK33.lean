import Derived.Test.YtcdijppegfcoaabGreatDoorZK30
set_option maxRecDepth 100000
set_option maxHeartbeats 2000000
namespace Go.Proofs.YtcdijppegfcoaabGreatDoor
open Go.RowKit
def BoolP (C : TC) (H : Nat → Option Obj) (ca : List Nat) (σ2 : Sto) (c1 c2 x1 : Nat) (nb : List (List UInt8 × Et)) (w : World) (e : Ending) (w' : World) : Prop := ∃ H2 ca2 d2 x2 nv2 vs2,e = .returned (CP x2) ∧ ca2[c2]? = some x2 ∧ ca2[c1]? = some x1 ∧ TSv C H2 ca2 σ2 d2 nb nv2 vs2 w' ∧ MX H H2 ca ca2 w ∧ Gb C.own w w'
theorem or_bool {H : Nat → Option Obj} {ca : List Nat} {p : Nat} (hp : H p = some (.cells #[.string (B kBool)] 277 (0,0))) : ORep H ca (some ⟨kBool,[],0,[]⟩) (.iface 275 (.pointer (some ⟨p,0,none⟩))) :=
  Or.inr ⟨_,rfl,by decide,by decide,(fun k hk => by cases hk),⟨p,Or.inr (Or.inr (Or.inl ⟨Or.inr rfl,rfl,rfl,hp⟩))⟩⟩
theorem bool_A {C : TC} {H H1 : Nat → Option Obj} {ca ca1 : List Nat} {σ1 σ2 : Sto} {d1 : Nat → Nat} {nb : List (List UInt8 × Et)} {nv1 : Value} {vs1 : List NE} {w w1 : World} {c1 c2 x1 : Nat} (t1 : TSv C H1 ca1 σ1 d1 nb nv1 vs1 w1) (mx1 : MX H H1 ca ca1 w) (g1 : Gb C.own w w1) (ex1 : ca1[c1]? = some x1) (i2 : ofT (some ⟨kBool,[],0,[]⟩) σ1 = some (σ2,c2)) :
    Calls Tryz.prog 160 #[CP C.tb,.iface 275 (.pointer (some ⟨w1.heap.size,0,none⟩))] (w1.alloc (.cells #[.string (B kBool)] 277)) (BoolP C H ca σ2 c1 c2 x1 nb w) := by
  refine (t1.made (cs := #[.string (B kBool)]) (T := 277) (or_bool onto1_at) i2).mono ?_
  rintro e w2 ⟨H2,ca2,d2,x2,nv2,vs2,rfl,ex2,t2,mx2,g2⟩
  exact ⟨H2,ca2,d2,x2,nv2,vs2,rfl,ex2,get_pre mx2.pre ex1,t2,mx1.trans mx2 g1.size,g1.tr g2⟩
theorem bool_B {C : TC} {H H1 : Nat → Option Obj} {ca ca1 : List Nat} {σ1 σ2 : Sto} {d1 : Nat → Nat} {nb : List (List UInt8 × Et)} {nv1 : Value} {vs1 : List NE} {w w1 : World} {c1 c2 x1 p : Nat} (t1 : TSv C H1 ca1 σ1 d1 nb nv1 vs1 w1) (mx1 : MX H H1 ca ca1 w) (g1 : Gb C.own w w1) (ex1 : ca1[c1]? = some x1) (hp : H1 p = some (.cells #[.string (B kBool)] 277 (0,0))) (i2 : ofT (some ⟨kBool,[],0,[]⟩) σ1 = some (σ2,c2)) :
    Calls Tryz.prog 160 #[CP C.tb,.iface 275 (.pointer (some ⟨p,0,none⟩))] w1 (BoolP C H ca σ2 c1 c2 x1 nb w) := by
  refine (t1.of (or_bool hp) i2).mono ?_
  rintro e w2 ⟨a,rfl,ex2,t2,mx2,g2⟩
  exact ⟨H1,ca1 ++ [a],d1,a,nv1,vs1,rfl,ex2,get_pre mx2.pre ex1,t2,mx1.trans mx2 g1.size,g1.tr g2⟩
theorem choice_e0 {C : TC} {ad : Nat → Addr} {P : Ex → List (List UInt8 × Et) → Sto → Option (Sum Nat (Sto × Nat))} (hP : PAE C ad P) {e1 e2 e3 : Ex} {u1 u2 u3 dep : Value} {b m : Nat} {σ : Sto} {nb : List (List UInt8 × Et)} {H : Nat → Option Obj} {ca : List Nat} {d : Nat → Nat} {nv : Value} {vs : List NE} {w : World} {σ1 σ2 : Sto} {c1 c2 : Nat} {σ3 : Sto} {σ4 : Sto} {c4 : Nat} {σ5 : Sto} {c5 : Nat} {σ6 : Sto}
    (hb : H b = some (.cells #[dep,u1,u2,u3] 183 (0,0))) (hp1 : PRep m H u1 e1) (hp2 : PRep m H u2 e2) (hp3 : PRep m H u3 e3) (i1 : P e1 nb σ = some (.inr (σ1,c1))) (i2 : ofT (some ⟨kBool,[],0,[]⟩) σ1 = some (σ2,c2)) (i3 : equalS c1 c2 σ2 = some (some σ3)) (i4 : P e2 nb σ3 = some (.inr (σ4,c4))) (i5 : P e3 nb σ4 = some (.inr (σ5,c5))) (i6 : equalS c4 c5 σ5 = some (some σ6)) (h : TSv C H ca σ d nb nv vs w) (hgl : GLb C.base ad w) :
    Calls Tryz.prog 155 #[CP C.tb,.pointer (some ⟨b,0,none⟩)] w (TSE C ad H ca (.inr (σ6,c4)) nb w) := by
  obtain ⟨T1,b1,rfl⟩ := hp1.val
  obtain ⟨T2,b2,rfl⟩ := hp2.val
  obtain ⟨T3,b3,rfl⟩ := hp3.val
  have hbx := h.box #[.string (B kBool)] 277
  have gbx : w.grownBy (w.alloc (.cells #[.string (B kBool)] 277)).drew none := grown_drew (World.grownBy_alloc _ _ _)
  have CA := hid (hP e1 _ m σ nb _ H ca d nv vs w.drew hp1 i1 h.drew (hgl.gb (Gb.refl _ w).drew))
  have CB := hid (hP e1 _ m σ nb _ _ ca d nv vs (w.alloc (.cells #[.string (B kBool)] 277)).drew (hbx.2.prep hp1) i1 hbx.1.drew (hgl.gb (Gb.new gbx)))
  have MB := hid (And.intro hbx.2 gbx)
  have hwl := lt_of_block (h.ms.cs.fz _ _ hb)
  have hbw := h.ms.cs.fz _ _ hb
  have k1 := blk_c hbw 1 rfl
  have Q := hid (And.intro hb (And.intro hp2 (And.intro hp3 (And.intro hgl hP))))
  have I2 := hid i2
  have I3 := hid i3
  have I4 := hid i4
  have I5 := hid i5
  have I6 := hid i6
  clear hP hb hp1 hp2 hp3 h hbw hgl hbx gbx i1 i2 i3 i4 i5 i6
  unfold CP kBool at *
  go_enter Tryz.func155,Tryz.ntmps155
  go_wp2_with fail
  go_region_with (first
    | (go_at_call 75; refine CA.out.mono ?_; rintro e w1 ⟨H1,ca1,d1,x1,nv1,vs1,rfl,ex1,t1,mx1,g1⟩; have CM := hid (bool_A (H := H) (ca := ca) (w := w) t1 (mx1.low (Nat.le_refl _)) g1.drewL ex1 I2.out); clear ex1 t1 mx1 g1; unfold CP kBool at CM)
    | (go_at_call 75; refine CB.out.mono ?_; rintro e w1 ⟨H1,ca1,d1,x1,nv1,vs1,rfl,ex1,t1,mx1,g1⟩; have CM := hid (bool_B (H := H) (ca := ca) (w := w) t1 (MB.out.1.trans mx1 MB.out.2.size) ((Gb.new MB.out.2).tr g1) ex1 (mx1.ext _ _ onto1_at) I2.out); clear ex1 t1 mx1 g1; unfold CP at CM)
    | (go_at_call 160; refine CM.out.mono ?_; rintro e w2 ⟨H2,ca2,d2,x2,nv2,vs2,rfl,ex2,e12,t2,mx2,g2⟩; have H2q := True.intro; have CE := hid (equal_t t2 e12 ex2 I3.out); have Q2 := hid (And.intro mx2 g2); clear H2q ex2 e12 t2 mx2 g2; unfold CP at CE)
    | (go_at_call 183; refine CE.out.mono ?_; rintro e w3 ⟨⟨z,rfl⟩,⟨d3,t3⟩,g3⟩; have T3 := hid (And.intro t3 g3); clear t3 g3))
  all_goals
    obtain ⟨t3,g3⟩ := T3.out
    have g03 := Q2.out.2.tr g3
    have hb3 := Q2.out.1.ext _ _ Q.out.1
    have hbw3 := t3.ms.cs.fz _ _ hb3
    have k2 := blk_c hbw3 2 rfl
    have C4 := hid (Q.out.2.2.2.2 e2 _ m σ3 nb _ H2 ca2 d3 nv2 vs2 w3 (Q2.out.1.prep Q.out.2.1) I4.out t3 (Q.out.2.2.2.1.gb g03))
    have Q3 := hid (And.intro Q2.out.1 g03)
    clear t3 g3 g03 hb3 hbw3 CE Q2 CM T3
    unfold CP at *
    go_wp2_with fail
    refine C4.out.mono ?_
    rintro e w4 ⟨H4,ca4,d4,x4,nv4,vs4,rfl,ex4,t4,mx4,g4⟩
    have mx04 := Q3.out.1.trans mx4 Q3.out.2.size
    have g04 := Q3.out.2.tr g4
    have hb4 := mx04.ext _ _ Q.out.1
    have hbw4 := t4.ms.cs.fz _ _ hb4
    have k3 := blk_c hbw4 3 rfl
    have C5 := hid (Q.out.2.2.2.2 e3 _ m σ4 nb _ H4 ca4 d4 nv4 vs4 w4 (mx04.prep Q.out.2.2.1) I5.out t4 (Q.out.2.2.2.1.gb g04))
    have Q4 := hid (And.intro ex4 (And.intro mx04 g04))
    clear ex4 t4 mx4 g4 mx04 g04 hb4 hbw4 C4 Q3
    unfold CP at *
    go_wp2_with fail
    refine C5.out.mono ?_
    rintro e w5 ⟨H5,ca5,d5,x5,nv5,vs5,rfl,ex5,t5,mx5,g5⟩
    have CE := hid (equal_t t5 (get_pre mx5.pre Q4.out.1) ex5 I6.out)
    have Q5 := hid (And.intro (get_pre mx5.pre Q4.out.1) (And.intro (Q4.out.2.1.trans mx5 Q4.out.2.2.size) (Q4.out.2.2.tr g5)))
    clear ex5 t5 mx5 g5 C5 Q4
    unfold CP at *
    go_wp2_with fail
    refine CE.out.mono ?_
    rintro e w6 ⟨⟨z,rfl⟩,⟨d6,t6⟩,g6⟩
    have Q6 := hid (show TSP C H ca σ6 c4 nb w (.returned (CP x4)) w6 from ⟨H5,ca5,d6,x4,nv5,vs5,rfl,Q5.out.1,t6,Q5.out.2.1,Q5.out.2.2.tr g6⟩)
    clear t6 g6 CE Q5
    unfold CP at *
    go_wp2
    go_ret
    exact Q6.out
theorem choice_e1 {C : TC} {ad : Nat → Addr} {P : Ex → List (List UInt8 × Et) → Sto → Option (Sum Nat (Sto × Nat))} (hP : PAE C ad P) {e1 e2 e3 : Ex} {u1 u2 u3 dep : Value} {b m : Nat} {σ : Sto} {nb : List (List UInt8 × Et)} {H : Nat → Option Obj} {ca : List Nat} {d : Nat → Nat} {nv : Value} {vs : List NE} {w : World} {q : Nat}
    (hb : H b = some (.cells #[dep,u1,u2,u3] 183 (0,0))) (hp1 : PRep m H u1 e1) (hp2 : PRep m H u2 e2) (hp3 : PRep m H u3 e3) (i1 : P e1 nb σ = some (.inl q)) (h : TSv C H ca σ d nb nv vs w) (hgl : GLb C.base ad w) :
    Calls Tryz.prog 155 #[CP C.tb,.pointer (some ⟨b,0,none⟩)] w (TSE C ad H ca (.inl q) nb w) := by
  obtain ⟨T1,b1,rfl⟩ := hp1.val
  obtain ⟨T2,b2,rfl⟩ := hp2.val
  obtain ⟨T3,b3,rfl⟩ := hp3.val
  have hbx := h.box #[.string (B kBool)] 277
  have gbx : w.grownBy (w.alloc (.cells #[.string (B kBool)] 277)).drew none := grown_drew (World.grownBy_alloc _ _ _)
  have CA := hid (hP e1 _ m σ nb _ H ca d nv vs w.drew hp1 i1 h.drew (hgl.gb (Gb.refl _ w).drew))
  have CB := hid (hP e1 _ m σ nb _ _ ca d nv vs (w.alloc (.cells #[.string (B kBool)] 277)).drew (hbx.2.prep hp1) i1 hbx.1.drew (hgl.gb (Gb.new gbx)))
  have MB := hid (And.intro hbx.2 gbx)
  have hwl := lt_of_block (h.ms.cs.fz _ _ hb)
  have hbw := h.ms.cs.fz _ _ hb
  have k1 := blk_c hbw 1 rfl
  have Q := hid (And.intro hb (And.intro hp2 (And.intro hp3 (And.intro hgl hP))))
  clear hP hb hp1 hp2 hp3 h hbw hgl hbx gbx i1
  unfold CP kBool at *
  go_enter Tryz.func155,Tryz.ntmps155
  go_wp2_with fail
  go_region_with (first
    | (go_at_call 75; refine CA.out.mono ?_; rintro e w1 ⟨rfl,g1⟩; have Q9 := hid (show Gb C.own w w1 from g1.drewL); clear g1; unfold fltE errV; refine by_end w ⟨rfl,rfl,Q9.out⟩ ?_)
    | (go_at_call 75; refine CB.out.mono ?_; rintro e w1 ⟨rfl,g1⟩; have Q9 := hid ((Gb.new MB.out.2).tr g1); clear g1; unfold fltE errV; refine by_end w ⟨rfl,rfl,Q9.out⟩ ?_))
  all_goals trivial
theorem choice_e2 {C : TC} {ad : Nat → Addr} {P : Ex → List (List UInt8 × Et) → Sto → Option (Sum Nat (Sto × Nat))} (hP : PAE C ad P) {e1 e2 e3 : Ex} {u1 u2 u3 dep : Value} {b m : Nat} {σ : Sto} {nb : List (List UInt8 × Et)} {H : Nat → Option Obj} {ca : List Nat} {d : Nat → Nat} {nv : Value} {vs : List NE} {w : World} {σ1 σ2 : Sto} {c1 c2 : Nat}
    (hb : H b = some (.cells #[dep,u1,u2,u3] 183 (0,0))) (hp1 : PRep m H u1 e1) (hp2 : PRep m H u2 e2) (hp3 : PRep m H u3 e3) (i1 : P e1 nb σ = some (.inr (σ1,c1))) (i2 : ofT (some ⟨kBool,[],0,[]⟩) σ1 = some (σ2,c2)) (i3 : equalS c1 c2 σ2 = some none) (h : TSv C H ca σ d nb nv vs w) (hgl : GLb C.base ad w) :
    Calls Tryz.prog 155 #[CP C.tb,.pointer (some ⟨b,0,none⟩)] w (TSE C ad H ca (.inl 3) nb w) := by
  obtain ⟨T1,b1,rfl⟩ := hp1.val
  obtain ⟨T2,b2,rfl⟩ := hp2.val
  obtain ⟨T3,b3,rfl⟩ := hp3.val
  have hbx := h.box #[.string (B kBool)] 277
  have gbx : w.grownBy (w.alloc (.cells #[.string (B kBool)] 277)).drew none := grown_drew (World.grownBy_alloc _ _ _)
  have CA := hid (hP e1 _ m σ nb _ H ca d nv vs w.drew hp1 i1 h.drew (hgl.gb (Gb.refl _ w).drew))
  have CB := hid (hP e1 _ m σ nb _ _ ca d nv vs (w.alloc (.cells #[.string (B kBool)] 277)).drew (hbx.2.prep hp1) i1 hbx.1.drew (hgl.gb (Gb.new gbx)))
  have MB := hid (And.intro hbx.2 gbx)
  have hwl := lt_of_block (h.ms.cs.fz _ _ hb)
  have hbw := h.ms.cs.fz _ _ hb
  have k1 := blk_c hbw 1 rfl
  have Q := hid (And.intro hb (And.intro hp2 (And.intro hp3 (And.intro hgl hP))))
  have I2 := hid i2
  have I3 := hid i3
  clear hP hb hp1 hp2 hp3 h hbw hgl hbx gbx i1 i2 i3
  unfold CP kBool at *
  go_enter Tryz.func155,Tryz.ntmps155
  go_wp2_with fail
  go_region_with (first
    | (go_at_call 75; refine CA.out.mono ?_; rintro e w1 ⟨H1,ca1,d1,x1,nv1,vs1,rfl,ex1,t1,mx1,g1⟩; have CM := hid (bool_A (H := H) (ca := ca) (w := w) t1 (mx1.low (Nat.le_refl _)) g1.drewL ex1 I2.out); clear ex1 t1 mx1 g1; unfold CP kBool at CM)
    | (go_at_call 75; refine CB.out.mono ?_; rintro e w1 ⟨H1,ca1,d1,x1,nv1,vs1,rfl,ex1,t1,mx1,g1⟩; have CM := hid (bool_B (H := H) (ca := ca) (w := w) t1 (MB.out.1.trans mx1 MB.out.2.size) ((Gb.new MB.out.2).tr g1) ex1 (mx1.ext _ _ onto1_at) I2.out); clear ex1 t1 mx1 g1; unfold CP at CM)
    | (go_at_call 160; refine CM.out.mono ?_; rintro e w2 ⟨H2,ca2,d2,x2,nv2,vs2,rfl,ex2,e12,t2,mx2,g2⟩; have H2q := True.intro; have CE := hid (equal_f t2 e12 ex2 I3.out (Q.out.2.2.2.1.gb g2)); have Q2 := hid g2; clear H2q ex2 e12 t2 mx2 g2; unfold CP at CE)
    | (go_at_call 183; refine CE.out.mono ?_; rintro e w3 ⟨rfl,g3⟩; have Q9 := hid (Q2.out.tr g3); clear g3; unfold fltE errV; refine by_end w ⟨rfl,rfl,Q9.out⟩ ?_))
  all_goals trivial
theorem choice_e3 {C : TC} {ad : Nat → Addr} {P : Ex → List (List UInt8 × Et) → Sto → Option (Sum Nat (Sto × Nat))} (hP : PAE C ad P) {e1 e2 e3 : Ex} {u1 u2 u3 dep : Value} {b m : Nat} {σ : Sto} {nb : List (List UInt8 × Et)} {H : Nat → Option Obj} {ca : List Nat} {d : Nat → Nat} {nv : Value} {vs : List NE} {w : World} {q : Nat} {σ1 σ2 : Sto} {c1 c2 : Nat} {σ3 : Sto}
    (hb : H b = some (.cells #[dep,u1,u2,u3] 183 (0,0))) (hp1 : PRep m H u1 e1) (hp2 : PRep m H u2 e2) (hp3 : PRep m H u3 e3) (i1 : P e1 nb σ = some (.inr (σ1,c1))) (i2 : ofT (some ⟨kBool,[],0,[]⟩) σ1 = some (σ2,c2)) (i3 : equalS c1 c2 σ2 = some (some σ3)) (i4 : P e2 nb σ3 = some (.inl q)) (h : TSv C H ca σ d nb nv vs w) (hgl : GLb C.base ad w) :
    Calls Tryz.prog 155 #[CP C.tb,.pointer (some ⟨b,0,none⟩)] w (TSE C ad H ca (.inl q) nb w) := by
  obtain ⟨T1,b1,rfl⟩ := hp1.val
  obtain ⟨T2,b2,rfl⟩ := hp2.val
  obtain ⟨T3,b3,rfl⟩ := hp3.val
  have hbx := h.box #[.string (B kBool)] 277
  have gbx : w.grownBy (w.alloc (.cells #[.string (B kBool)] 277)).drew none := grown_drew (World.grownBy_alloc _ _ _)
  have CA := hid (hP e1 _ m σ nb _ H ca d nv vs w.drew hp1 i1 h.drew (hgl.gb (Gb.refl _ w).drew))
  have CB := hid (hP e1 _ m σ nb _ _ ca d nv vs (w.alloc (.cells #[.string (B kBool)] 277)).drew (hbx.2.prep hp1) i1 hbx.1.drew (hgl.gb (Gb.new gbx)))
  have MB := hid (And.intro hbx.2 gbx)
  have hwl := lt_of_block (h.ms.cs.fz _ _ hb)
  have hbw := h.ms.cs.fz _ _ hb
  have k1 := blk_c hbw 1 rfl
  have Q := hid (And.intro hb (And.intro hp2 (And.intro hp3 (And.intro hgl hP))))
  have I2 := hid i2
  have I3 := hid i3
  have I4 := hid i4
  clear hP hb hp1 hp2 hp3 h hbw hgl hbx gbx i1 i2 i3 i4
  unfold CP kBool at *
  go_enter Tryz.func155,Tryz.ntmps155
  go_wp2_with fail
  go_region_with (first
    | (go_at_call 75; refine CA.out.mono ?_; rintro e w1 ⟨H1,ca1,d1,x1,nv1,vs1,rfl,ex1,t1,mx1,g1⟩; have CM := hid (bool_A (H := H) (ca := ca) (w := w) t1 (mx1.low (Nat.le_refl _)) g1.drewL ex1 I2.out); clear ex1 t1 mx1 g1; unfold CP kBool at CM)
    | (go_at_call 75; refine CB.out.mono ?_; rintro e w1 ⟨H1,ca1,d1,x1,nv1,vs1,rfl,ex1,t1,mx1,g1⟩; have CM := hid (bool_B (H := H) (ca := ca) (w := w) t1 (MB.out.1.trans mx1 MB.out.2.size) ((Gb.new MB.out.2).tr g1) ex1 (mx1.ext _ _ onto1_at) I2.out); clear ex1 t1 mx1 g1; unfold CP at CM)
    | (go_at_call 160; refine CM.out.mono ?_; rintro e w2 ⟨H2,ca2,d2,x2,nv2,vs2,rfl,ex2,e12,t2,mx2,g2⟩; have H2q := True.intro; have CE := hid (equal_t t2 e12 ex2 I3.out); have Q2 := hid (And.intro mx2 g2); clear H2q ex2 e12 t2 mx2 g2; unfold CP at CE)
    | (go_at_call 183; refine CE.out.mono ?_; rintro e w3 ⟨⟨z,rfl⟩,⟨d3,t3⟩,g3⟩; have T3 := hid (And.intro t3 g3); clear t3 g3))
  all_goals
    obtain ⟨t3,g3⟩ := T3.out
    have g03 := Q2.out.2.tr g3
    have hb3 := Q2.out.1.ext _ _ Q.out.1
    have hbw3 := t3.ms.cs.fz _ _ hb3
    have k2 := blk_c hbw3 2 rfl
    have C4 := hid (Q.out.2.2.2.2 e2 _ m σ3 nb _ H2 ca2 d3 nv2 vs2 w3 (Q2.out.1.prep Q.out.2.1) I4.out t3 (Q.out.2.2.2.1.gb g03))
    have Q3 := hid (And.intro Q2.out.1 g03)
    clear t3 g3 g03 hb3 hbw3 CE Q2 CM T3
    unfold CP at *
    go_wp2_with fail
    refine C4.out.mono ?_
    rintro e w4 ⟨rfl,g4⟩
    have Q9 := hid (Q3.out.2.tr g4)
    clear g4 C4
    unfold fltE errV
    go_wp2
    exact ⟨rfl,rfl,Q9.out⟩
theorem choice_e4 {C : TC} {ad : Nat → Addr} {P : Ex → List (List UInt8 × Et) → Sto → Option (Sum Nat (Sto × Nat))} (hP : PAE C ad P) {e1 e2 e3 : Ex} {u1 u2 u3 dep : Value} {b m : Nat} {σ : Sto} {nb : List (List UInt8 × Et)} {H : Nat → Option Obj} {ca : List Nat} {d : Nat → Nat} {nv : Value} {vs : List NE} {w : World} {q : Nat} {σ1 σ2 : Sto} {c1 c2 : Nat} {σ3 : Sto} {σ4 : Sto} {c4 : Nat}
    (hb : H b = some (.cells #[dep,u1,u2,u3] 183 (0,0))) (hp1 : PRep m H u1 e1) (hp2 : PRep m H u2 e2) (hp3 : PRep m H u3 e3) (i1 : P e1 nb σ = some (.inr (σ1,c1))) (i2 : ofT (some ⟨kBool,[],0,[]⟩) σ1 = some (σ2,c2)) (i3 : equalS c1 c2 σ2 = some (some σ3)) (i4 : P e2 nb σ3 = some (.inr (σ4,c4))) (i5 : P e3 nb σ4 = some (.inl q)) (h : TSv C H ca σ d nb nv vs w) (hgl : GLb C.base ad w) :
    Calls Tryz.prog 155 #[CP C.tb,.pointer (some ⟨b,0,none⟩)] w (TSE C ad H ca (.inl q) nb w) := by
  obtain ⟨T1,b1,rfl⟩ := hp1.val
  obtain ⟨T2,b2,rfl⟩ := hp2.val
  obtain ⟨T3,b3,rfl⟩ := hp3.val
  have hbx := h.box #[.string (B kBool)] 277
  have gbx : w.grownBy (w.alloc (.cells #[.string (B kBool)] 277)).drew none := grown_drew (World.grownBy_alloc _ _ _)
  have CA := hid (hP e1 _ m σ nb _ H ca d nv vs w.drew hp1 i1 h.drew (hgl.gb (Gb.refl _ w).drew))
  have CB := hid (hP e1 _ m σ nb _ _ ca d nv vs (w.alloc (.cells #[.string (B kBool)] 277)).drew (hbx.2.prep hp1) i1 hbx.1.drew (hgl.gb (Gb.new gbx)))
  have MB := hid (And.intro hbx.2 gbx)
  have hwl := lt_of_block (h.ms.cs.fz _ _ hb)
  have hbw := h.ms.cs.fz _ _ hb
  have k1 := blk_c hbw 1 rfl
  have Q := hid (And.intro hb (And.intro hp2 (And.intro hp3 (And.intro hgl hP))))
  have I2 := hid i2
  have I3 := hid i3
  have I4 := hid i4
  have I5 := hid i5
  clear hP hb hp1 hp2 hp3 h hbw hgl hbx gbx i1 i2 i3 i4 i5
  unfold CP kBool at *
  go_enter Tryz.func155,Tryz.ntmps155
  go_wp2_with fail
  go_region_with (first
    | (go_at_call 75; refine CA.out.mono ?_; rintro e w1 ⟨H1,ca1,d1,x1,nv1,vs1,rfl,ex1,t1,mx1,g1⟩; have CM := hid (bool_A (H := H) (ca := ca) (w := w) t1 (mx1.low (Nat.le_refl _)) g1.drewL ex1 I2.out); clear ex1 t1 mx1 g1; unfold CP kBool at CM)
    | (go_at_call 75; refine CB.out.mono ?_; rintro e w1 ⟨H1,ca1,d1,x1,nv1,vs1,rfl,ex1,t1,mx1,g1⟩; have CM := hid (bool_B (H := H) (ca := ca) (w := w) t1 (MB.out.1.trans mx1 MB.out.2.size) ((Gb.new MB.out.2).tr g1) ex1 (mx1.ext _ _ onto1_at) I2.out); clear ex1 t1 mx1 g1; unfold CP at CM)
    | (go_at_call 160; refine CM.out.mono ?_; rintro e w2 ⟨H2,ca2,d2,x2,nv2,vs2,rfl,ex2,e12,t2,mx2,g2⟩; have H2q := True.intro; have CE := hid (equal_t t2 e12 ex2 I3.out); have Q2 := hid (And.intro mx2 g2); clear H2q ex2 e12 t2 mx2 g2; unfold CP at CE)
    | (go_at_call 183; refine CE.out.mono ?_; rintro e w3 ⟨⟨z,rfl⟩,⟨d3,t3⟩,g3⟩; have T3 := hid (And.intro t3 g3); clear t3 g3))
  all_goals
    obtain ⟨t3,g3⟩ := T3.out
    have g03 := Q2.out.2.tr g3
    have hb3 := Q2.out.1.ext _ _ Q.out.1
    have hbw3 := t3.ms.cs.fz _ _ hb3
    have k2 := blk_c hbw3 2 rfl
    have C4 := hid (Q.out.2.2.2.2 e2 _ m σ3 nb _ H2 ca2 d3 nv2 vs2 w3 (Q2.out.1.prep Q.out.2.1) I4.out t3 (Q.out.2.2.2.1.gb g03))
    have Q3 := hid (And.intro Q2.out.1 g03)
    clear t3 g3 g03 hb3 hbw3 CE Q2 CM T3
    unfold CP at *
    go_wp2_with fail
    refine C4.out.mono ?_
    rintro e w4 ⟨H4,ca4,d4,x4,nv4,vs4,rfl,ex4,t4,mx4,g4⟩
    have mx04 := Q3.out.1.trans mx4 Q3.out.2.size
    have g04 := Q3.out.2.tr g4
    have hb4 := mx04.ext _ _ Q.out.1
    have hbw4 := t4.ms.cs.fz _ _ hb4
    have k3 := blk_c hbw4 3 rfl
    have C5 := hid (Q.out.2.2.2.2 e3 _ m σ4 nb _ H4 ca4 d4 nv4 vs4 w4 (mx04.prep Q.out.2.2.1) I5.out t4 (Q.out.2.2.2.1.gb g04))
    have Q4 := hid (And.intro ex4 (And.intro mx04 g04))
    clear ex4 t4 mx4 g4 mx04 g04 hb4 hbw4 C4 Q3
    unfold CP at *
    go_wp2_with fail
    refine C5.out.mono ?_
    rintro e w5 ⟨rfl,g5⟩
    have Q9 := hid (Q4.out.2.2.tr g5)
    clear g5 C5
    unfold fltE errV
    go_wp2
    exact ⟨rfl,rfl,Q9.out⟩
theorem choice_e5 {C : TC} {ad : Nat → Addr} {P : Ex → List (List UInt8 × Et) → Sto → Option (Sum Nat (Sto × Nat))} (hP : PAE C ad P) {e1 e2 e3 : Ex} {u1 u2 u3 dep : Value} {b m : Nat} {σ : Sto} {nb : List (List UInt8 × Et)} {H : Nat → Option Obj} {ca : List Nat} {d : Nat → Nat} {nv : Value} {vs : List NE} {w : World} {σ1 σ2 : Sto} {c1 c2 : Nat} {σ3 : Sto} {σ4 : Sto} {c4 : Nat} {σ5 : Sto} {c5 : Nat}
    (hb : H b = some (.cells #[dep,u1,u2,u3] 183 (0,0))) (hp1 : PRep m H u1 e1) (hp2 : PRep m H u2 e2) (hp3 : PRep m H u3 e3) (i1 : P e1 nb σ = some (.inr (σ1,c1))) (i2 : ofT (some ⟨kBool,[],0,[]⟩) σ1 = some (σ2,c2)) (i3 : equalS c1 c2 σ2 = some (some σ3)) (i4 : P e2 nb σ3 = some (.inr (σ4,c4))) (i5 : P e3 nb σ4 = some (.inr (σ5,c5))) (i6 : equalS c4 c5 σ5 = some none) (h : TSv C H ca σ d nb nv vs w) (hgl : GLb C.base ad w) :
    Calls Tryz.prog 155 #[CP C.tb,.pointer (some ⟨b,0,none⟩)] w (TSE C ad H ca (.inl 3) nb w) := by
  obtain ⟨T1,b1,rfl⟩ := hp1.val
  obtain ⟨T2,b2,rfl⟩ := hp2.val
  obtain ⟨T3,b3,rfl⟩ := hp3.val
  have hbx := h.box #[.string (B kBool)] 277
  have gbx : w.grownBy (w.alloc (.cells #[.string (B kBool)] 277)).drew none := grown_drew (World.grownBy_alloc _ _ _)
  have CA := hid (hP e1 _ m σ nb _ H ca d nv vs w.drew hp1 i1 h.drew (hgl.gb (Gb.refl _ w).drew))
  have CB := hid (hP e1 _ m σ nb _ _ ca d nv vs (w.alloc (.cells #[.string (B kBool)] 277)).drew (hbx.2.prep hp1) i1 hbx.1.drew (hgl.gb (Gb.new gbx)))
  have MB := hid (And.intro hbx.2 gbx)
  have hwl := lt_of_block (h.ms.cs.fz _ _ hb)
  have hbw := h.ms.cs.fz _ _ hb
  have k1 := blk_c hbw 1 rfl
  have Q := hid (And.intro hb (And.intro hp2 (And.intro hp3 (And.intro hgl hP))))
  have I2 := hid i2
  have I3 := hid i3
  have I4 := hid i4
  have I5 := hid i5
  have I6 := hid i6
  clear hP hb hp1 hp2 hp3 h hbw hgl hbx gbx i1 i2 i3 i4 i5 i6
  unfold CP kBool at *
  go_enter Tryz.func155,Tryz.ntmps155
  go_wp2_with fail
  go_region_with (first
    | (go_at_call 75; refine CA.out.mono ?_; rintro e w1 ⟨H1,ca1,d1,x1,nv1,vs1,rfl,ex1,t1,mx1,g1⟩; have CM := hid (bool_A (H := H) (ca := ca) (w := w) t1 (mx1.low (Nat.le_refl _)) g1.drewL ex1 I2.out); clear ex1 t1 mx1 g1; unfold CP kBool at CM)
    | (go_at_call 75; refine CB.out.mono ?_; rintro e w1 ⟨H1,ca1,d1,x1,nv1,vs1,rfl,ex1,t1,mx1,g1⟩; have CM := hid (bool_B (H := H) (ca := ca) (w := w) t1 (MB.out.1.trans mx1 MB.out.2.size) ((Gb.new MB.out.2).tr g1) ex1 (mx1.ext _ _ onto1_at) I2.out); clear ex1 t1 mx1 g1; unfold CP at CM)
    | (go_at_call 160; refine CM.out.mono ?_; rintro e w2 ⟨H2,ca2,d2,x2,nv2,vs2,rfl,ex2,e12,t2,mx2,g2⟩; have H2q := True.intro; have CE := hid (equal_t t2 e12 ex2 I3.out); have Q2 := hid (And.intro mx2 g2); clear H2q ex2 e12 t2 mx2 g2; unfold CP at CE)
    | (go_at_call 183; refine CE.out.mono ?_; rintro e w3 ⟨⟨z,rfl⟩,⟨d3,t3⟩,g3⟩; have T3 := hid (And.intro t3 g3); clear t3 g3))
  all_goals
    obtain ⟨t3,g3⟩ := T3.out
    have g03 := Q2.out.2.tr g3
    have hb3 := Q2.out.1.ext _ _ Q.out.1
    have hbw3 := t3.ms.cs.fz _ _ hb3
    have k2 := blk_c hbw3 2 rfl
    have C4 := hid (Q.out.2.2.2.2 e2 _ m σ3 nb _ H2 ca2 d3 nv2 vs2 w3 (Q2.out.1.prep Q.out.2.1) I4.out t3 (Q.out.2.2.2.1.gb g03))
    have Q3 := hid (And.intro Q2.out.1 g03)
    clear t3 g3 g03 hb3 hbw3 CE Q2 CM T3
    unfold CP at *
    go_wp2_with fail
    refine C4.out.mono ?_
    rintro e w4 ⟨H4,ca4,d4,x4,nv4,vs4,rfl,ex4,t4,mx4,g4⟩
    have mx04 := Q3.out.1.trans mx4 Q3.out.2.size
    have g04 := Q3.out.2.tr g4
    have hb4 := mx04.ext _ _ Q.out.1
    have hbw4 := t4.ms.cs.fz _ _ hb4
    have k3 := blk_c hbw4 3 rfl
    have C5 := hid (Q.out.2.2.2.2 e3 _ m σ4 nb _ H4 ca4 d4 nv4 vs4 w4 (mx04.prep Q.out.2.2.1) I5.out t4 (Q.out.2.2.2.1.gb g04))
    have Q4 := hid (And.intro ex4 (And.intro mx04 g04))
    clear ex4 t4 mx4 g4 mx04 g04 hb4 hbw4 C4 Q3
    unfold CP at *
    go_wp2_with fail
    refine C5.out.mono ?_
    rintro e w5 ⟨H5,ca5,d5,x5,nv5,vs5,rfl,ex5,t5,mx5,g5⟩
    have C6 := hid (equal_f t5 (get_pre mx5.pre Q4.out.1) ex5 I6.out (Q.out.2.2.2.1.gb (Q4.out.2.2.tr g5)))
    have Q5 := hid (Q4.out.2.2.tr g5)
    clear ex5 t5 mx5 g5 C5 Q4
    unfold CP at *
    go_wp2_with fail
    refine C6.out.mono ?_
    rintro e w6 ⟨rfl,g6⟩
    have Q9 := hid (Q5.out.tr g6)
    clear g6 C6
    unfold fltE errV
    go_wp2
    exact ⟨rfl,rfl,Q9.out⟩
end Go.Proofs.YtcdijppegfcoaabGreatDoor
