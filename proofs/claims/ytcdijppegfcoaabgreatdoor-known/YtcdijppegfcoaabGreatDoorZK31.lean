import Derived.Test.YtcdijppegfcoaabGreatDoorZK30
set_option maxRecDepth 100000
set_option maxHeartbeats 4000000
namespace Go.Proofs.YtcdijppegfcoaabGreatDoor
open Go.RowKit
theorem TSv.more {C : TC} {H H3 : Nat → Option Obj} {ca : List Nat} {σ : Sto} {d d3 : Nat → Nat} {nb : List (List UInt8 × Et)} {nv : Value} {vs : List NE} {w w3 : World} (h : TSv C H ca σ d nb nv vs w) (g : Gb (InAs ca) w w3) (c3 : CSd H ca σ d3 w3) (z3 : Fz H3 w3) (x1 : ∀ k o,H k = some o → H3 k = some o) (x2 : ∀ k o,H3 k = some o → H k = some o ∨ w.heap.size ≤ k) :
    TSv C H3 ca σ d3 nb nv vs w3 ∧ MX H H3 ca ca w := by
  have x : MX H H3 ca ca w := ⟨x1,x2,List.prefix_refl _,fun _ h => Or.inl h⟩
  have off : ∀ a,a ∈ ca → H3 a = none := fun a ha => x.none (InAs.lt h.ms.cs ha) (h.ms.cs.off a ha)
  exact ⟨h.step ⟨c3.more x1 z3 off,(h.cs c3 g).ms.bk,x.none h.ms.bk.lt h.ms.ht,h.ms.hta⟩ x (g.mono fun k e => Or.inr e),x⟩
theorem let_gb {C : TC} {H1 : Nat → Option Obj} {ca1 : List Nat} {σ1 : Sto} {d1 : Nat → Nat} {nb : List (List UInt8 × Et)} {nv1 : Value} {vs1 : List NE} {w w1 w2 w3 : World} {t1 : TSv C H1 ca1 σ1 d1 nb nv1 vs1 w1} (g1 : Gb C.own w w1) (g2 : Gb (InAs ca1) w1.drew w2) (g3 : Gb (InAs ca1) w2 w3) : Gb C.own w w3 :=
  (g1.tr (g2.drewL.mono fun k e => t1.clo k e)).tr (g3.mono fun k e => t1.clo k e)
theorem one_isX {H : Nat → Option Obj} {ca : List Nat} {p : List UInt8} {t : Et} {T3 b3 : Nat} (er : ER H ca (.iface T3 (.pointer (some ⟨b3,0,none⟩))) t) : ∀ (i : Nat) (p' : NE) q,([((p,T3,b3) : List UInt8 × TypeId × Nat)] : List NE)[i]? = some p' → [(p,t)][i]? = some q → p'.1 = q.1 ∧ ER H ca p'.v q.2 := fun i p' q e1 e2 => by
  cases i with
  | zero => cases e1; cases e2; exact ⟨rfl,er⟩
  | succ i => cases e1
theorem let_e1 {C : TC} {ad : Nat → Addr} {P : Ex → List (List UInt8 × Et) → Sto → Option (Sum Nat (Sto × Nat))} (hP : PAE C ad P) {e1 : Ex} {u1 u2 dep : Value} {p : List UInt8} {b m : Nat} {σ : Sto} {nb : List (List UInt8 × Et)} {H : Nat → Option Obj} {ca : List Nat} {d : Nat → Nat} {nv : Value} {vs : List NE} {w : World} {q : Nat}
    (hb : H b = some (.cells #[dep,.string (B p),u1,u2] 189 (0,0))) (hp1 : PRep m H u1 e1) (i1 : P e1 nb σ = some (.inl q)) (h : TSv C H ca σ d nb nv vs w) (hgl : GLb C.base ad w) :
    Calls Tryz.prog 156 #[CP C.tb,.pointer (some ⟨b,0,none⟩)] w (TSE C ad H ca (.inl q) nb w) := by
  obtain ⟨T1,b1,rfl⟩ := hp1.val
  have C1 := hid (hP e1 _ m σ nb _ H ca d nv vs w hp1 i1 h hgl)
  have hbw := h.ms.cs.fz _ _ hb
  have k2 := blk_c hbw 2 rfl
  clear hP hb hp1 h hbw hgl i1
  unfold CP at *
  go_enter Tryz.func156,Tryz.ntmps156
  go_wp2_with fail
  refine C1.out.mono ?_
  rintro e w1 ⟨rfl,g1⟩
  have Q9 := hid g1
  clear g1 C1
  unfold fltE errV
  go_wp2
  exact ⟨rfl,rfl,Q9.out⟩
theorem let_e0 {C : TC} {ad : Nat → Addr} {P : Ex → List (List UInt8 × Et) → Sto → Option (Sum Nat (Sto × Nat))} (hP : PAE C ad P) {e1 e2 : Ex} {u1 u2 dep : Value} {p : List UInt8} {b m : Nat} {σ : Sto} {nb : List (List UInt8 × Et)} {H : Nat → Option Obj} {ca : List Nat} {d : Nat → Nat} {nv : Value} {vs : List NE} {w : World} {σ1 : Sto} {c1 : Nat} {L : List Nat} {t : Et} {σ2 : Sto} {c2 : Nat}
    (hb : H b = some (.cells #[dep,.string (B p),u1,u2] 189 (0,0))) (hp1 : PRep m H u1 e1) (hp2 : PRep m H u2 e2) (i1 : P e1 nb σ = some (.inr (σ1,c1))) (i2 : reachS σ1 nb = some L) (i3 : generalU σ1 L 400 c1 = some t) (hl : nb.length + 1 ≤ 1000) (i4 : P e2 (nb ++ [(p,t)]) σ1 = some (.inr (σ2,c2))) (h : TSv C H ca σ d nb nv vs w) (hgl : GLb C.base ad w) :
    Calls Tryz.prog 156 #[CP C.tb,.pointer (some ⟨b,0,none⟩)] w (TSE C ad H ca (.inr (σ2,c2)) nb w) := by
  obtain ⟨T1,b1,rfl⟩ := hp1.val
  obtain ⟨T2,b2,rfl⟩ := hp2.val
  have C1 := hid (hP e1 _ m σ nb _ H ca d nv vs w hp1 i1 h hgl)
  have hbw := h.ms.cs.fz _ _ hb
  have k2 := blk_c hbw 2 rfl
  have Q := hid (And.intro hb (And.intro hp2 (And.intro hgl (And.intro hP hl))))
  have I2 := hid i2
  have I3 := hid i3
  have I4 := hid i4
  clear hP hb hp1 hp2 h hbw hgl i1 i2 i3 i4 hl
  unfold CP at *
  go_enter Tryz.func156,Tryz.ntmps156
  go_wp2_with fail
  refine C1.out.mono ?_
  rintro e w1 ⟨H1,ca1,d1,x1,nv1,vs1,rfl,ex1,t1,mx1,g1⟩
  have hb1 := mx1.ext _ _ Q.out.1
  have hbw1 := t1.ms.cs.fz _ _ hb1
  have k1 := blk_c hbw1 1 rfl
  have k3 := blk_c hbw1 3 rfl
  have hbl1 := lt_of_block hbw1
  have CR := hid (reached_t t1.drew I2.out)
  have Q1 := hid (And.intro hb1 (And.intro ex1 (And.intro t1 (And.intro mx1 g1))))
  clear k2 hb1 hbw1 ex1 t1 mx1 g1 C1
  unfold CP at *
  go_wp2_with fail
  go_region_with (first
    | (go_at_call 184; refine CR.out.mono ?_; rintro e w2 ⟨mb,rfl,hm,r2,t2,g2⟩; have fz2 := t2.ms.cs.fz _ _ Q1.out.1; have k1' := blk_c fz2 1 rfl; have k3' := blk_c fz2 3 rfl; have hbl2 := lt_of_block fz2; have CG := hid (General_u (lo := 0) Q1.out.2.1 I3.out t2.ms.cs ⟨Or.inr ⟨mb,rfl,hm,r2⟩,(Q.out.2.2.1.gb (Q1.out.2.2.2.2.tr (g2.drewL.mono fun k e => Q1.out.2.2.1.clo k e))).tabW t2.clo,Nat.zero_le _⟩); have Q2 := hid (And.intro t2 g2); clear fz2 hm r2 t2 g2; unfold CP at CG)
    | (go_at_call 74; refine CG.out.mono ?_; rintro e w3 ⟨g3,c3,v3,H3,rfl,z3,x31,x32,er3⟩; have er3 := er3.er; obtain ⟨T3,b3,_,rfl⟩ := er_val er3; obtain ⟨t3,mx3⟩ := Q2.out.1.more g3 c3 z3 x31 x32; have fz3 := t3.ms.cs.fz _ _ (mx3.ext _ _ Q1.out.1); have k1'' := blk_c fz3 1 rfl; have k3'' := blk_c fz3 3 rfl; have hbl3 := lt_of_block fz3; have G03 := hid (let_gb (t1 := Q1.out.2.2.1) Q1.out.2.2.2.2 Q2.out.2 g3); have gW : w3.grownBy (w3.alloc (.cells #[.string (B p),.iface T3 (.pointer (some ⟨b3,0,none⟩))] 338)) none := World.grownBy_alloc _ _ _; have GW := hid (And.intro (Q1.out.2.2.2.1.trans (mx3.low (w := w1) Q2.out.2.size) Q1.out.2.2.2.2.size) (G03.out.tr (Gb.new gW))); have CW := hid (within_e (nbs := [(p,t)]) (nws := [((p,T3,b3) : List UInt8 × TypeId × Nat)]) (gm := w3.heap.size) (capm := 1) Q.out.2.2.2.1 (mx3.prep (Q1.out.2.2.2.1.prep Q.out.2.1)) I4.out (Q.out.2.2.1.gb GW.out.2) (t3.grown gW) rfl (Nat.zero_lt_succ _) Q.out.2.2.2.2 (World.news_of_block (heap_alloc_new w3 _)) (one_isX er3)); clear g3 c3 z3 x31 x32 er3 t3 mx3 fz3 gW G03; unfold CP at CW)
    | (go_at_call 157; refine CW.out.mono ?_; rintro e w9 h9; have H9 := hid (TSE.low (H := H) (ca := ca) (w := w) h9 GW.out.1 GW.out.2); obtain ⟨_,_,_,x9,_,_,rfl,_⟩ := h9; unfold CP at *))
  all_goals go_wp2
  all_goals go_ret
  all_goals exact H9.out
theorem let_e2 {C : TC} {ad : Nat → Addr} {P : Ex → List (List UInt8 × Et) → Sto → Option (Sum Nat (Sto × Nat))} (hP : PAE C ad P) {e1 e2 : Ex} {u1 u2 dep : Value} {p : List UInt8} {b m : Nat} {σ : Sto} {nb : List (List UInt8 × Et)} {H : Nat → Option Obj} {ca : List Nat} {d : Nat → Nat} {nv : Value} {vs : List NE} {w : World} {σ1 : Sto} {c1 : Nat} {L : List Nat} {t : Et} {q : Nat}
    (hb : H b = some (.cells #[dep,.string (B p),u1,u2] 189 (0,0))) (hp1 : PRep m H u1 e1) (hp2 : PRep m H u2 e2) (i1 : P e1 nb σ = some (.inr (σ1,c1))) (i2 : reachS σ1 nb = some L) (i3 : generalU σ1 L 400 c1 = some t) (hl : nb.length + 1 ≤ 1000) (i4 : P e2 (nb ++ [(p,t)]) σ1 = some (.inl q)) (h : TSv C H ca σ d nb nv vs w) (hgl : GLb C.base ad w) :
    Calls Tryz.prog 156 #[CP C.tb,.pointer (some ⟨b,0,none⟩)] w (TSE C ad H ca (.inl q) nb w) := by
  obtain ⟨T1,b1,rfl⟩ := hp1.val
  obtain ⟨T2,b2,rfl⟩ := hp2.val
  have C1 := hid (hP e1 _ m σ nb _ H ca d nv vs w hp1 i1 h hgl)
  have hbw := h.ms.cs.fz _ _ hb
  have k2 := blk_c hbw 2 rfl
  have Q := hid (And.intro hb (And.intro hp2 (And.intro hgl (And.intro hP hl))))
  have I2 := hid i2
  have I3 := hid i3
  have I4 := hid i4
  clear hP hb hp1 hp2 h hbw hgl i1 i2 i3 i4 hl
  unfold CP at *
  go_enter Tryz.func156,Tryz.ntmps156
  go_wp2_with fail
  refine C1.out.mono ?_
  rintro e w1 ⟨H1,ca1,d1,x1,nv1,vs1,rfl,ex1,t1,mx1,g1⟩
  have hb1 := mx1.ext _ _ Q.out.1
  have hbw1 := t1.ms.cs.fz _ _ hb1
  have k1 := blk_c hbw1 1 rfl
  have k3 := blk_c hbw1 3 rfl
  have hbl1 := lt_of_block hbw1
  have CR := hid (reached_t t1.drew I2.out)
  have Q1 := hid (And.intro hb1 (And.intro ex1 (And.intro t1 (And.intro mx1 g1))))
  clear k2 hb1 hbw1 ex1 t1 mx1 g1 C1
  unfold CP at *
  go_wp2_with fail
  go_region_with (first
    | (go_at_call 184; refine CR.out.mono ?_; rintro e w2 ⟨mb,rfl,hm,r2,t2,g2⟩; have fz2 := t2.ms.cs.fz _ _ Q1.out.1; have k1' := blk_c fz2 1 rfl; have k3' := blk_c fz2 3 rfl; have hbl2 := lt_of_block fz2; have CG := hid (General_u (lo := 0) Q1.out.2.1 I3.out t2.ms.cs ⟨Or.inr ⟨mb,rfl,hm,r2⟩,(Q.out.2.2.1.gb (Q1.out.2.2.2.2.tr (g2.drewL.mono fun k e => Q1.out.2.2.1.clo k e))).tabW t2.clo,Nat.zero_le _⟩); have Q2 := hid (And.intro t2 g2); clear fz2 hm r2 t2 g2; unfold CP at CG)
    | (go_at_call 74; refine CG.out.mono ?_; rintro e w3 ⟨g3,c3,v3,H3,rfl,z3,x31,x32,er3⟩; have er3 := er3.er; obtain ⟨T3,b3,_,rfl⟩ := er_val er3; obtain ⟨t3,mx3⟩ := Q2.out.1.more g3 c3 z3 x31 x32; have fz3 := t3.ms.cs.fz _ _ (mx3.ext _ _ Q1.out.1); have k1'' := blk_c fz3 1 rfl; have k3'' := blk_c fz3 3 rfl; have hbl3 := lt_of_block fz3; have G03 := hid (let_gb (t1 := Q1.out.2.2.1) Q1.out.2.2.2.2 Q2.out.2 g3); have gW : w3.grownBy (w3.alloc (.cells #[.string (B p),.iface T3 (.pointer (some ⟨b3,0,none⟩))] 338)) none := World.grownBy_alloc _ _ _; have GW := hid (And.intro (Q1.out.2.2.2.1.trans (mx3.low (w := w1) Q2.out.2.size) Q1.out.2.2.2.2.size) (G03.out.tr (Gb.new gW))); have CW := hid (within_e (nbs := [(p,t)]) (nws := [((p,T3,b3) : List UInt8 × TypeId × Nat)]) (gm := w3.heap.size) (capm := 1) Q.out.2.2.2.1 (mx3.prep (Q1.out.2.2.2.1.prep Q.out.2.1)) I4.out (Q.out.2.2.1.gb GW.out.2) (t3.grown gW) rfl (Nat.zero_lt_succ _) Q.out.2.2.2.2 (World.news_of_block (heap_alloc_new w3 _)) (one_isX er3)); clear g3 c3 z3 x31 x32 er3 t3 mx3 fz3 gW G03; unfold CP at CW)
    | (go_at_call 157; refine CW.out.mono ?_; rintro e w9 ⟨rfl,g9⟩; have Q9 := hid (GW.out.2.tr g9); clear g9; unfold fltE errV; refine by_end w ⟨rfl,rfl,Q9.out⟩ ?_))
  all_goals trivial
end Go.Proofs.YtcdijppegfcoaabGreatDoor
