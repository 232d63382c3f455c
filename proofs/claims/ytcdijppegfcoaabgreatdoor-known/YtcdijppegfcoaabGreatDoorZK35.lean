import Derived.Test.YtcdijppegfcoaabGreatDoorZK34
set_option maxRecDepth 100000
set_option maxHeartbeats 4000000
namespace Go.Proofs.YtcdijppegfcoaabGreatDoor
open Go.RowKit
theorem rec_within {C : TC} {ad : Nat → Addr} {P : Ex → List (List UInt8 × Et) → Sto → Option (Sum Nat (Sto × Nat))} (hP : PAE C ad P) {e : Ex} {v : Value} {m g cap n : Nat} {σ : Sto} {nb grp : List (List UInt8 × Et)} {r : Sum Nat (Sto × Nat)} {H : Nat → Option Obj} {ca : List Nat} {d : Nat → Nat} {nv : Value} {vs nk : List NE} {w : World} (hp : PRep m H v e) (hr : P e (nb ++ grp) σ = some r) (hgl : GLb C.base ad w) (h : TSv C H ca σ d nb nv vs w) (ah : AHd H ca g nk grp) (ln : nk.length = n) (h0 : 0 < n) (hk : nb.length + grp.length ≤ 1000) :
    Calls Tryz.prog 157 #[CP C.tb,v,.slice (some ⟨g,0,none⟩) n cap] w (TSE C ad H ca r nb w) := by
  have := within_e (capm := cap) hP hp hr hgl h ah.len (by rw [ln]; exact h0) hk (ah.cells h.ms.cs.fz) ah.is
  rw [ln] at this
  exact this
theorem findrec_e0 {C : TC} {ad : Nat → Addr} {P : Ex → List (List UInt8 × Et) → Sto → Option (Sum Nat (Sto × Nat))} (hP : ∀ K,PAE { C with keep := K } ad P) {e : Ex} {u dep : Value} {b m m2 most gB capB : Nat} {ns : List (List UInt8)} {us : List Value} {es : List Ex} {σ : Sto} {nb : List (List UInt8 × Et)} {H : Nat → Option Obj} {ca : List Nat} {d : Nat → Nat} {nv : Value} {vs : List NE} {w : World} {σ1 σ2 : Sto} {c2 : Nat} {grp : List (List UInt8 × Et)}
    (hb : H b = some (.cells #[dep,.slice (some ⟨gB,0,none⟩) ns.length capB,u] 194 (0,0))) (hB : GRd H gB ns us es m) (hp : PRep m2 H u e) (h0 : 0 < ns.length) (hn : ns.length ≤ 1000) (hm : C.most = .int .i64 (most : Int)) (hm9 : most ≤ 1000) (he : C.each = .nilFunc) (i1 : groupE P ns es nb most (ns.map fun n => (n,vT [97])) σ = some (.inr (σ1,grp))) (hk : nb.length + grp.length ≤ 1000) (i2 : P e (nb ++ grp) σ1 = some (.inr (σ2,c2))) (h : TSv C H ca σ d nb nv vs w) (hgl : GLb C.base ad w) :
    Calls Tryz.prog 120 #[CP C.tb,.iface 190 (.pointer (some ⟨b,0,none⟩))] w (TSE C ad H ca (.inr (σ2,c2)) nb w) := by
  obtain ⟨T0,b0,rfl⟩ := hp.val
  have hbw := h.ms.cs.fz _ _ hb
  have k1 := blk_c hbw 1 rfl
  have k2 := blk_c hbw 2 rfl
  have hbl := lt_of_block hbw
  have CG := hid (group_e (capB := capB) hP hB h0 hn hm hm9 he i1 h.drew (hgl.gb (Gb.refl _ w).drew))
  have Q := hid (And.intro hb (And.intro hp (And.intro h0 (And.intro hgl hP))))
  have HK := hid hk
  have I2 := hid i2
  have a0 := xA_LetRec_Name b
  have a1 := xA_LetRec_Fun b
  have a2 := xA_LetRec_If b
  have a3 := xA_LetRec_Let b
  have a4 := xA_LetRec_LetRec b
  clear hB hp hb hm he i1 h hgl hP hbw h0 hk i2
  unfold CP at *
  go_enter Tryz.func120,Tryz.ntmps120
  go_wp2_with fail
  go_region_with (first
    | (go_at_call 158; refine CG.out.mono ?_; rintro e9 w2 ⟨H2,ca2,d2,nv2,vs2,nk,g,cap,rfl,t2,mx2,g2,ah,ln⟩; have fz2 := t2.ms.cs.fz _ _ (mx2.ext _ _ Q.out.1); have k2' := blk_c fz2 2 rfl; have hbl2 := lt_of_block fz2; have mxl : MX H H2 ca ca2 w := mx2.low (Nat.le_refl _); have CW := hid (rec_within (C := C) (cap := cap) (Q.out.2.2.2.2 C.keep) (mxl.prep Q.out.2.1) I2.out (Q.out.2.2.2.1.gb g2.drewL) t2 ah ln Q.out.2.2.1 HK.out); have QG := hid (And.intro mxl g2.drewL); clear fz2 t2 mx2 g2 ah ln mxl; unfold CP at CW)
    | (go_at_call 157; refine CW.out.mono ?_; rintro e9 w3 h3; have H9 := hid (TSE.low (H := H) (ca := ca) (w := w) h3 QG.out.1 QG.out.2); obtain ⟨_,_,_,x9,_,_,rfl,_⟩ := h3; unfold CP at *))
  all_goals go_wp2
  all_goals go_ret
  all_goals exact H9.out
theorem findrec_e1 {C : TC} {ad : Nat → Addr} {P : Ex → List (List UInt8 × Et) → Sto → Option (Sum Nat (Sto × Nat))} (hP : ∀ K,PAE { C with keep := K } ad P) {e : Ex} {u dep : Value} {b m m2 most gB capB : Nat} {ns : List (List UInt8)} {us : List Value} {es : List Ex} {σ : Sto} {nb : List (List UInt8 × Et)} {H : Nat → Option Obj} {ca : List Nat} {d : Nat → Nat} {nv : Value} {vs : List NE} {w : World} {q : Nat}
    (hb : H b = some (.cells #[dep,.slice (some ⟨gB,0,none⟩) ns.length capB,u] 194 (0,0))) (hB : GRd H gB ns us es m) (hp : PRep m2 H u e) (h0 : 0 < ns.length) (hn : ns.length ≤ 1000) (hm : C.most = .int .i64 (most : Int)) (hm9 : most ≤ 1000) (he : C.each = .nilFunc) (i1 : groupE P ns es nb most (ns.map fun n => (n,vT [97])) σ = some (.inl q)) (h : TSv C H ca σ d nb nv vs w) (hgl : GLb C.base ad w) :
    Calls Tryz.prog 120 #[CP C.tb,.iface 190 (.pointer (some ⟨b,0,none⟩))] w (TSE C ad H ca (.inl q) nb w) := by
  obtain ⟨T0,b0,rfl⟩ := hp.val
  have hbw := h.ms.cs.fz _ _ hb
  have k1 := blk_c hbw 1 rfl
  have k2 := blk_c hbw 2 rfl
  have hbl := lt_of_block hbw
  have CG := hid (group_e (capB := capB) hP hB h0 hn hm hm9 he i1 h.drew (hgl.gb (Gb.refl _ w).drew))
  have Q := hid (And.intro hb (And.intro hp (And.intro h0 (And.intro hgl hP))))
  have HK := hid True.intro
  have I2 := hid True.intro
  have a0 := xA_LetRec_Name b
  have a1 := xA_LetRec_Fun b
  have a2 := xA_LetRec_If b
  have a3 := xA_LetRec_Let b
  have a4 := xA_LetRec_LetRec b
  clear hB hp hb hm he i1 h hgl hP hbw h0
  unfold CP at *
  go_enter Tryz.func120,Tryz.ntmps120
  go_wp2_with fail
  go_region_with (go_at_call 158; refine CG.out.mono ?_; rintro e9 w2 ⟨rfl,g2⟩; have Q9 := hid g2.drewL; clear g2; unfold fltE errV; refine by_end w ⟨rfl,rfl,Q9.out⟩ ?_)
  all_goals trivial
theorem findrec_e2 {C : TC} {ad : Nat → Addr} {P : Ex → List (List UInt8 × Et) → Sto → Option (Sum Nat (Sto × Nat))} (hP : ∀ K,PAE { C with keep := K } ad P) {e : Ex} {u dep : Value} {b m m2 most gB capB : Nat} {ns : List (List UInt8)} {us : List Value} {es : List Ex} {σ : Sto} {nb : List (List UInt8 × Et)} {H : Nat → Option Obj} {ca : List Nat} {d : Nat → Nat} {nv : Value} {vs : List NE} {w : World} {q : Nat} {σ1 : Sto} {grp : List (List UInt8 × Et)}
    (hb : H b = some (.cells #[dep,.slice (some ⟨gB,0,none⟩) ns.length capB,u] 194 (0,0))) (hB : GRd H gB ns us es m) (hp : PRep m2 H u e) (h0 : 0 < ns.length) (hn : ns.length ≤ 1000) (hm : C.most = .int .i64 (most : Int)) (hm9 : most ≤ 1000) (he : C.each = .nilFunc) (i1 : groupE P ns es nb most (ns.map fun n => (n,vT [97])) σ = some (.inr (σ1,grp))) (hk : nb.length + grp.length ≤ 1000) (i2 : P e (nb ++ grp) σ1 = some (.inl q)) (h : TSv C H ca σ d nb nv vs w) (hgl : GLb C.base ad w) :
    Calls Tryz.prog 120 #[CP C.tb,.iface 190 (.pointer (some ⟨b,0,none⟩))] w (TSE C ad H ca (.inl q) nb w) := by
  obtain ⟨T0,b0,rfl⟩ := hp.val
  have hbw := h.ms.cs.fz _ _ hb
  have k1 := blk_c hbw 1 rfl
  have k2 := blk_c hbw 2 rfl
  have hbl := lt_of_block hbw
  have CG := hid (group_e (capB := capB) hP hB h0 hn hm hm9 he i1 h.drew (hgl.gb (Gb.refl _ w).drew))
  have Q := hid (And.intro hb (And.intro hp (And.intro h0 (And.intro hgl hP))))
  have HK := hid hk
  have I2 := hid i2
  have a0 := xA_LetRec_Name b
  have a1 := xA_LetRec_Fun b
  have a2 := xA_LetRec_If b
  have a3 := xA_LetRec_Let b
  have a4 := xA_LetRec_LetRec b
  clear hB hp hb hm he i1 h hgl hP hbw h0 hk i2
  unfold CP at *
  go_enter Tryz.func120,Tryz.ntmps120
  go_wp2_with fail
  go_region_with (first
    | (go_at_call 158; refine CG.out.mono ?_; rintro e9 w2 ⟨H2,ca2,d2,nv2,vs2,nk,g,cap,rfl,t2,mx2,g2,ah,ln⟩; have fz2 := t2.ms.cs.fz _ _ (mx2.ext _ _ Q.out.1); have k2' := blk_c fz2 2 rfl; have hbl2 := lt_of_block fz2; have mxl : MX H H2 ca ca2 w := mx2.low (Nat.le_refl _); have CW := hid (rec_within (C := C) (cap := cap) (Q.out.2.2.2.2 C.keep) (mxl.prep Q.out.2.1) I2.out (Q.out.2.2.2.1.gb g2.drewL) t2 ah ln Q.out.2.2.1 HK.out); have QG := hid (And.intro mxl g2.drewL); clear fz2 t2 mx2 g2 ah ln mxl; unfold CP at CW)
    | (go_at_call 157; refine CW.out.mono ?_; rintro e9 w3 ⟨rfl,g3⟩; have Q9 := hid (QG.out.2.tr g3); clear g3; unfold fltE errV; refine by_end w ⟨rfl,rfl,Q9.out⟩ ?_))
  all_goals trivial
end Go.Proofs.YtcdijppegfcoaabGreatDoor
