import Derived.Test.YtcdijppegfcoaabGreatDoorZC29
import Derived.Test.YtcdijppegfcoaabGreatDoorZC30
import Derived.Defers
import Derived.Recover
import Derived.Test.YtcdijppegfcoaabGreatDoorZC19
set_option maxRecDepth 100000
set_option maxHeartbeats 4000000
namespace Go.Proofs.YtcdijppegfcoaabGreatDoor
open Go.RowKit
def PW (C : TC) (ad : Nat → Addr) (c : WCt) (stop : Int) (L : List (List (List UInt8) × List (List UInt8))) (H : Nat → Option Obj) (ca : List Nat) (r : Sum Nat (Sto × Nat)) (nb : List (List UInt8 × Et)) (w : World) (e : Ending) (w' : World) : Prop :=
  ∃ K',WS c stop C.base K' L w' ∧ Gb (fun k => C.base ≤ k ∨ k = c.wb) w w' ∧ match r with
  | .inl q => e = fltE (ad q)
  | .inr x => ∃ (H' : Nat → Option Obj) (ca' : List Nat) (d' : Nat → Nat) (y : Nat) (nv : Value) (vs : List NE),e = .returned (CP y) ∧ ca'[x.2]? = some y ∧ TSv (C.kept K') H' ca' x.1 d' nb nv vs w' ∧ MX H H' ca ca' w
theorem findw_1 {C : TC} {ad : Nat → Addr} {c : WCt} {stop z : Nat} {L : List (List (List UInt8) × List (List UInt8))} {P : Ex → List (List UInt8 × Et) → Sto → Option (Sum Nat (Sto × Nat))} (hP : ∀ K,PAE { C with keep := K } ad P) {e : Ex} {u dep : Value} {b m m2 most gB capB : Nat} {ns : List (List UInt8)} {us : List Value} {es : List Ex} {σ : Sto} {nb : List (List UInt8 × Et)} {H : Nat → Option Obj} {ca : List Nat} {d : Nat → Nat} {nv : Value} {vs : List NE} {w : World} {q : Nat}
    (hb : H b = some (.cells #[dep,.slice (some ⟨gB,0,none⟩) ns.length capB,u] 194 (0,0))) (hB : GRd H gB ns us es m) (hp : PRep m2 H u e) (h0 : 0 < ns.length) (hn : ns.length ≤ 1000) (hm : C.most = .int .i64 (most : Int)) (hm9 : most ≤ 1000) (he : C.each = c.f) (i1 : groupW P ns es nb stop most 0 (ns.map fun n => (n,vT [97])) σ = some (L,.inl q)) (hws : WS c (stop : Int) C.base C.keep [] w) (hH : H c.wb = none ∧ ∀ k,k ∈ C.keep → H k = none) (hmw : C.mb ≠ c.wb) (hz : z ≤ c.wb) (hzb : z ≤ C.base) (h : TSv C H ca σ d nb nv vs w) (hgl : GLb z ad w) :
    Calls Tryz.prog 120 #[CP C.tb,.iface 190 (.pointer (some ⟨b,0,none⟩))] w (PW C ad c stop L H ca (.inl q) nb w) := by
  obtain ⟨T0,b0,rfl⟩ := hp.val
  have hbw := h.ms.cs.fz _ _ hb
  have k1 := blk_c hbw 1 rfl
  have k2 := blk_c hbw 2 rfl
  have hbl := lt_of_block hbw
  have gD : Gb (fun _ => False) w w.drew := (Gb.refl _ w).drew
  have CG := hid (group_w (capB := capB) hP hB h0 hn hm hm9 he i1 (hws.same gD (fun k e => e.elim)) hH hmw hz hzb h.drew (hgl.at gD (fun k e => e.elim)))
  have Q := hid (And.intro hb (And.intro hp (And.intro h0 (And.intro hgl hP))))
  have HK := hid True.intro
  have I2 := hid True.intro
  have a0 := xA_LetRec_Name b
  have a1 := xA_LetRec_Fun b
  have a2 := xA_LetRec_If b
  have a3 := xA_LetRec_Let b
  have a4 := xA_LetRec_LetRec b
  clear hB hp hb hm he i1 h hgl hP hbw h0 hws hH gD
  unfold CP at *
  go_enter Tryz.func120,Tryz.ntmps120
  go_wp2_with fail
  go_region_with (go_at_call 158; refine CG.out.mono ?_; rintro e9 w2 ⟨K2,ws2,g2,rfl⟩; have Q9 := hid (show PW C ad c stop L H ca (.inl q) nb w (fltE (ad q)) w2 from ⟨K2,ws2,g2.drewL,rfl⟩); clear g2 ws2; unfold fltE errV; unfold fltE errV at Q9; refine by_end w ⟨rfl,Q9.out⟩ ?_)
  all_goals trivial
theorem findw_0 {C : TC} {ad : Nat → Addr} {c : WCt} {stop z : Nat} {L : List (List (List UInt8) × List (List UInt8))} {P : Ex → List (List UInt8 × Et) → Sto → Option (Sum Nat (Sto × Nat))} (hP : ∀ K,PAE { C with keep := K } ad P) {e : Ex} {u dep : Value} {b m m2 most gB capB : Nat} {ns : List (List UInt8)} {us : List Value} {es : List Ex} {σ : Sto} {nb : List (List UInt8 × Et)} {H : Nat → Option Obj} {ca : List Nat} {d : Nat → Nat} {nv : Value} {vs : List NE} {w : World} {σ1 σ2 : Sto} {c2 : Nat} {grp : List (List UInt8 × Et)}
    (hb : H b = some (.cells #[dep,.slice (some ⟨gB,0,none⟩) ns.length capB,u] 194 (0,0))) (hB : GRd H gB ns us es m) (hp : PRep m2 H u e) (h0 : 0 < ns.length) (hn : ns.length ≤ 1000) (hm : C.most = .int .i64 (most : Int)) (hm9 : most ≤ 1000) (he : C.each = c.f) (i1 : groupW P ns es nb stop most 0 (ns.map fun n => (n,vT [97])) σ = some (L,.inr (σ1,grp))) (hk : nb.length + grp.length ≤ 1000) (i2 : P e (nb ++ grp) σ1 = some (.inr (σ2,c2))) (hws : WS c (stop : Int) C.base C.keep [] w) (hH : H c.wb = none ∧ ∀ k,k ∈ C.keep → H k = none) (hmw : C.mb ≠ c.wb) (hz : z ≤ c.wb) (hzb : z ≤ C.base) (h : TSv C H ca σ d nb nv vs w) (hgl : GLb z ad w) :
    Calls Tryz.prog 120 #[CP C.tb,.iface 190 (.pointer (some ⟨b,0,none⟩))] w (PW C ad c stop L H ca (.inr (σ2,c2)) nb w) := by
  obtain ⟨T0,b0,rfl⟩ := hp.val
  have hbw := h.ms.cs.fz _ _ hb
  have k1 := blk_c hbw 1 rfl
  have k2 := blk_c hbw 2 rfl
  have hbl := lt_of_block hbw
  have gD : Gb (fun _ => False) w w.drew := (Gb.refl _ w).drew
  have CG := hid (group_w (capB := capB) hP hB h0 hn hm hm9 he i1 (hws.same gD (fun k e => e.elim)) hH hmw hz hzb h.drew (hgl.at gD (fun k e => e.elim)))
  have Q := hid (And.intro hb (And.intro hp (And.intro h0 (And.intro hgl hP))))
  have HK := hid hk
  have I2 := hid i2
  have a0 := xA_LetRec_Name b
  have a1 := xA_LetRec_Fun b
  have a2 := xA_LetRec_If b
  have a3 := xA_LetRec_Let b
  have a4 := xA_LetRec_LetRec b
  clear hB hp hb hm he i1 h hgl hP hbw h0 hws hH gD hk i2
  unfold CP at *
  go_enter Tryz.func120,Tryz.ntmps120
  go_wp2_with fail
  go_region_with (first
    | (go_at_call 158; refine CG.out.mono ?_; rintro e9 w2 ⟨K2,ws2,g2,H2,ca2,d2,nv2,vs2,nk,g,cap,rfl,t2,mx2,ah,ln⟩; have fz2 := t2.ms.cs.fz _ _ (mx2.ext _ _ Q.out.1); have k2' := blk_c fz2 2 rfl; have hbl2 := lt_of_block fz2; have mxl : MX H H2 ca ca2 w := mx2.low (Nat.le_refl _); have gl2 := (Q.out.2.2.2.1.at g2.drewL (fun k e => by rcases e with e | e; exact Nat.le_trans hzb e; rw [e]; exact hz)).re hzb t2.bs; have CW := hid (rec_within (C := C.kept K2) (cap := cap) (Q.out.2.2.2.2 K2) (mxl.prep Q.out.2.1) I2.out gl2 t2 ah ln Q.out.2.2.1 HK.out); have QG := hid (And.intro mxl (And.intro g2.drewL ws2)); clear fz2 t2 mx2 g2 ah ln mxl ws2 gl2; unfold CP TC.kept at CW)
    | (go_at_call 157; refine CW.out.mono ?_; rintro e9 w3 ⟨H3,ca3,d3,x9,nv3,vs3,rfl,ex3,t3,mx3,g3⟩; have g3' : Gb (C.kept K2).own w2 w3 := g3; have H9 := hid (show PW C ad c stop L H ca (.inr (σ2,c2)) nb w (.returned (CP x9)) w3 from ⟨K2,QG.out.2.2.same g3' (fun k e => e),QG.out.2.1.tr (g3'.mono fun k e => Or.inl e.1),H3,ca3,d3,x9,nv3,vs3,rfl,ex3,t3,QG.out.1.trans mx3 QG.out.2.1.size⟩); clear ex3 t3 mx3 g3 g3'; unfold CP at *))
  all_goals go_wp2
  all_goals go_ret
  all_goals exact H9.out
theorem liftE_some {r : Option (Sto × Nat)} {z : Sum Nat (Sto × Nat)} (h : liftE r = some z) : ∃ σ c,r = some (σ,c) ∧ z = .inr (σ,c) := by
  match r,h with
  | none,h => cases h
  | some (σ,c),h => exact ⟨σ,c,rfl,(Option.some.inj h).symm⟩
theorem withE_some {P : Ex → List (List UInt8 × Et) → Sto → Option (Sum Nat (Sto × Nat))} {b : Ex} {nb nbs : List (List UInt8 × Et)} {σ : Sto} {z : Sum Nat (Sto × Nat)} (h : withE P b nb nbs σ = some z) : nb.length + nbs.length ≤ 1000 ∧ P b (nb ++ nbs) σ = some z := by
  unfold withE at h
  split at h
  · rename_i h1; exact ⟨h1,h⟩
  · cases h
theorem assert_fault (v : Value) (w : World) : (Instr.typeAssert (.iface 165 v) 20 165 true).run Tryz.prog w = .ok (.tuple #[v,.bool true]) w := by kernel_rfl
theorem catch_fault (q : Nat) (a : Addr) (v1 : Value) (w : World) (h1 : w.cell? ⟨q,0,none⟩ = some v1) (f1 : w.frozen? ⟨q,0,none⟩ = false) (hql : q < w.heap.size) :
    CallsD Tryz.prog 73 #[.pointer (some ⟨q,0,none⟩)] (.panicking [{ v := .iface 165 (.agg #[errV a]),recovered := false }]) w fun e u' w' =>
      e = .returned (.tuple #[]) ∧ u' = .panicking [{ v := .iface 165 (.agg #[errV a]),recovered := true }] ∧ w' = (w.setCell ⟨q,0,none⟩ (errV a)).alloc (.cells #[errV a] 165) := by
  have a1 := fun x => cell_past h1 x
  have g1 := fun x => frozen_past h1 f1 x
  have hq1 : q ≠ w.heap.size := by omega
  have hq2 : w.heap.size ≠ q := by omega
  refine callsD_of_wpS Tryz.func73 rfl fun c₀ cs hu => ?_
  have e0 : (#[Value.pointer (some ⟨q,0,none⟩)] ++ Array.replicate (Tryz.f73.ntmps - (#[Value.pointer (some ⟨q,0,none⟩)] : Array Value).size) undef) = #[Value.pointer (some ⟨q,0,none⟩),undef,undef,undef,undef,undef,undef,undef,undef,undef,undef,undef] := rfl
  rw [e0]
  clear e0
  apply wpS_seq
  apply wpS_region
  simp [wpOpsS,go_sem,recoverD,hu,Exit.thenS]
  refine wpS_of_wp ?_
  have hta := assert_fault
  unfold errV
  go_wp2
  refine ⟨rfl,_,rfl,.tuple #[],?_,rfl,rfl,rfl⟩
  simp [results,Tryz.results73]
def partL (ge : List (List UInt8 × Et)) (f : Nat) (e : Ex) (nb : List (List UInt8 × Et)) (σ : Sto) : Option (Sum Nat (Sto × Nat)) := liftE (partT ge f e nb σ)
theorem partL_pae {C : TC} {ad : Nat → Addr} (f : Nat) : PAE C ad (partL C.ge f) := by
  intro e v m σ nb r H ca d nv vs w hp hr h _
  obtain ⟨σ',c,q1,rfl⟩ := liftE_some hr
  exact part_any (C := C) f e v m σ nb σ' c H ca d nv vs w hp q1 h
def recW (ge : List (List UInt8 × Et)) (most stop f : Nat) (e : Ex) : Option (List (List (List UInt8) × List (List UInt8)) × Sum Nat (Sto × Nat)) :=
  if e.op = kRec then if 0 < e.names.length then if e.names.length ≤ 1000 then match e.kids.getLast? with
    | none => none
    | some b => match groupW (partL ge f) e.names e.kids.dropLast [] stop most 0 (e.names.map fun n => (n,vT [97])) ⟨[],[]⟩ with
      | none => none
      | some (L,.inl q) => some (L,.inl q)
      | some (L,.inr x) => match withE (partL ge f) b [] x.2 x.1 with
        | none => none
        | some (.inl _) => none
        | some (.inr y) => if bigS y.1 (cT y.2) = some false then some (L,.inr y) else none
  else none else none else none
theorem partw {C : TC} {ad : Nat → Addr} {c : WCt} {stop : Int} {L : List (List (List UInt8) × List (List UInt8))} {H : Nat → Option Obj} {ca : List Nat} {r : Sum Nat (Sto × Nat)} {nb : List (List UInt8 × Et)} {w : World} {T0 : TypeId} {b0 : Nat} (CF0 : Calls Tryz.prog 120 #[CP C.tb,.iface T0 (.pointer (some ⟨b0,0,none⟩))] w (PW C ad c stop L H ca r nb w)) (hb : ∀ y,r = .inr y → bigS y.1 (cT y.2) = some false) :
    Calls Tryz.prog 75 #[CP C.tb,.iface T0 (.pointer (some ⟨b0,0,none⟩))] w (PW C ad c stop L H ca r nb w) := by
  have CF := hid CF0
  clear CF0
  cases r with
  | inl q =>
    unfold CP at *
    go_enter Tryz.func75,Tryz.ntmps75
    go_wp2_with fail
    refine CF.out.mono ?_
    rintro e w1 ⟨K1,ws1,g1,rfl⟩
    have Q := hid (show PW C ad c stop L H ca (.inl q) nb w (fltE (ad q)) w1 from ⟨K1,ws1,g1,rfl⟩)
    clear g1 ws1 CF
    unfold fltE errV
    unfold fltE errV at Q
    go_wp2
    exact ⟨rfl,Q.out⟩
  | inr y =>
    obtain ⟨σ1,c1⟩ := y
    have HB := hid (hb _ rfl)
    clear hb
    unfold CP at *
    go_enter Tryz.func75,Tryz.ntmps75
    go_wp2_with fail
    refine CF.out.mono ?_
    rintro e w1 ⟨K1,ws1,g1,H1,ca1,d1,x,nv1,vs1,rfl,ex,t1,mx1⟩
    have CB := hid (ebig (v := CI x) ⟨1,er_cell ex⟩ HB.out t1.ms.cs)
    have Q := hid (And.intro ex (And.intro t1 (And.intro mx1 (And.intro g1 ws1))))
    clear ex t1 mx1 g1 ws1 CF
    unfold CI CP at *
    go_wp2_with fail
    refine CB.out.mono ?_
    rintro e w2 ⟨rfl,c2,g2⟩
    obtain ⟨ex,t1,mx1,g1,ws1⟩ := Q.out
    have gO : Gb (C.kept K1).own w1 w2 := g2.mono fun k e => t1.clo k e
    have Q2 := hid (show PW C ad c stop L H ca (.inr (σ1,c1)) nb w (.returned (CP x)) w2 from ⟨K1,ws1.same gO (fun k e => e),g1.tr (gO.mono fun k e => Or.inl e.1),H1,ca1,d1,x,nv1,vs1,rfl,ex,t1.cs c2 g2,mx1⟩)
    clear ex t1 mx1 g1 ws1 gO Q CB c2 g2
    unfold CP at *
    go_wp2
    go_ret
    exact Q2.out
theorem part_w {C : TC} {ad : Nat → Addr} {c : WCt} {stop z most f : Nat} {L : List (List (List UInt8) × List (List UInt8))} {H : Nat → Option Obj} {r : Sum Nat (Sto × Nat)} {e : Ex} {v : Value} {m : Nat} {d : Nat → Nat} {nv : Value} {vs : List NE} {w : World} (hp : PRep m H v e) (hr : recW C.ge most stop f e = some (L,r)) (hm : C.most = .int .i64 (most : Int)) (hm9 : most ≤ 1000) (he : C.each = c.f) (hws : WS c (stop : Int) C.base C.keep [] w) (hH : H c.wb = none ∧ ∀ k,k ∈ C.keep → H k = none) (hmw : C.mb ≠ c.wb) (hz : z ≤ c.wb) (hzb : z ≤ C.base) (h : TSv C H [] ⟨[],[]⟩ d [] nv vs w) (hgl : GLb z ad w) :
    Calls Tryz.prog 75 #[CP C.tb,v] w (PW C ad c stop L H [] r [] w) := by
  cases m with
  | zero => exact absurd hp id
  | succ m =>
  obtain ⟨b,us,rfl,hn,hl,hk⟩ := hp
  have hP : ∀ K,PAE { C with keep := K } ad (partL C.ge f) := fun K => partL_pae (C := { C with keep := K }) f
  unfold recW at hr
  split at hr
  case isFalse => cases hr
  rename_i hop
  split at hr
  case isFalse => cases hr
  rename_i h0n
  split at hr
  case isFalse => cases hr
  rename_i hn9
  rcases hn with ⟨h0,_⟩ | ⟨h0,_⟩ | ⟨h0,_⟩ | ⟨h0,_⟩ | ⟨h0,_⟩ | ⟨h0,us',u,gv,h1,h2,h3,rfl,h5,h6⟩ | ⟨h0,_⟩ | ⟨h0,_⟩
  · rw [h0] at hop; exact absurd hop (by decide)
  · rw [h0] at hop; exact absurd hop (by decide)
  · rw [h0] at hop; exact absurd hop (by decide)
  · rw [h0] at hop; exact absurd hop (by decide)
  · rw [h0] at hop; exact absurd hop (by decide)
  · rw [h0]
    obtain ⟨gB,capB,cur,rfl,hB1,hB2⟩ := h5
    have hlk : e.kids.length = e.names.length + 1 := h3
    have hdl : e.kids.dropLast.length = e.names.length := by rw [List.length_dropLast,hlk]; rfl
    obtain ⟨bd,hbd⟩ : ∃ x,e.kids[e.names.length]? = some x := ⟨_,List.getElem?_eq_getElem (by omega)⟩
    have hgl9 : e.kids.getLast? = some bd := by rw [List.getLast?_eq_getElem?,hlk]; exact hbd
    rw [hgl9] at hr
    simp only [] at hr
    have hpB : PRep m H u bd := hk e.names.length bd u (by rw [List.getElem?_append_right (by omega),h2,Nat.sub_self]; rfl) hbd
    have gr : GRd H gB e.names us' e.kids.dropLast m := ⟨⟨cur,hB1,hB2⟩,h2,hdl,fun i x y e1 e2 => by
      have hi : i < e.names.length := by rw [← h2]; exact (List.getElem?_eq_some_iff.1 e1).1
      refine hk i y x (by rw [List.getElem?_append_left (by rw [h2]; exact hi)]; exact e1) ?_
      rw [List.getElem?_dropLast] at e2
      split at e2
      · exact e2
      · cases e2⟩
    cases q1 : groupW (partL C.ge f) e.names e.kids.dropLast [] stop most 0 (e.names.map fun n => (n,vT [97])) ⟨[],[]⟩ with
    | none => rw [q1] at hr; cases hr
    | some rg =>
    obtain ⟨Lg,rg⟩ := rg
    rw [q1] at hr
    cases rg with
    | inl q =>
      cases hr
      exact partw (findw_1 hP h6 gr hpB h0n hn9 hm hm9 he q1 hws hH hmw hz hzb h hgl) (fun y e => by cases e)
    | inr x =>
      obtain ⟨σ1,grp⟩ := x
      simp only [] at hr
      cases q2 : withE (partL C.ge f) bd [] grp σ1 with
      | none => rw [q2] at hr; cases hr
      | some rw2 =>
      rw [q2] at hr
      cases rw2 with
      | inl q => cases hr
      | inr y =>
        simp only [] at hr
        split at hr
        case isFalse => cases hr
        rename_i hbig
        cases hr
        obtain ⟨w1,w2⟩ := withE_some q2
        exact partw (findw_0 hP h6 gr hpB h0n hn9 hm hm9 he q1 w1 w2 hws hH hmw hz hzb h hgl) (fun y e => by cases e; exact hbig)
  · rw [h0] at hop; exact absurd hop (by decide)
  · rw [h0] at hop; exact absurd hop (by decide)
theorem WS.off {c : WCt} {stop : Int} {base : Nat} {K : List Nat} {rs : List (List (List UInt8) × List (List UInt8))} {w w' : World} {R : Nat → Prop} (h : WS c stop base K rs w) (g : Gb R w w') (hR : ∀ k,R k → k ≠ c.wb ∧ k ≠ c.ob ∧ k ≠ c.sb ∧ k ∉ K) : WS c stop base K rs w' := by
  obtain ⟨rv,rows,h1,h2,h3,h4,h5⟩ := h.blk
  have st : ∀ {v l},StrR base K v l w → StrR base K v l w' := fun q => ⟨ownsRow_gb0 q.1 g (fun k hk e => (hR k e).2.2.2 (q.2 k hk)),q.2⟩
  exact ⟨⟨rv,rows,g.at h1 (fun e => (hR _ e).1 rfl),h2,ownsRow_gb0 h3 g (fun k hk e => (hR k e).2.2.2 (h4 k hk)),h4,fun i row r e1 e2 => ⟨(h5 i row r e1 e2).1,st (h5 i row r e1 e2).2.1,st (h5 i row r e1 e2).2.2⟩⟩,g.at h.oth (fun e => (hR _ e).2.1 rfl),g.at h.stp (fun e => (hR _ e).2.2.1 rfl),h.lo,fun k hk => ⟨(h.kp k hk).1,Nat.lt_of_lt_of_le (h.kp k hk).2 g.size⟩,h.few⟩
theorem WS.high {c : WCt} {stop : Int} {b b' : Nat} {w : World} (h : WS c stop b [] [] w) (hb : b ≤ b') : WS c stop b' [] [] w := by
  obtain ⟨rv,rows,h1,h2,h3,h4,h5⟩ := h.blk
  have hr : rows = [] := List.length_eq_zero_iff.1 h2
  have lo := h.lo
  refine ⟨⟨rv,rows,h1,h2,?_,h4,fun i row r e => by rw [hr] at e; simp at e⟩,h.oth,h.stp,⟨by omega,by omega,by omega,lo.2.2.2⟩,fun k hk => (by cases hk),h.few⟩
  obtain ⟨q1,q2⟩ := h3
  refine ⟨q1,?_⟩
  rcases q2 with q2 | ⟨g,cap,cur,e,q3⟩
  · exact Or.inl q2
  · have := h4 g (by rw [e]; rfl)
    cases this
theorem ofw_1 {ad : Nat → Addr} {c : WCt} {stop z most : Nat} {L : List (List (List UInt8) × List (List UInt8))} {H : Nat → Option Obj} {e : Ex} {v : Value} {m mb f : Nat} {ge : List (List UInt8 × Et)} {q : Nat} {w : World} (hp : PRep m H v e) (hz : Fz H w) (hge : GE H [] w mb ge) (hm9 : most ≤ 1000) (hgl : GLb z ad w) (hws : WS c stop w.heap.size [] [] w) (hH : H c.wb = none) (hmw : mb ≠ c.wb) (hzw : z ≤ c.wb) (hr : recW ge most stop f e = some (L,.inl q)) :
    Calls Tryz.prog 47 #[v,.map (some mb),.agg #[.int .i64 (most : Int),c.f]] w fun e w' => (∃ base K,w.heap.size ≤ base ∧ WS c stop base K L w') ∧ Gb (fun k => k = c.wb) w w' ∧ e = .returned (.tuple #[.agg #[.nilIface],errV (ad q)]) := by
  have hmf : ∀ (fn : Fn) (first cap : Array Value) (w : World),(Instr.makeFunc fn first cap).run Tryz.prog w = .ok (.func fn first cap) w := fun _ _ _ _ => rfl
  obtain ⟨T0,b0,rfl⟩ := hp.val
  have Q := hid (And.intro hp (And.intro hz (And.intro hge (And.intro hr (And.intro hm9 (And.intro hgl (And.intro hws (And.intro hH True.intro))))))))
  have lw : c.wb < w.heap.size ∧ c.ob < w.heap.size ∧ c.sb < w.heap.size := ⟨hws.lo.1,hws.lo.2.1,hws.lo.2.2.1⟩
  have hzs : z ≤ w.heap.size := by omega
  clear hp hz hge hr hm9 hgl hws hH
  go_enter_defers Tryz.func47,Tryz.ntmps47
  go_wp2_with fail
  generalize hW : (((w.alloc (.cells #[.int .i64 (most : Int),c.f] 113)).alloc (.cells #[.nilIface] 109)).alloc (.cells #[.nilIface] 56)) = W3
  have s3 : W3.heap.size = w.heap.size + 1 + 1 + 1 := by rw [← hW]; simp
  have g3 : w.grownBy W3 none := by rw [← hW]; exact (World.grownBy_alloc _ _ _).trans ((World.grownBy_alloc _ _ _).trans (World.grownBy_alloc _ _ _))
  have n1 : W3.heap[w.heap.size + 1]? = some (.cells #[.nilIface] 109 (0,0)) := by
    rw [← hW,Below.heap_alloc _ _ _ (by simp)]
    exact heap_alloc_at _ _ _ (by simp)
  have n2 : W3.heap[w.heap.size + 1 + 1]? = some (.cells #[.nilIface] 56 (0,0)) := by
    rw [← hW]
    exact heap_alloc_at _ _ _ (by simp)
  clear hW
  rw [← s3]
  have z3 : Fz H W3 := Q.out.2.1.grown g3
  have t0 := TSv.start (fuel := (most : Int)) (each := c.f) z3 (Q.out.2.2.1.step (R := fun _ => False) (MX.refl _ _ w) (Gb.new g3) id)
  have gN : Gb (fun _ => False) w (W3.alloc (.cells #[.int .i64 0,.int .i64 (most : Int),c.f,.map (some mb),.slice none 0 0] 171)) := Gb.new (g3.trans (World.grownBy_alloc _ _ _))
  have gl3 := Q.out.2.2.2.2.2.1.at gN (fun k e => e.elim)
  have ws3 : WS c stop W3.heap.size [] [] (W3.alloc (.cells #[.int .i64 0,.int .i64 (most : Int),c.f,.map (some mb),.slice none 0 0] 171)) := (Q.out.2.2.2.2.2.2.1.off gN (fun k e => e.elim)).high (by omega)
  have HP := hid (part_w (C := ⟨W3.heap.size,.int .i64 (most : Int),c.f,mb,W3.heap.size,ge,[]⟩) (z := z) (f := f) Q.out.1 Q.out.2.2.2.1 rfl Q.out.2.2.2.2.1 rfl ws3 ⟨Q.out.2.2.2.2.2.2.2.1,fun k hk => by cases hk⟩ hmw hzw (show z ≤ W3.heap.size by omega) t0 gl3)
  clear t0 gl3 ws3
  unfold CP at HP
  refine HP.out.mono ?_
  rintro e w4 ⟨K4,ws4,g4,rfl⟩
  have gA : Gb (fun k => k = c.wb) w w4 := (gN.mono fun k e => e.elim).trans g4 (fun i e => by
    rcases e with e | e
    · exact Or.inr (by have h9 : W3.heap.size ≤ i := e; omega)
    · exact Or.inl e)
  have nR : ∀ k,k < W3.heap.size → k ≠ c.wb → ¬ ((TC.mk W3.heap.size (.int .i64 (most : Int)) c.f mb W3.heap.size ge []).base ≤ k ∨ k = c.wb) := fun k h1 h2 e => by
    rcases e with e | e
    · have h9 : W3.heap.size ≤ k := e; omega
    · exact h2 e
  have m1 : w4.heap[w.heap.size + 1]? = some (.cells #[.nilIface] 109 (0,0)) := g4.at (by rw [Below.heap_alloc _ _ _ (by omega)]; exact n1) (nR _ (by omega) (by omega))
  have m2 : w4.heap[w.heap.size + 1 + 1]? = some (.cells #[.nilIface] 56 (0,0)) := g4.at (by rw [Below.heap_alloc _ _ _ (by omega)]; exact n2) (nR _ (by omega) (by omega))
  have kw : ∀ k,k ∈ K4 → W3.heap.size ≤ k := fun k hk => (ws4.kp k hk).1
  have K := hid (And.intro gA (And.intro m1 (And.intro m2 (And.intro ws4 kw))))
  clear g4 gA m1 m2 n1 n2 g3 z3 HP gN nR ws4 kw
  unfold fltE
  go_wp2
  obtain ⟨gA,m1,m2,ws4,kw⟩ := K.out
  refine leaves_cons (f := 73) (args := #[.pointer (some ⟨w.heap.size + 1 + 1,0,none⟩)]) (by simp) (by simp [go_sem]) ?_
  refine (catch_fault (w.heap.size + 1 + 1) (ad q) .nilIface w4 (blk_c m2 0 rfl) (blk_f m2 0) (lt_of_block m2)).mono ?_
  rintro e u' w'' ⟨rfl,rfl,hw''⟩
  have gC : Gb (fun k => k = w.heap.size + 1 + 1) w4 w'' := by
    rw [hw'']
    exact ((Gb.refl (fun k => k = w.heap.size + 1 + 1) w4).set (b := w.heap.size + 1 + 1) (Or.inl rfl) 0 _).alloc _
  have ws9 := ws4.off gC (fun k e => ⟨by omega,by omega,by omega,fun hk => by have := kw k hk; omega⟩)
  have q1 : w''.heap[w.heap.size + 1]? = some (.cells #[.nilIface] 109 (0,0)) := gC.at m1 (by omega)
  have q2 : w''.heap[w.heap.size + 1 + 1]? = some (.cells #[errV (ad q)] 56 (0,0)) := by
    rw [hw'']
    show ((w4.setCell ⟨w.heap.size + 1 + 1,0,none⟩ (errV (ad q))).alloc _).heap[w.heap.size + 1 + 1]? = _
    rw [Below.heap_alloc _ _ _ (by have := lt_of_block m2; simp; omega)]
    exact put_c m2 _
  have r1 := blk_c q1 0 rfl
  have r2 := blk_c q2 0 rfl
  refine ⟨.tuple #[.agg #[.nilIface],errV (ad q)],?_,⟨W3.heap.size,K4,by omega,ws9⟩,gA.trans gC (fun i e => Or.inr (by omega)),rfl⟩
  simp [results,Tryz.results47,go_sem,r1,r2]
theorem ofw_0 {ad : Nat → Addr} {c : WCt} {stop z most : Nat} {L : List (List (List UInt8) × List (List UInt8))} {H : Nat → Option Obj} {e : Ex} {v : Value} {m mb f : Nat} {ge : List (List UInt8 × Et)} {σ : Sto} {cc : Nat} {t : Et} {w : World} (hp : PRep m H v e) (hz : Fz H w) (hge : GE H [] w mb ge) (hm9 : most ≤ 1000) (hgl : GLb z ad w) (hws : WS c stop w.heap.size [] [] w) (hH : H c.wb = none) (hmw : mb ≠ c.wb) (hzw : z ≤ c.wb) (hr : recW ge most stop f e = some (L,.inr (σ,cc))) (hg : generalU σ [] 60 cc = some t) (hn : ncB 60 t = true) :
    Calls Tryz.prog 47 #[v,.map (some mb),.agg #[.int .i64 (most : Int),c.f]] w fun e w' => (∃ base K,w.heap.size ≤ base ∧ WS c stop base K L w') ∧ Gb (fun k => k = c.wb) w w' ∧ ∃ u H',e = .returned (.tuple #[.agg #[u],.nilIface]) ∧ ER H' [] u t ∧ Fz H' w' := by
  have hmf : ∀ (fn : Fn) (first cap : Array Value) (w : World),(Instr.makeFunc fn first cap).run Tryz.prog w = .ok (.func fn first cap) w := fun _ _ _ _ => rfl
  obtain ⟨T0,b0,rfl⟩ := hp.val
  have Q := hid (And.intro hp (And.intro hz (And.intro hge (And.intro hr (And.intro hm9 (And.intro hgl (And.intro hws (And.intro hH (And.intro hg hn)))))))))
  have lw : c.wb < w.heap.size ∧ c.ob < w.heap.size ∧ c.sb < w.heap.size := ⟨hws.lo.1,hws.lo.2.1,hws.lo.2.2.1⟩
  have hzs : z ≤ w.heap.size := by omega
  clear hp hz hge hr hm9 hgl hws hH hg hn
  go_enter_defers Tryz.func47,Tryz.ntmps47
  go_wp2_with fail
  generalize hW : (((w.alloc (.cells #[.int .i64 (most : Int),c.f] 113)).alloc (.cells #[.nilIface] 109)).alloc (.cells #[.nilIface] 56)) = W3
  have s3 : W3.heap.size = w.heap.size + 1 + 1 + 1 := by rw [← hW]; simp
  have g3 : w.grownBy W3 none := by rw [← hW]; exact (World.grownBy_alloc _ _ _).trans ((World.grownBy_alloc _ _ _).trans (World.grownBy_alloc _ _ _))
  have n1 : W3.heap[w.heap.size + 1]? = some (.cells #[.nilIface] 109 (0,0)) := by
    rw [← hW,Below.heap_alloc _ _ _ (by simp)]
    exact heap_alloc_at _ _ _ (by simp)
  have n2 : W3.heap[w.heap.size + 1 + 1]? = some (.cells #[.nilIface] 56 (0,0)) := by
    rw [← hW]
    exact heap_alloc_at _ _ _ (by simp)
  clear hW
  rw [← s3]
  have z3 : Fz H W3 := Q.out.2.1.grown g3
  have t0 := TSv.start (fuel := (most : Int)) (each := c.f) z3 (Q.out.2.2.1.step (R := fun _ => False) (MX.refl _ _ w) (Gb.new g3) id)
  have gN : Gb (fun _ => False) w (W3.alloc (.cells #[.int .i64 0,.int .i64 (most : Int),c.f,.map (some mb),.slice none 0 0] 171)) := Gb.new (g3.trans (World.grownBy_alloc _ _ _))
  have gl3 := Q.out.2.2.2.2.2.1.at gN (fun k e => e.elim)
  have ws3 : WS c stop W3.heap.size [] [] (W3.alloc (.cells #[.int .i64 0,.int .i64 (most : Int),c.f,.map (some mb),.slice none 0 0] 171)) := (Q.out.2.2.2.2.2.2.1.off gN (fun k e => e.elim)).high (by omega)
  have HP := hid (part_w (C := ⟨W3.heap.size,.int .i64 (most : Int),c.f,mb,W3.heap.size,ge,[]⟩) (z := z) (f := f) Q.out.1 Q.out.2.2.2.1 rfl Q.out.2.2.2.2.1 rfl ws3 ⟨Q.out.2.2.2.2.2.2.2.1,fun k hk => by cases hk⟩ hmw hzw (show z ≤ W3.heap.size by omega) t0 gl3)
  clear t0 gl3 ws3
  unfold CP at HP
  refine HP.out.mono ?_
  rintro e w4 ⟨K4,ws4,g4,H4,ca4,d4,x4,nv4,vs4,rfl,ex4,t4,mx4⟩
  have gA : Gb (fun k => k = c.wb) w w4 := (gN.mono fun k e => e.elim).trans g4 (fun i e => by
    rcases e with e | e
    · exact Or.inr (by have h9 : W3.heap.size ≤ i := e; omega)
    · exact Or.inl e)
  have nR : ∀ k,k < W3.heap.size → k ≠ c.wb → ¬ ((TC.mk W3.heap.size (.int .i64 (most : Int)) c.f mb W3.heap.size ge []).base ≤ k ∨ k = c.wb) := fun k h1 h2 e => by
    rcases e with e | e
    · have h9 : W3.heap.size ≤ k := e; omega
    · exact h2 e
  have m1 : w4.heap[w.heap.size + 1]? = some (.cells #[.nilIface] 109 (0,0)) := g4.at (by rw [Below.heap_alloc _ _ _ (by omega)]; exact n1) (nR _ (by omega) (by omega))
  have m2 : w4.heap[w.heap.size + 1 + 1]? = some (.cells #[.nilIface] 56 (0,0)) := g4.at (by rw [Below.heap_alloc _ _ _ (by omega)]; exact n2) (nR _ (by omega) (by omega))
  have kw : ∀ k,k ∈ K4 → W3.heap.size ≤ k := fun k hk => (ws4.kp k hk).1
  have hlow : ∀ k,k < W3.heap.size → H k = none → H4 k = none := fun k hk h => mx4.none (by simp; omega) h
  have hHz : H (w.heap.size + 1) = none ∧ H (w.heap.size + 1 + 1) = none := ⟨Q.out.2.1.none (by omega),Q.out.2.1.none (by omega)⟩
  have h41 := hlow _ (by omega) hHz.1
  have h42 := hlow _ (by omega) hHz.2
  have hcl : ∀ k,InAs ca4 k → W3.heap.size ≤ k ∧ k ∉ K4 := fun k hk => t4.clo k hk
  have gl4 := (Q.out.2.2.2.2.2.1.at gA (fun k e => by rw [e]; exact hzw))
  have tw4 : TabW ca4 w4 := ⟨gl4.tab,fun hm => by have h9 := (hcl _ hm).1; have := gl4.lo2; omega,Nat.lt_of_lt_of_le gl4.lo2 gl4.le⟩
  have HG := hid (General_u (lo := 0) (bv := .map none) ex4 Q.out.2.2.2.2.2.2.2.2.1 t4.ms.cs ⟨Or.inl ⟨rfl,rfl⟩,tw4,Nat.zero_le _⟩)
  have Q4 := hid (And.intro gA (And.intro m1 (And.intro m2 (And.intro h41 (And.intro h42 (And.intro hcl (And.intro ws4 kw)))))))
  have hs4 := gA.size
  have hs5 : W3.heap.size ≤ w4.heap.size := Nat.le_trans (by simp) g4.size
  clear ex4 t4 mx4 g4 gA m1 m2 HP n1 n2 g3 z3 hlow hHz h41 h42 hcl gN nR ws4 kw gl4 tw4
  unfold CP at *
  go_wp2_with fail
  refine HG.out.mono ?_
  rintro e w5 ⟨g5,_,u,H5,rfl,z5,x5,y5,er5⟩
  have hb5 : ∀ k,k < W3.heap.size → ¬ InAs ca4 k := fun k hk hm => by have := (Q4.out.2.2.2.2.2.1 k hm).1; omega
  have m1 : w5.heap[w.heap.size + 1]? = some (.cells #[.nilIface] 109 (0,0)) := g5.at Q4.out.2.1 (hb5 _ (by omega))
  have m2 : w5.heap[w.heap.size + 1 + 1]? = some (.cells #[.nilIface] 56 (0,0)) := g5.at Q4.out.2.2.1 (hb5 _ (by omega))
  have gB : Gb (fun k => k = c.wb) w w5 := Q4.out.1.trans g5 (fun i e => Or.inr (by have := (Q4.out.2.2.2.2.2.1 i e).1; omega))
  have ws5 := Q4.out.2.2.2.2.2.2.1.same g5 (fun k e => Q4.out.2.2.2.2.2.1 k e)
  have hn5 : ∀ k,k < w4.heap.size → H4 k = none → H5 k = none := fun k hk h => by
    cases h9 : H5 k with
    | none => rfl
    | some o =>
      rcases y5 _ o h9 with h1 | h1
      · rw [h] at h1; cases h1
      · omega
  have q51 := hn5 _ (lt_of_block Q4.out.2.1) Q4.out.2.2.2.1
  have q52 := hn5 _ (lt_of_block Q4.out.2.2.1) Q4.out.2.2.2.2.1
  obtain ⟨T1,b1,_,rfl⟩ := er_val er5
  obtain ⟨m5,er5⟩ := er5
  have er6 : ER H5 [] (.iface T1 (.pointer (some ⟨b1,0,none⟩))) t := ⟨m5,er_nc 60 m5 _ t Q.out.2.2.2.2.2.2.2.2.2 er5⟩
  have a0 : w5.cell? ⟨w.heap.size + 1,0,none⟩ = some .nilIface := blk_c m1 0 rfl
  have a1 : w5.cell? ⟨w.heap.size + 1 + 1,0,none⟩ = some .nilIface := blk_c m2 0 rfl
  have u0 : w5.frozen? ⟨w.heap.size + 1,0,none⟩ = false := blk_f m1 0
  have u1 : w5.frozen? ⟨w.heap.size + 1 + 1,0,none⟩ = false := blk_f m2 0
  have M := hid (And.intro gB (And.intro m1 (And.intro m2 (And.intro z5 (And.intro er6 (And.intro q51 (And.intro q52 (And.intro ws5 Q4.out.2.2.2.2.2.2.2))))))))
  clear g5 z5 x5 y5 er5 er6 m1 m2 gB hb5 hn5 q51 q52 HG Q4 ws5
  go_wp2
  refine leaves_cons (f := 73) (args := #[.pointer (some ⟨w.heap.size + 1 + 1,0,none⟩)]) (by simp) (by simp [go_sem]) ?_
  refine (idle_of ⟨w.heap.size + 1 + 1,0,none⟩ _).mono ?_
  rintro e u' w'' ⟨rfl,rfl,hw''⟩
  obtain ⟨g,m1,m2,z5,er6,q51,q52,ws5,kw⟩ := M.out
  have q1 : w''.heap[w.heap.size + 1]? = some (.cells #[.iface T1 (.pointer (some ⟨b1,0,none⟩))] 109 (0,0)) := by
    rw [hw'',Below.heap_setCell _ _ _ _ (by show w.heap.size + 1 ≠ w.heap.size + 1 + 1; omega)]
    exact put_c m1 _
  have q2 : w''.heap[w.heap.size + 1 + 1]? = some (.cells #[.nilIface] 56 (0,0)) := by
    rw [hw'']
    exact put_c (by rw [Below.heap_setCell _ _ _ _ (by show w.heap.size + 1 + 1 ≠ w.heap.size + 1; omega)]; exact m2) _
  have q3 : Fz H5 w'' := fun k o e => by
    rw [hw'',Below.heap_setCell _ _ _ _ (show k ≠ w.heap.size + 1 + 1 from fun e2 => by rw [e2,q52] at e; cases e),Below.heap_setCell _ _ _ _ (show k ≠ w.heap.size + 1 from fun e2 => by rw [e2,q51] at e; cases e)]
    exact z5 k o e
  have gC : Gb (fun k => k = w.heap.size + 1 ∨ k = w.heap.size + 1 + 1) w5 w'' := by
    rw [hw'']
    exact ((Gb.refl (fun k => k = w.heap.size + 1 ∨ k = w.heap.size + 1 + 1) w5).set (b := w.heap.size + 1) (Or.inl (Or.inl rfl)) 0 _).set (b := w.heap.size + 1 + 1) (Or.inl (Or.inr rfl)) 0 _
  have ws9 := ws5.off gC (fun k e => ⟨by omega,by omega,by omega,fun hk => by have := kw k hk; omega⟩)
  have r1 := blk_c q1 0 rfl
  have r2 := blk_c q2 0 rfl
  refine ⟨.tuple #[.agg #[.iface T1 (.pointer (some ⟨b1,0,none⟩))],.nilIface],?_,⟨W3.heap.size,K4,by omega,ws9⟩,g.trans gC (fun i e => Or.inr (by omega)),_,H5,rfl,er6,q3⟩
  simp [results,Tryz.results47,go_sem,r1,r2]
theorem index_s (w : World) (gn cp : Nat) (l : List (List UInt8)) (n : List UInt8) (hl : l.length ≤ 1000000) (hrow : ∀ (j : Nat) (x : List UInt8),l[j]? = some x → w.cell? ⟨gn,j,none⟩ = some (.string (B x))) :
    Calls Tryz.prog 180 #[.slice (some ⟨gn,0,none⟩) l.length cp,.string (B n)] w fun e w' => w' = w ∧ ∃ r : Int,e = .returned (.int .i64 r) ∧ decide (0 ≤ r) = decide (n ∈ l) := by
  have HROW := hid hrow
  clear hrow
  go_enter Tryz.func180,Tryz.ntmps180
  go_wp2_with fail
  go_loopg [8] (l.length + 1) (fun gh i wi => ∃ j : Nat,j ≤ l.length ∧ i = .int .i64 j ∧ gh = l.length - j + 1 ∧ wi = w ∧ Hid (n ∉ l.take j))
  case atStart => exact ⟨0,by omega,rfl,by omega,rfl,hid (by simp)⟩
  case round =>
    obtain ⟨j,hj,rfl,hgj,rfl,HN⟩ := hrel
    by_cases hjl : j < l.length
    · obtain ⟨x,hx⟩ : ∃ x,l[j]? = some x := ⟨l[j],List.getElem?_eq_getElem hjl⟩
      have hcell := HROW.out j x hx
      have HX := hid hx
      clear hx
      by_cases hA : x = n
      · subst hA
        have h1 : ((B x).toList == (B x).toList) = true := beq_self_eq_true _
        go_wp2
        go_ret
        exact ⟨rfl,_,rfl,by rw [decide_eq_true (List.mem_of_getElem? HX.out),decide_eq_true (by omega)]⟩
      · have h1 : ((B n).toList == (B x).toList) = false := by rw [toList_B,toList_B]; exact beq_eq_false_iff_ne.2 (Ne.symm hA)
        have HN2 := hid (show n ∉ l.take (j + 1) from fun hm => by
          rw [List.take_add_one,HX.out] at hm
          rcases List.mem_append.1 hm with hm | hm
          · exact HN.out hm
          · simp at hm; exact hA hm.symm)
        clear hA
        go_wp2
        go_roundg (l.length - (j + 1) + 1)
        case measure => omega
        case rel => exact ⟨j + 1,by omega,by go_num,rfl,rfl,HN2⟩
    · have hje : j = l.length := by omega
      subst hje
      have HN2 := hid (show n ∉ l by have := HN.out; rwa [List.take_length] at this)
      clear HN
      go_wp2
      go_ret
      exact ⟨rfl,_,rfl,by rw [decide_eq_false HN2.out]; rfl⟩
theorem contains_s (w : World) (gn cp : Nat) (l : List (List UInt8)) (n : List UInt8) (hl : l.length ≤ 1000000) (hrow : ∀ (j : Nat) (x : List UInt8),l[j]? = some x → w.cell? ⟨gn,j,none⟩ = some (.string (B x))) :
    Calls Tryz.prog 149 #[.slice (some ⟨gn,0,none⟩) l.length cp,.string (B n)] w fun e w' => w' = w ∧ e = .returned (.bool (decide (n ∈ l))) := by
  have CI := hid (index_s w gn cp l n hl hrow)
  clear hrow
  go_enter Tryz.func149,Tryz.ntmps149
  go_wp2_with fail
  refine CI.out.mono ?_
  rintro e w' ⟨rfl,r,rfl,hr⟩
  have HR := hid hr
  clear hr CI
  go_wp2
  go_ret
  exact ⟨rfl,by rw [HR.out]; rfl⟩
def GE2 (H : Nat → Option Obj) (w : World) (mb : Nat) (ge : List (List UInt8 × Et)) : Prop :=
  ∃ gv : List (List UInt8 × Value),GM kS (fun v => .agg #[v]) 9 w mb gv ∧ ∀ nm,(getL gv nm = none ∧ getL ge nm = none) ∨ ∃ v t,getL gv nm = some v ∧ getL ge nm = some t ∧ ER H [] v t
theorem GE2.ge {H : Nat → Option Obj} {w : World} {mb : Nat} {ge : List (List UInt8 × Et)} (h : GE2 H w mb ge) : GE H [] w mb ge := by
  obtain ⟨gv,h1,h2⟩ := h
  refine ⟨gv,h1,fun nm t e => ?_⟩
  rcases h2 nm with ⟨_,h3⟩ | ⟨v,t',h3,h4,h5⟩
  · rw [h3] at e; cases e
  · rw [h4] at e; cases e; exact ⟨v,h3,h5⟩
theorem GE2.grown {H : Nat → Option Obj} {w w' : World} {mb : Nat} {ge : List (List UInt8 × Et)} (h : GE2 H w mb ge) (g : w.grownBy w' none) : GE2 H w' mb ge := by
  obtain ⟨gv,h1,h2⟩ := h
  exact ⟨gv,h1.gb (R := fun _ => False) (Gb.new g) id,h2⟩
def KF (mb : Nat) (w : World) : List (List (List UInt8)) → Value → Prop
  | [],v => ∃ b,v = .func (.func 72) #[] #[.pointer (some ⟨b,0,none⟩)] ∧ w.heap[b]? = some (.cells #[.map (some mb)] 104 (0,0))
  | ns :: l,v => ∃ bn bk g cap u cs,v = .func (.func 148) #[] #[.pointer (some ⟨bn,0,none⟩),.pointer (some ⟨bk,0,none⟩)] ∧ w.heap[bn]? = some (.cells #[.slice (some ⟨g,0,none⟩) ns.length cap] 26 (0,0)) ∧ w.heap[g]? = some (.cells cs 9 (0,0)) ∧ (∀ (j : Nat) x,ns[j]? = some x → cs[j]? = some (.string (B x))) ∧ w.heap[bk]? = some (.cells #[u] 29 (0,0)) ∧ ns.length ≤ 1000 ∧ KF mb w l u
theorem KF.grown {mb : Nat} {w w' : World} (g : w.grownBy w' none) : ∀ {l : List (List (List UInt8))} {v : Value},KF mb w l v → KF mb w' l v
  | [],_,⟨b,h1,h2⟩ => ⟨b,h1,(g.block b (lt_of_block h2) (by simp)).trans h2⟩
  | _ :: _,_,⟨bn,bk,gg,cap,u,cs,h1,h2,h3,h4,h5,h6,h7⟩ => ⟨bn,bk,gg,cap,u,cs,h1,(g.block _ (lt_of_block h2) (by simp)).trans h2,(g.block _ (lt_of_block h3) (by simp)).trans h3,h4,(g.block _ (lt_of_block h5) (by simp)).trans h5,h6,KF.grown g h7⟩
def kn (ge : List (List UInt8 × Et)) (l : List (List (List UInt8))) (nm : List UInt8) : Bool := l.any (fun ns => decide (nm ∈ ns)) || (getL ge nm).isSome
def KCall (v : Value) (nm : List UInt8) (w : World) (q : Bool) : Prop := match v with
  | .func (.func k) #[] cap => Calls Tryz.prog k (#[.string (B nm)] ++ cap) w fun e w' => e = .returned (.bool q) ∧ w.grownBy w' none
  | _ => False
theorem known0 {H : Nat → Option Obj} {mb b : Nat} {ge : List (List UInt8 × Et)} {nm : List UInt8} {w : World} (hn : nm.length ≤ 300) (hb : w.heap[b]? = some (.cells #[.map (some mb)] 104 (0,0))) (h : GE2 H w mb ge) :
    Calls Tryz.prog 72 #[.string (B nm),.pointer (some ⟨b,0,none⟩)] w fun e w' => e = .returned (.bool (getL ge nm).isSome) ∧ w.grownBy w' none := by
  obtain ⟨gv,h1,h2⟩ := h
  have c0 := blk_c hb 0 rfl
  have hlk := GM.look h1 strLaw Tryz.underlying104 (zeroScheme w) (kS_key hn)
  rcases h2 nm with ⟨e1,e2⟩ | ⟨v,t,e1,e2,e3⟩
  · rw [e1] at hlk
    rw [e2]
    simp only [Option.map_none,Option.getD_none,Option.isSome_none] at hlk ⊢
    clear h1 h2
    go_enter Tryz.func72,Tryz.ntmps72
    go_wp2
    go_ret
    exact ⟨rfl,World.grownBy_alloc _ _ _⟩
  · rw [e1] at hlk
    rw [e2]
    obtain ⟨T0,b0,_,rfl⟩ := er_val e3
    simp only [Option.map_some,Option.getD_some,Option.isSome_some] at hlk ⊢
    clear h1 h2 e3
    go_enter Tryz.func72,Tryz.ntmps72
    go_wp2
    go_ret
    exact ⟨rfl,World.grownBy_alloc _ _ _⟩
theorem known1a {bn bk gg cap b2 : Nat} {q : Bool} {ns : List (List UInt8)} {cs : Array Value} {nm : List UInt8} {w : World} (h2 : w.heap[bn]? = some (.cells #[.slice (some ⟨gg,0,none⟩) ns.length cap] 26 (0,0))) (h3 : w.heap[gg]? = some (.cells cs 9 (0,0))) (h4 : ∀ (j : Nat) x,ns[j]? = some x → cs[j]? = some (.string (B x))) (h6 : ns.length ≤ 1000)
    (h5 : w.heap[bk]? = some (.cells #[.func (.func 72) #[] #[.pointer (some ⟨b2,0,none⟩)]] 29 (0,0))) (ih : Calls Tryz.prog 72 #[.string (B nm),.pointer (some ⟨b2,0,none⟩)] w fun e w' => e = .returned (.bool q) ∧ w.grownBy w' none) :
    Calls Tryz.prog 148 #[.string (B nm),.pointer (some ⟨bn,0,none⟩),.pointer (some ⟨bk,0,none⟩)] w fun e w' => e = .returned (.bool (decide (nm ∈ ns) || q)) ∧ w.grownBy w' none := by
  have c2 := blk_c h2 0 rfl
  have c5 := blk_c h5 0 rfl
  have CC := hid (contains_s w gg cap ns nm (by omega) (fun j x hx => blk_c h3 j (h4 j x hx)))
  have IH := hid ih
  clear h2 h3 h4 h5 ih
  by_cases hm : nm ∈ ns
  · rw [decide_eq_true hm] at CC ⊢
    clear hm
    go_enter Tryz.func148,Tryz.ntmps148
    go_wp2_with fail
    refine CC.out.mono ?_
    rintro e w' ⟨rfl,rfl⟩
    clear CC
    go_wp2
    go_ret
    exact ⟨rfl,(Gb.refl _ _).none⟩
  · rw [decide_eq_false hm] at CC ⊢
    clear hm
    go_enter Tryz.func148,Tryz.ntmps148
    go_wp2_with fail
    refine CC.out.mono ?_
    rintro e w' ⟨rfl,rfl⟩
    clear CC
    go_wp2_with fail
    refine IH.out.mono ?_
    rintro e w2 ⟨rfl,g2⟩
    have G2 := hid g2
    clear g2
    go_wp2
    go_ret
    exact ⟨by simp,G2.out⟩
theorem known1b {bn bk gg cap b2 b3 : Nat} {q : Bool} {ns : List (List UInt8)} {cs : Array Value} {nm : List UInt8} {w : World} (h2 : w.heap[bn]? = some (.cells #[.slice (some ⟨gg,0,none⟩) ns.length cap] 26 (0,0))) (h3 : w.heap[gg]? = some (.cells cs 9 (0,0))) (h4 : ∀ (j : Nat) x,ns[j]? = some x → cs[j]? = some (.string (B x))) (h6 : ns.length ≤ 1000)
    (h5 : w.heap[bk]? = some (.cells #[.func (.func 148) #[] #[.pointer (some ⟨b2,0,none⟩),.pointer (some ⟨b3,0,none⟩)]] 29 (0,0))) (ih : Calls Tryz.prog 148 #[.string (B nm),.pointer (some ⟨b2,0,none⟩),.pointer (some ⟨b3,0,none⟩)] w fun e w' => e = .returned (.bool q) ∧ w.grownBy w' none) :
    Calls Tryz.prog 148 #[.string (B nm),.pointer (some ⟨bn,0,none⟩),.pointer (some ⟨bk,0,none⟩)] w fun e w' => e = .returned (.bool (decide (nm ∈ ns) || q)) ∧ w.grownBy w' none := by
  have c2 := blk_c h2 0 rfl
  have c5 := blk_c h5 0 rfl
  have CC := hid (contains_s w gg cap ns nm (by omega) (fun j x hx => blk_c h3 j (h4 j x hx)))
  have IH := hid ih
  clear h2 h3 h4 h5 ih
  by_cases hm : nm ∈ ns
  · rw [decide_eq_true hm] at CC ⊢
    clear hm
    go_enter Tryz.func148,Tryz.ntmps148
    go_wp2_with fail
    refine CC.out.mono ?_
    rintro e w' ⟨rfl,rfl⟩
    clear CC
    go_wp2
    go_ret
    exact ⟨rfl,(Gb.refl _ _).none⟩
  · rw [decide_eq_false hm] at CC ⊢
    clear hm
    go_enter Tryz.func148,Tryz.ntmps148
    go_wp2_with fail
    refine CC.out.mono ?_
    rintro e w' ⟨rfl,rfl⟩
    clear CC
    go_wp2_with fail
    refine IH.out.mono ?_
    rintro e w2 ⟨rfl,g2⟩
    have G2 := hid g2
    clear g2
    go_wp2
    go_ret
    exact ⟨by simp,G2.out⟩
theorem known_any {H : Nat → Option Obj} {mb : Nat} {ge : List (List UInt8 × Et)} {nm : List UInt8} {w : World} (hn : nm.length ≤ 300) (hg : GE2 H w mb ge) : ∀ (l : List (List (List UInt8))) (v : Value),KF mb w l v → KCall v nm w (kn ge l nm)
  | [],v,⟨b,h1,h2⟩ => by
    subst h1
    exact known0 hn h2 hg
  | ns :: l,v,⟨bn,bk,gg,cap,u,cs,h1,h2,h3,h4,h5,h6,h7⟩ => by
    subst h1
    have ih := known_any hn hg l u h7
    have e : kn ge (ns :: l) nm = (decide (nm ∈ ns) || kn ge l nm) := by simp [kn,Bool.or_assoc]
    rw [e]
    cases l with
    | nil =>
      obtain ⟨b2,rfl,_⟩ := h7
      exact known1a h2 h3 h4 h6 h5 ih
    | cons ns2 l =>
      obtain ⟨b2,b3,_,_,_,_,rfl,_⟩ := h7
      exact known1b h2 h3 h4 h6 h5 ih
theorem KF.form {mb : Nat} {w : World} : ∀ {l : List (List (List UInt8))} {v : Value},KF mb w l v → (∃ b,v = .func (.func 72) #[] #[.pointer (some ⟨b,0,none⟩)]) ∨ ∃ b b2,v = .func (.func 148) #[] #[.pointer (some ⟨b,0,none⟩),.pointer (some ⟨b2,0,none⟩)]
  | [],_,⟨b,h1,_⟩ => Or.inl ⟨b,h1⟩
  | _ :: _,_,⟨bn,bk,_,_,_,_,h1,_⟩ => Or.inr ⟨bn,bk,h1⟩
theorem and_any {mb gg cap : Nat} {l : List (List (List UInt8))} {v : Value} {ns : List (List UInt8)} {cs : Array Value} {w : World} (h : KF mb w l v) (h3 : w.heap[gg]? = some (.cells cs 9 (0,0))) (h4 : ∀ (j : Nat) x,ns[j]? = some x → cs[j]? = some (.string (B x))) (h6 : ns.length ≤ 1000) :
    Calls Tryz.prog 116 #[v,.slice (some ⟨gg,0,none⟩) ns.length cap] w fun e w' => ∃ b b2,e = .returned (.func (.func 148) #[] #[.pointer (some ⟨b,0,none⟩),.pointer (some ⟨b2,0,none⟩)]) ∧ KF mb w' (ns :: l) (.func (.func 148) #[] #[.pointer (some ⟨b,0,none⟩),.pointer (some ⟨b2,0,none⟩)]) ∧ w.grownBy w' none := by
  have hmf : ∀ (fn : Fn) (first cap : Array Value) (w : World),(Instr.makeFunc fn first cap).run Tryz.prog w = .ok (.func fn first cap) w := fun _ _ _ _ => rfl
  have g1 : w.grownBy ((w.alloc (.cells #[v] 29)).alloc (.cells #[.slice (some ⟨gg,0,none⟩) ns.length cap] 26)) none := (World.grownBy_alloc _ _ _).trans (World.grownBy_alloc _ _ _)
  have n1 : ((w.alloc (.cells #[v] 29)).alloc (.cells #[.slice (some ⟨gg,0,none⟩) ns.length cap] 26)).heap[w.heap.size]? = some (.cells #[v] 29 (0,0)) := by
    rw [Below.heap_alloc _ _ _ (by simp)]; exact heap_alloc_new _ _
  have n2 : ((w.alloc (.cells #[v] 29)).alloc (.cells #[.slice (some ⟨gg,0,none⟩) ns.length cap] 26)).heap[w.heap.size + 1]? = some (.cells #[.slice (some ⟨gg,0,none⟩) ns.length cap] 26 (0,0)) := heap_alloc_at _ _ _ (by simp)
  have Q := hid (show KF mb ((w.alloc (.cells #[v] 29)).alloc (.cells #[.slice (some ⟨gg,0,none⟩) ns.length cap] 26)) (ns :: l) (.func (.func 148) #[] #[.pointer (some ⟨w.heap.size + 1,0,none⟩),.pointer (some ⟨w.heap.size,0,none⟩)]) from ⟨w.heap.size + 1,w.heap.size,gg,cap,v,cs,rfl,n2,(g1.block _ (lt_of_block h3) (by simp)).trans h3,h4,n1,h6,h.grown g1⟩)
  have G := hid g1
  have hf := h.form
  clear h h3 h4 n1 n2 g1
  rcases hf with ⟨b,rfl⟩ | ⟨b,b2,rfl⟩
  all_goals
    go_enter Tryz.func116,Tryz.ntmps116
    go_wp2
    go_ret
    exact ⟨_,_,rfl,Q.out,G.out⟩
theorem ptr_ne (w : World) : (binOp .neq 157 (.pointer none) (.pointer none)).run Tryz.prog w = .ok (.bool false) w := by kernel_rfl
end Go.Proofs.YtcdijppegfcoaabGreatDoor
