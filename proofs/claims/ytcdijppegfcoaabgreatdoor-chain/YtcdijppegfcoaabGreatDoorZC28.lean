import Derived.Test.YtcdijppegfcoaabGreatDoorZC26
import Derived.Test.YtcdijppegfcoaabGreatDoorZC27
import Derived.Deep.RegionHeld3
set_option maxRecDepth 100000
set_option maxHeartbeats 8000000
namespace Go.Proofs.YtcdijppegfcoaabGreatDoor
open Go.RowKit
def GSt (C : TC) (H1 : Nat → Option Obj) (ca1 : List Nat) (σ1 : Sto) (nb : List (List UInt8 × Et)) (nv1 : Value) (vs1 : List NE) (wS : World) (mb : Nat) (L : List Nat) (fv : Value) (xs : List Nat) (next : List (List UInt8 × Et)) (k : Nat) (nx : Value) (w : World) : Prop :=
  ∃ (Hk : Nat → Option Obj) (dk : Nat → Nat) (nk : List NE),TSv C Hk ca1 σ1 dk nb nv1 vs1 w ∧ MX H1 Hk ca1 ca1 wS ∧ Gb C.own wS w ∧ RAt w mb L ∧ w.ownsRow C.base 173 1 fv xs.length (xs.map CP) ∧ nk.length = k ∧ w.ownsRow C.base 338 2 nx nk.length (nmCells nk) ∧ (∀ q,nx.ownBlock = some q → wS.heap.size ≤ q ∧ Hk q = none) ∧ ∀ (i : Nat) (p : NE) q,nk[i]? = some p → next[i]? = some q → p.1 = q.1 ∧ EL wS.heap.size Hk ca1 p.v q.2
def GSm (C : TC) (H1 : Nat → Option Obj) (ca1 : List Nat) (σ1 : Sto) (nb : List (List UInt8 × Et)) (nv1 : Value) (vs1 : List NE) (wS : World) (mb : Nat) (L : List Nat) (fv : Value) (xs : List Nat) (next : List (List UInt8 × Et)) (k : Nat) (nx : Value) (v : Value) (t : Et) (w : World) : Prop :=
  ∃ (Hk : Nat → Option Obj) (dk : Nat → Nat) (nk : List NE),TSv C Hk ca1 σ1 dk nb nv1 vs1 w ∧ MX H1 Hk ca1 ca1 wS ∧ Gb C.own wS w ∧ RAt w mb L ∧ w.ownsRow C.base 173 1 fv xs.length (xs.map CP) ∧ nk.length = k ∧ w.ownsRow C.base 338 2 nx nk.length (nmCells nk) ∧ (∀ q,nx.ownBlock = some q → wS.heap.size ≤ q ∧ Hk q = none) ∧ (∀ (i : Nat) (p : NE) q,nk[i]? = some p → next[i]? = some q → p.1 = q.1 ∧ EL wS.heap.size Hk ca1 p.v q.2) ∧ EL wS.heap.size Hk ca1 v t
structure GSo (C : TC) (ad : Nat → Addr) (H1 : Nat → Option Obj) (ca1 : List Nat) (σ1 : Sto) (nb : List (List UInt8 × Et)) (nv1 : Value) (vs1 : List NE) (wS : World) (mb : Nat) (fv : Value) (d1 : Nat → Nat) : Prop where
  t : TSv C H1 ca1 σ1 d1 nb nv1 vs1 wS
  hm : mb ∉ ca1
  ml : mb < wS.heap.size
  fo : ∀ q,fv.ownBlock = some q → q ∉ ca1 ∧ q < wS.heap.size
  gl : GLb C.base ad wS
section
variable {C : TC} {ad : Nat → Addr} {H1 : Nat → Option Obj} {ca1 : List Nat} {σ1 : Sto} {nb : List (List UInt8 × Et)} {nv1 : Value} {vs1 : List NE} {wS : World} {mb : Nat} {L : List Nat} {fv : Value} {xs : List Nat} {next : List (List UInt8 × Et)} {k : Nat} {nx : Value} {d1 : Nat → Nat} {w w1 : World}
theorem gen_step (S : GSo C ad H1 ca1 σ1 nb nv1 vs1 wS mb fv d1) (h : GSt C H1 ca1 σ1 nb nv1 vs1 wS mb L fv xs next k nx w) (g : w.grownBy w1 none) {c x : Nat} {t : Et} (ex : ca1[c]? = some x) (hg : generalU σ1 L 400 c = some t) :
    Calls Tryz.prog 74 #[CP x,.map (some mb)] w1 fun e w' => ∃ T b,e = .returned (.agg #[.iface T (.pointer (some ⟨b,0,none⟩))]) ∧ Gb (InAs ca1) w1 w' ∧ GSm C H1 ca1 σ1 nb nv1 vs1 wS mb L fv xs next k nx (.iface T (.pointer (some ⟨b,0,none⟩))) t w' := by
  obtain ⟨Hk,dk,nk,tk,mx,gb,ra,rf,ln,rn,ro,hi⟩ := h
  have t1 := tk.grown g
  have gW : Gb C.own wS w1 := gb.tr (Gb.new g)
  have tab := (S.gl.gb gW).tabW t1.clo
  have gF : Gb (fun _ => False) w w1 := Gb.new g
  refine (General_u (lo := wS.heap.size) ex hg t1.ms.cs ⟨Or.inr ⟨mb,rfl,S.hm,GM.gb ra gF id⟩,tab,gW.size⟩).mono ?_
  rintro e w' ⟨g2,c2,v,H2,rfl,z2,x21,x22,el⟩
  obtain ⟨T,b,_,rfl⟩ := er_val el.er
  obtain ⟨t2,mx2⟩ := t1.more g2 c2 z2 x21 x22
  refine ⟨T,b,rfl,g2,H2,dk,nk,t2,mx.trans (mx2.low gW.size) (Nat.le_refl _),gW.tr (g2.mono fun k e => t1.clo k e),GM.gb (GM.gb ra gF id) g2 S.hm,ownsRow_gb (ownsRow_gb rf gF (fun _ _ => id)) g2 (fun q hq => (S.fo q hq).1),ln,ownsRow_gb (ownsRow_gb rn gF (fun _ _ => id)) g2 (fun q hq e => ?_),fun q hq => ⟨(ro q hq).1,?_⟩,fun i p q e1 e2 => ⟨(hi i p q e1 e2).1,(hi i p q e1 e2).2.onto x21⟩,el⟩
  · have h1 := InAs.lt S.t.ms.cs e
    have h2 := (ro q hq).1
    omega
  · cases h9 : H2 q with
    | none => rfl
    | some o =>
      rcases x22 q o h9 with h | h
      · rw [(ro q hq).2] at h; cases h
      · have := (rn.lt q hq).2; have := g.size; omega
theorem next_app (S : GSo C ad H1 ca1 σ1 nb nv1 vs1 wS mb fv d1) {T b : Nat} {nm : List UInt8} {t : Et} {w2 : World} (h : GSm C H1 ca1 σ1 nb nv1 vs1 wS mb L fv xs next k nx (.iface T (.pointer (some ⟨b,0,none⟩))) t w) (hk : next[k]? = some (nm,t)) (g2 : w.grownBy w2 none) :
    ∃ nk : List NE,nk.length = k ∧ w2.ownsRow C.base 338 2 nx nk.length (nmCells nk) ∧ C.base ≤ w2.heap.size ∧ ∀ g cap w3,w3.ownsRow C.base 338 2 (.slice (some ⟨g,0,none⟩) (nk.length + 1) cap) (nk.length + 1) (nmCells nk ++ [.string (B nm),.iface T (.pointer (some ⟨b,0,none⟩))]) → w2.grownBy w3 nx.ownBlock → (nx.ownBlock = some g ∨ g = w2.heap.size) → GSt C H1 ca1 σ1 nb nv1 vs1 wS mb L fv xs next (k + 1) (.slice (some ⟨g,0,none⟩) (nk.length + 1) cap) w3 := by
  obtain ⟨Hk,dk,nk,tk,mx,gb,ra,rf,ln,rn,ro,hi,el⟩ := h
  have gF : Gb (fun _ => False) w w2 := Gb.new g2
  have rn2 := ownsRow_gb rn gF (fun _ _ => id)
  have t2 := tk.grown g2
  refine ⟨nk,ln,rn2,t2.bs,fun g cap w3 hown hgr hat => ?_⟩
  have gR : Gb (fun q => nx.ownBlock = some q) w2 w3 := Gb.of hgr (fun b e => Or.inl e)
  have big : ∀ q,nx.ownBlock = some q → ∀ z,z < wS.heap.size → z ≠ q := fun q hq z hz e => by have := (ro q hq).1; omega
  have hR : ∀ q,nx.ownBlock = some q → Hk q = none ∧ q ∉ ca1 ∧ q ≠ C.tb ∧ nv1.ownBlock ≠ some q ∧ C.base ≤ q := fun q hq => ⟨(ro q hq).2,fun hm => big q hq q (InAs.lt S.t.ms.cs hm) rfl,fun e => big q hq _ S.t.ms.bk.lt e.symm,fun e => big q hq q (S.t.nr.own.lt q e).2 rfl,(rn.lt q hq).1⟩
  have t3 := t2.side gR hR
  refine ⟨Hk,dk,nk ++ ([((nm,T,b) : List UInt8 × TypeId × Nat)] : List NE),t3,mx,(gb.tr (Gb.new g2)).tr (gR.mono fun q hq => ⟨(hR q hq).2.2.2.2,fun hk => big q hq q (S.t.kp q hk) rfl⟩),?_,ownsRow_gb (ownsRow_gb rf gF (fun _ _ => id)) gR (fun q hq e => big q e q (S.fo q hq).2 rfl),(by rw [List.length_append,ln]; rfl),?_,fun q hq => ?_,fun i p q e1 e2 => ?_⟩
  · exact GM.gb (GM.gb ra gF id) gR (fun e => big mb e mb S.ml rfl)
  · rw [List.length_append,nmCells_app]
    exact hown
  · have eq : g = q := by simpa [Value.ownBlock] using hq
    subst eq
    rcases hat with e | e
    · exact ro g e
    · refine ⟨by rw [e]; exact Nat.le_trans gb.size g2.size,tk.ms.cs.fz.none (by rw [e]; exact g2.size)⟩
  · rcases Nat.lt_or_ge i nk.length with hl | hl
    · rw [List.getElem?_append_left hl] at e1
      exact hi i p q e1 e2
    · rw [List.getElem?_append_right hl] at e1
      match hj : i - nk.length with
      | 0 =>
        rw [hj] at e1
        cases e1
        have ei : i = k := by omega
        rw [ei,hk] at e2
        cases e2
        exact ⟨rfl,el⟩
      | j + 1 =>
        rw [hj] at e1
        have h9 : (none : Option NE) = some p := e1
        cases h9
end
theorem nextT_at {σ : Sto} {L : List Nat} : ∀ {ns : List (List UInt8)} {cs : List Nat} {next : List (List UInt8 × Et)},nextT σ L ns cs = some next → next.length = ns.length ∧ cs.length = ns.length ∧ ∀ (k : Nat) (nm : List UInt8) (c : Nat),ns[k]? = some nm → cs[k]? = some c → ∃ t,next[k]? = some (nm,t) ∧ generalU σ L 400 c = some t
  | [],[],_,h => by cases h; exact ⟨rfl,rfl,fun k nm c e => by simp at e⟩
  | [],_ :: _,_,h => by cases h
  | _ :: _,[],_,h => by cases h
  | n :: ns,c :: cs,next,h => by
    rw [nextT] at h
    cases e1 : generalU σ L 400 c with
    | none => rw [e1] at h; cases h
    | some t =>
      rw [e1] at h
      simp only at h
      cases e2 : nextT σ L ns cs with
      | none => rw [e2] at h; cases h
      | some l =>
        rw [e2] at h
        cases h
        have ih := nextT_at e2
        refine ⟨by simp [ih.1],by simp [ih.2.1],fun k nm c' e3 e4 => ?_⟩
        cases k with
        | zero => cases e3; cases e4; exact ⟨t,rfl,e1⟩
        | succ k =>
          obtain ⟨t',q1,q2⟩ := ih.2.2 k nm c' (by simpa using e3) (by simpa using e4)
          exact ⟨t',by simpa using q1,q2⟩
theorem row_slice {w : World} {base size n : Nat} {e : TypeId} {v : Value} {xs : List Value} (h : w.ownsRow base e size v n xs) (hn : 0 < n) : ∃ g cap,v = .slice (some ⟨g,0,none⟩) n cap := by
  obtain ⟨h1,h2⟩ := h
  rcases h2 with ⟨_,h3⟩ | ⟨g,cap,cur,rfl,_⟩
  · omega
  · exact ⟨g,cap,rfl⟩
theorem row_cell {w : World} {base g n cap : Nat} {e : TypeId} {xs : List Value} (h : w.ownsRow base e 1 (.slice (some ⟨g,0,none⟩) n cap) n xs) {k : Nat} {u : Value} (hk : xs[k]? = some u) : w.cell? ⟨g,k,none⟩ = some u ∧ g < w.heap.size := by
  have hl := h.lt g rfl
  obtain ⟨h1,h2⟩ := h
  rcases h2 with ⟨h2,_⟩ | ⟨g',cap',cur,e1,h3,h4,h5,h6,h7,h8⟩
  · cases h2
  · have eg : g = g' := by injection e1 with q; injection q with q; injection q
    subst eg
    rw [← h8] at hk
    have hkl : k < n * 1 := by
      have := (List.getElem?_eq_some_iff.1 hk).1
      rw [List.length_take] at this
      omega
    rw [List.getElem?_take_of_lt hkl] at hk
    have e2 : cur[k]? = some u := by simpa using hk
    exact ⟨by simp [World.cell?,h4,e2],hl.2⟩
theorem TSv.freeze {C : TC} {H : Nat → Option Obj} {ca : List Nat} {σ : Sto} {d : Nat → Nat} {nb : List (List UInt8 × Et)} {nv : Value} {vs : List NE} {w : World} {g : Nat} {o : Obj} (h : TSv C H ca σ d nb nv vs w) (hg : w.heap[g]? = some o) (hn : H g = none) (ha : g ∉ ca) (ht : g ≠ C.tb) (hv : nv.ownBlock ≠ some g) : TSv C (onto1 H g o) ca σ d nb nv vs w := by
  have ext := onto1_ext (o := o) hn
  have no : ∀ k,k ≠ g → H k = none → onto1 H g o k = none := fun k hk h9 => by unfold onto1; rw [if_neg hk]; exact h9
  obtain ⟨gv,e1,e2⟩ := h.env
  exact ⟨⟨h.ms.cs.more ext (onto1_fz h.ms.cs.fz hg) (fun a hm => no a (fun e => ha (e ▸ hm)) (h.ms.cs.off a hm)),h.ms.bk,no _ (Ne.symm ht) h.ms.ht,h.ms.hta⟩,⟨h.nr.len,h.nr.own,fun i p q q1 q2 => ⟨(h.nr.is i p q q1 q2).1,ERep.onto (h.nr.is i p q q1 q2).2 ext⟩,fun k hk => ⟨no k (fun e => hv (e ▸ hk)) (h.nr.off k hk).1,(h.nr.off k hk).2⟩,h.nr.few⟩,⟨gv,e1,fun nm t e => by obtain ⟨v,q1,q2⟩ := e2 nm t e; exact ⟨v,q1,ERep.onto q2 ext⟩⟩,h.mlo,h.tlo,h.clo,h.kp,h.nko⟩
def RNP (C : TC) (H : Nat → Option Obj) (ca : List Nat) (σ1 : Sto) (nb : List (List UInt8 × Et)) (n : Nat) (next : List (List UInt8 × Et)) (w : World) (e : Ending) (w' : World) : Prop :=
  ∃ (H0 H' : Nat → Option Obj) (ca' : List Nat) (d' : Nat → Nat) (nv' : Value) (vs' nk : List NE) (g cap lo : Nat),e = .returned (.slice (some ⟨g,0,none⟩) n cap) ∧ TSv C H' ca' σ1 d' nb nv' vs' w' ∧ MX H H' ca ca' w ∧ Gb C.own w w' ∧ AHd H' ca' g nk next ∧ nk.length = n ∧ (∀ k o,H k = some o → H0 k = some o) ∧ (∀ k o,H0 k = some o → H' k = some o) ∧ (∀ k o,H0 k = some o → k < lo) ∧ ∀ (i : Nat) (p : NE) q,nk[i]? = some p → next[i]? = some q → ∃ m,ERep lo H' ca' m p.v q.2
theorem round_end {C : TC} {ad : Nat → Addr} {H H1 : Nat → Option Obj} {ca ca1 : List Nat} {σ1 : Sto} {nb : List (List UInt8 × Et)} {nv1 : Value} {vs1 : List NE} {wS : World} {mb : Nat} {L : List Nat} {fv : Value} {xs : List Nat} {next : List (List UInt8 × Et)} {n : Nat} {nx : Value} {d1 : Nat → Nat} {w w' : World} (S : GSo C ad H1 ca1 σ1 nb nv1 vs1 wS mb fv d1) (h : GSt C H1 ca1 σ1 nb nv1 vs1 wS mb L fv xs next n nx w') (hn : 0 < n) (hl : next.length = n) (mx : MX H H1 ca ca1 w) (gb : Gb C.own w wS) : ∃ g cap,nx = .slice (some ⟨g,0,none⟩) n cap ∧ RNP C H ca σ1 nb n next w (.returned nx) w' := by
  obtain ⟨Hk,dk,nk,tk,mxk,gbk,ra,rf,ln,rn,ro,hi⟩ := h
  obtain ⟨g,cap,rfl⟩ := row_slice rn (by omega)
  have hro := ro g rfl
  have hlt := rn.lt g rfl
  obtain ⟨r1,r2⟩ := rn
  rcases r2 with ⟨r2,_⟩ | ⟨g',cap',cur,e1,h3,h4,h5,h6,h7,h8⟩
  · cases r2
  have eg : g = g' := by injection e1 with q; injection q with q; injection q
  subst eg
  have big : ∀ z,z < wS.heap.size → z ≠ g := fun z hz e => by have := hro.1; omega
  have tf := tk.freeze h4 hro.2 (fun hm => big g (InAs.lt S.t.ms.cs hm) rfl) (fun e => big _ S.t.ms.bk.lt e.symm) (fun e => big g (S.t.nr.own.lt g e).2 rfl)
  have ext := onto1_ext (o := .cells cur 338 (0,0)) hro.2
  have mf : MX H1 (onto1 Hk g (.cells cur 338 (0,0))) ca1 ca1 wS := ⟨fun k o e => ext k o (mxk.ext k o e),onto1_new mxk.new hro.1,List.prefix_refl _,fun _ h => Or.inl h⟩
  refine ⟨g,cap,by rw [ln],H1,_,ca1,dk,nv1,vs1,nk,g,cap,wS.heap.size,by rw [ln],tf,mx.trans mf gb.size,gb.tr gbk,⟨⟨cur,onto1_at,h8⟩,by rw [ln,hl],fun i p q q1 q2 => ⟨(hi i p q q1 q2).1,((hi i p q q1 q2).2.onto ext).er⟩⟩,ln,mx.ext,fun k o e => ext k o (mxk.ext k o e),fun k o e => lt_of_block (S.t.ms.cs.fz k o e),fun i p q q1 q2 => (hi i p q q1 q2).2.onto ext⟩
theorem info_cellp : (Tryz.prog.info? 173).map (fun i => (i.zero,i.size,i.bytes)) = some (some (.pointer none),1,8) := by kernel_rfl
structure GRd (H : Nat → Option Obj) (gB : Nat) (ns : List (List UInt8)) (us : List Value) (es : List Ex) (m : Nat) : Prop where
  row : ∃ cur,H gB = some (.cells cur 187 (0,0)) ∧ cur.toList.take (ns.length * 2) = bindCells ns us
  lu : us.length = ns.length
  le : es.length = ns.length
  is : ∀ (i : Nat) (u : Value) (e : Ex),us[i]? = some u → es[i]? = some e → PRep m H u e
theorem news_two (w5 : World) (nm : List UInt8) (T5 b5 : Nat) : ∀ i v,[Value.string (B nm),.iface T5 (.pointer (some ⟨b5,0,none⟩))][i]? = some v → (w5.alloc (.cells #[.string (B nm),.iface T5 (.pointer (some ⟨b5,0,none⟩))] 338)).cell? ((⟨w5.heap.size,0,none⟩ : Addr).add i) = some v := World.news_of_block (heap_alloc_new w5 _)
theorem one_two (nm : List UInt8) (T5 b5 : Nat) : ∀ v,v ∈ [Value.string (B nm),.iface T5 (.pointer (some ⟨b5,0,none⟩))] → v.oneCell' = true := fun v hv => by
  rcases List.mem_cons.1 hv with rfl | hv
  · rfl
  · rw [List.mem_singleton.1 hv]; rfl
theorem round_e0 {C : TC} {ad : Nat → Addr} {P : Ex → List (List UInt8 × Et) → Sto → Option (Sum Nat (Sto × Nat))} (hP : ∀ K,PAE { C with keep := K } ad P) {H : Nat → Option Obj} {ca : List Nat} {σ : Sto} {d : Nat → Nat} {nb ahead : List (List UInt8 × Et)} {nv : Value} {vs nws : List NE} {w : World} {ns : List (List UInt8)} {us : List Value} {es : List Ex} {m gB capB gA capA : Nat} {σ1 : Sto} {cs L : List Nat} {next : List (List UInt8 × Et)}
    (hB : GRd H gB ns us es m) (hA : AHd H ca gA nws ahead) (la : nws.length = ns.length) (h0 : 0 < ns.length) (hn : ns.length ≤ 1000) (i1 : foundE P nb ahead es σ = some (.inr (σ1,cs))) (i2 : reachS σ1 nb = some L) (i3 : nextT σ1 L ns cs = some next) (h : TSv C H ca σ d nb nv vs w) (hgl : GLb C.base ad w) :
    Calls Tryz.prog 186 #[CP C.tb,.slice (some ⟨gB,0,none⟩) ns.length capB,.slice (some ⟨gA,0,none⟩) ns.length capA] w (RNP C H ca σ1 nb ns.length next w) := by
  have Q := hid (And.intro hB (And.intro hA (And.intro la (And.intro hgl (And.intro hP h)))))
  have I1 := hid (show foundE P nb ahead (es.drop 0) σ = some (.inr (σ1,cs.drop 0)) from i1)
  have I2 := hid i2
  have I3 := hid i3
  obtain ⟨i0,hi0,hz0,hz1,hz2⟩ := info_parts info_cellp
  obtain ⟨nn,hnn⟩ : ∃ nn,nn = ns.length := ⟨_,rfl⟩
  have NN := hid hnn
  rw [← hnn] at h0 hn ⊢
  obtain ⟨h0,hn⟩ := And.intro h0 hn
  clear hB hA la i1 i2 i3 h hgl hP hnn
  unfold CP
  go_enter Tryz.func186,Tryz.ntmps186
  go_wp2_with fail
  go_loopg [7,16] (nn + 1) (fun gh x i wi => ∃ (j : Nat) (σj : Sto) (csj : List Nat),j ≤ nn ∧ i = .int .i64 j ∧ gh = nn - j + 1 ∧ Hid (csj = cs.take j ∧ csj.length = j) ∧ Hid (foundE P nb ahead (es.drop j) σj = some (.inr (σ1,cs.drop j))) ∧ Hid (FSt C H ca nb w σj csj x wi))
  case atStart => exact ⟨0,σ,[],by omega,rfl,by omega,hid ⟨rfl,rfl⟩,I1,hid (FSt.start Q.out.2.2.2.2.2)⟩
  case round =>
    obtain ⟨j,σj,csj,hj,rfl,hgj,HL,HJ,HF⟩ := hrel
    by_cases hjl : j < nn
    · have hjn : j < ns.length := by rw [← NN.out]; exact hjl
      obtain ⟨nm,hnm⟩ : ∃ x,ns[j]? = some x := ⟨_,List.getElem?_eq_getElem hjn⟩
      obtain ⟨u,hu⟩ : ∃ x,us[j]? = some x := ⟨_,List.getElem?_eq_getElem (by rw [Q.out.1.lu]; exact hjn)⟩
      have hje : j < es.length := by rw [Q.out.1.le]; exact hjn
      obtain ⟨e,he⟩ : ∃ x,es[j]? = some x := ⟨_,List.getElem?_eq_getElem hje⟩
      have hpe := Q.out.1.is j u e hu he
      have hd : es.drop j = e :: es.drop (j + 1) := by
        rw [List.drop_eq_getElem_cons hje]
        rw [List.getElem?_eq_getElem hje] at he
        rw [Option.some.inj he]
      have hjj := HJ.out
      rw [hd,foundE] at hjj
      cases ew : withE P e nb ahead σj with
      | none => rw [ew] at hjj; cases hjj
      | some rw1 =>
      rw [ew] at hjj
      cases rw1 with
      | inl q => cases hjj
      | inr y =>
      simp only at hjj
      cases ef : foundE P nb ahead (es.drop (j + 1)) y.1 with
      | none => rw [ef] at hjj; cases hjj
      | some rf =>
      rw [ef] at hjj
      cases rf with
      | inl q => cases hjj
      | inr z =>
      have hz9 : z.1 = σ1 ∧ cs.drop j = y.2 :: z.2 := by
        have := Option.some.inj hjj
        injection this with this
        exact ⟨congrArg Prod.fst this,(congrArg Prod.snd this).symm⟩
      have hjc : j < cs.length := by
        rcases Nat.lt_or_ge j cs.length with hl | hl
        · exact hl
        · rw [List.drop_eq_nil_of_le hl] at hz9; cases hz9.2
      have hz8 := List.drop_eq_getElem_cons hjc
      have J2 := hid (show foundE P nb ahead (es.drop (j + 1)) y.1 = some (.inr (σ1,cs.drop (j + 1))) by
        rw [ef]
        have e1 := hz9.2.symm.trans hz8
        injection e1 with e1 e2
        rw [← e2,← hz9.1])
      have L2 := hid (show csj ++ [y.2] = cs.take (j + 1) ∧ (csj ++ [y.2]).length = j + 1 by
        have e1 := hz9.2.symm.trans hz8
        injection e1 with e1 e2
        refine ⟨?_,by rw [List.length_append,HL.out.2]; rfl⟩
        rw [HL.out.1,e1,List.take_succ_eq_append_getElem hjc])
      obtain ⟨cur,hb1,hb2⟩ := Q.out.1.row
      have hz : Fz H wr := by
        obtain ⟨H',ca',d',nv',vs',xs,t,mx,_⟩ := HF.out
        exact fun k o e => t.ms.cs.fz k o (mx.ext k o e)
      obtain ⟨k1,k2⟩ := row_bind hz hb1 hb2 hnm hu
      have lB := lt_of_block (hz _ _ hb1)
      obtain ⟨Tu,bu,rfl⟩ := hpe.val
      have gn : wr.grownBy (wr.alloc (.cells #[.string (B nm),.iface Tu (.pointer (some ⟨bu,0,none⟩))] 187)) none := World.grownBy_alloc _ _ _
      have CW := hid (found_step (capA := capA) Q.out.2.2.2.2.1 HF.out Q.out.2.1 (by rw [Q.out.2.2.1]; omega) hpe ew Q.out.2.2.2.1 gn)
      rw [Q.out.2.2.1,← NN.out] at CW
      clear hnm hu he hpe hd hjj ew ef hz9 hz8 hb1 hb2 hz gn hje hjn hjc HJ
      unfold CP at CW
      go_wp2_with fail
      refine CW.out.mono ?_
      rintro e9 w2 ⟨x,rfl,hm⟩
      have gS : w2.grownBy (w2.alloc (.cells #[CP x] 173)) none := World.grownBy_alloc _ _ _
      obtain ⟨xs,row2,hbs,APP⟩ := found_app hm gS
      have AP := hid APP
      have hcl : csj.length ≤ 1000 := by rw [HL.out.2]; omega
      have hnews : ∀ i v,[CP x][i]? = some v → (w2.alloc (.cells #[CP x] 173)).cell? ((⟨w2.heap.size,0,none⟩ : Addr).add i) = some v := World.news_of_block (heap_alloc_new w2 _)
      have hone : ∀ v,v ∈ [CP x] → v.oneCell' = true := fun v hv => by rw [List.mem_singleton.1 hv]; rfl
      clear hm CW APP gS
      unfold CP at *
      go_wp2_with (at_builtin; refine wpList_append_lies _ rfl (.tmp 20) (.tmp 26) 349 rfl C.base 173 i0 (.pointer none) 1 8 Tryz.underlying349 hi0 hz0 hz1 hz2 rfl (by decide) _ _ _ rfl row2 ⟨w2.heap.size,0,none⟩ 1 1 [.pointer (some ⟨x,0,none⟩)] rfl rfl hnews hone (by decide) (by unfold maxLen; omega) (by omega) hbs (w2.heap.size + 1) (by simp) ?_)
      intro g7 cap7 w7 hown7 hgrow7 hat7 _
      have F7 := hid (AP.out g7 cap7 w7 hown7 hgrow7 (by simpa using hat7))
      clear hown7 hgrow7 hat7 AP row2 hbs hnews hone
      go_wp2_with fail
      go_roundg (nn - (j + 1) + 1)
      case measure => omega
      case rel => exact ⟨j + 1,y.1,csj ++ [y.2],by omega,by go_num,rfl,L2,J2,F7⟩
    · have hjn : j = nn := by omega
      have hds : es.drop j = [] := List.drop_eq_nil_of_le (by rw [Q.out.1.le,← NN.out,hjn]; exact Nat.le_refl _)
      have hjj := HJ.out
      rw [hds,foundE] at hjj
      have hcs : σj = σ1 ∧ csj = cs := by
        have := Option.some.inj hjj
        injection this with this
        refine ⟨congrArg Prod.fst this,?_⟩
        have h2 : [] = cs.drop j := congrArg Prod.snd this
        have h3 := List.take_append_drop j cs
        rw [← h2,List.append_nil] at h3
        rw [HL.out.1,h3]
      obtain ⟨rfl,rfl⟩ := hcs
      obtain ⟨H1,ca1,d1,nv1,vs1,xs,t1,mx1,g1,lx,hx,row,off⟩ := HF.out
      obtain ⟨gf,capf,hfv⟩ := row_slice row (by rw [HL.out.2]; omega)
      rw [HL.out.2,hjn] at hfv
      subst hfv
      have CR := hid (reached_t t1 I2.out)
      have Q1 := hid (And.intro t1 (And.intro mx1 (And.intro g1 (And.intro lx (And.intro hx (And.intro row off))))))
      have LC := hid (HL.out.2.trans hjn)
      have NX := hid (nextT_at I3.out)
      obtain ⟨j0,hj0,hy0,hy1,hy2⟩ := info_parts info_named
      subst hjn
      clear hds hjj t1 mx1 g1 lx hx row off HJ HF HL
      unfold CP at CR
      go_wp2_with fail
      refine CR.out.mono ?_
      rintro e wS ⟨mb,rfl,hm,r2,t2,g2⟩
      have SO := hid (show GSo C ad H1 ca1 σj nb nv1 vs1 wS mb (.slice (some ⟨gf,0,none⟩) j capf) d1 from ⟨t2,hm,GM.lt r2,fun q hq => ⟨(Q1.out.2.2.2.2.2.2 q hq).2.1,Nat.lt_of_lt_of_le (Q1.out.2.2.2.2.2.1.lt q hq).2 g2.size⟩,Q.out.2.2.2.1.gb (Q1.out.2.2.1.tr (g2.mono fun k e => Q1.out.1.clo k e))⟩)
      have G0 := hid (show GSt C H1 ca1 σj nb nv1 vs1 wS mb L (.slice (some ⟨gf,0,none⟩) j capf) xs next 0 (.slice none 0 0) wS from ⟨H1,d1,[],t2,MX.refl _ _ _,Gb.refl _ _,r2,by rw [Q1.out.2.2.2.1]; exact ownsRow_gb Q1.out.2.2.2.2.2.1 g2 (fun q hq => (Q1.out.2.2.2.2.2.2 q hq).2.1),rfl,World.ownsRow_nil _ _ _ _,(fun q hq => by cases hq),fun i p q e => by simp at e⟩)
      have GS := hid (Q1.out.2.2.1.tr (g2.mono fun k e => Q1.out.1.clo k e))
      clear hm r2 t2 g2 CR
      go_wp2_with fail
      go_loopg [11,33] (j + 1) (fun gh y i wi => ∃ k : Nat,k ≤ j ∧ i = .int .i64 k ∧ gh = j - k + 1 ∧ Hid (GSt C H1 ca1 σj nb nv1 vs1 wS mb L (.slice (some ⟨gf,0,none⟩) j capf) xs next k y wi))
      case atStart => exact ⟨0,by omega,rfl,by omega,G0⟩
      case round =>
        obtain ⟨k,hk,rfl,hgk,HG⟩ := hrel
        by_cases hkl : k < j
        · have hkn : k < ns.length := by rw [← NN.out]; exact hkl
          obtain ⟨nm,hnm⟩ : ∃ x,ns[k]? = some x := ⟨_,List.getElem?_eq_getElem hkn⟩
          obtain ⟨u,hu⟩ : ∃ x,us[k]? = some x := ⟨_,List.getElem?_eq_getElem (by rw [Q.out.1.lu]; exact hkn)⟩
          obtain ⟨c,hc⟩ : ∃ x,csj[k]? = some x := ⟨_,List.getElem?_eq_getElem (by rw [LC.out]; exact hkl)⟩
          obtain ⟨x,hx⟩ : ∃ x,xs[k]? = some x := ⟨_,List.getElem?_eq_getElem (by rw [Q1.out.2.2.2.1,LC.out]; exact hkl)⟩
          obtain ⟨t,ht,hgen⟩ := NX.out.2.2 k nm c hnm hc
          have ecx := Q1.out.2.2.2.2.1 k c x hc hx
          obtain ⟨cur,hb1,hb2⟩ := Q.out.1.row
          have hz : Fz H wr := by
            obtain ⟨Hk,dk,nk,tk,mxk,_⟩ := HG.out
            exact fun q o e => tk.ms.cs.fz q o (mxk.ext q o (Q1.out.2.1.ext q o e))
          obtain ⟨k1,k2⟩ := row_bind hz hb1 hb2 hnm hu
          have lB := lt_of_block (hz _ _ hb1)
          have hfc : wr.cell? ⟨gf,k,none⟩ = some (CP x) ∧ gf < wr.heap.size := by
            obtain ⟨Hk,dk,nk,tk,mxk,gbk,ra,rf,_⟩ := HG.out
            have hxl : xs.length = j := by rw [Q1.out.2.2.2.1,LC.out]
            rw [hxl] at rf
            exact row_cell rf (by rw [List.getElem?_map,hx]; rfl)
          obtain ⟨Tu,bu,rfl⟩ : ∃ T b,u = .iface T (.pointer (some ⟨b,0,none⟩)) := by
            obtain ⟨e9,he9⟩ : ∃ x,es[k]? = some x := ⟨_,List.getElem?_eq_getElem (by rw [Q.out.1.le]; exact hkn)⟩
            exact (Q.out.1.is k u e9 hu he9).val
          have gn : wr.grownBy (wr.alloc (.cells #[.string (B nm),.iface Tu (.pointer (some ⟨bu,0,none⟩))] 187)).drew none := grown_drew (World.grownBy_alloc _ _ _)
          have CG := hid (gen_step SO.out HG.out gn ecx hgen)
          have HT := hid ht
          have nq : ∀ q,u11.ownBlock = some q → q ≠ wr.heap.size ∧ q ≠ gf := fun q hq => by
            obtain ⟨Hk,dk,nk,tk,mxk,gbk,ra,rf,ln,rn,ro,_⟩ := HG.out
            have h1 := (ro q hq).1
            have h2 := (rn.lt q hq).2
            have h3 := (SO.out.fo gf rfl).2
            exact ⟨by omega,by omega⟩
          have hw9 : ¬ InAs ca1 wr.heap.size := fun hm => by
            obtain ⟨Hk,dk,nk,tk,_⟩ := HG.out
            have := InAs.lt tk.ms.cs hm
            omega
          have hgf9 := (SO.out.fo gf rfl).1
          obtain ⟨hf1,hf2⟩ := hfc
          have b0c : (wr.alloc (.cells #[.string (B nm),.iface Tu (.pointer (some ⟨bu,0,none⟩))] 187)).drew.cell? ⟨wr.heap.size,0,none⟩ = some (.string (B nm)) := blk_c (w := (wr.alloc (.cells #[.string (B nm),.iface Tu (.pointer (some ⟨bu,0,none⟩))] 187)).drew) (heap_alloc_new wr _) 0 rfl
          have b1c : (wr.alloc (.cells #[.string (B nm),.iface Tu (.pointer (some ⟨bu,0,none⟩))] 187)).drew.cell? ⟨gf,k,none⟩ = some (CP x) := (Gb.new (R := fun _ => False) gn).cell hf1 hf2 id
          have S2 := hid (And.intro b0c b1c)
          have NQ := hid (And.intro nq (And.intro hw9 hgf9))
          clear hnm hu hc hx ht hgen ecx hb1 hb2 hz gn hkn b0c b1c nq hw9 hgf9
          unfold CP at CG hf1 S2
          go_wp2_with fail
          go_region_held3 (fun wx => wx.cell? ⟨wr.heap.size,0,none⟩ = some (.string (B nm)) ∧ wx.cell? ⟨gf,k,none⟩ = some (.pointer (some ⟨x,0,none⟩))) (first | exact S2.out | exact S7.out | exact S6.out | exact S5.out | go_keep) (first
            | (go_at_call 74; refine CG.out.mono ?_; rintro e w5 ⟨T5,b5,rfl,g5,hm5⟩; have S5 := hid (And.intro (g5.cell S2.out.1 (by simp) NQ.out.2.1) (g5.cell S2.out.2 (by simp; omega) NQ.out.2.2)); have gS : w5.grownBy (w5.alloc (.cells #[.string (B nm),.iface T5 (.pointer (some ⟨b5,0,none⟩))] 338)) none := World.grownBy_alloc _ _ _; have lw5 := g5.size; have S6 := hid (And.intro ((Gb.new (R := fun _ => False) gS).cell S5.out.1 (by simp at lw5; omega) id) ((Gb.new (R := fun _ => False) gS).cell S5.out.2 (by simp at lw5; omega) id)); obtain ⟨nk,lnk,row2,hbs,APP⟩ := next_app SO.out hm5 HT.out gS; have AP := hid APP; have hcl : nk.length ≤ 1000 := (by rw [lnk]; omega); have hnews := news_two w5 nm T5 b5; have hone := one_two nm T5 b5; clear hm5 APP gS lnk g5)
            | (refine step_append_lies _ (by rfl) _ _ _ (by rfl) C.base 338 j0 _ 2 32 Tryz.underlying169 hj0 hy0 hy1 hy2 rfl (by decide) _ _ _ (by rfl) row2 ⟨w5.heap.size,0,none⟩ 1 1 [Value.string (B nm),.iface T5 (.pointer (some ⟨b5,0,none⟩))] (by rfl) rfl hnews hone (by decide) (by unfold maxLen; omega) (by omega) hbs (w5.heap.size + 1) (by simp) ?_; intro g7 cap7 w7 hown7 hgrow7 hat7 _; have F7 := hid (AP.out g7 cap7 w7 hown7 hgrow7 (by simpa using hat7)); have g77 := Gb.of (R := fun q => u11.ownBlock = some q) hgrow7 (fun b e => Or.inl e); have S7 := hid (And.intro (g77.cell S6.out.1 (by simp at lw5 ⊢; omega) (fun e => (NQ.out.1 _ e).1 rfl)) (g77.cell S6.out.2 (by simp at lw5 ⊢; omega) (fun e => (NQ.out.1 _ e).2 rfl))); clear hown7 hgrow7 hat7 g77))
          all_goals
            clear S2 S5 S6 S7 AP row2 hbs hnews hone
            go_wp2_with fail
            go_roundg (j - (k + 1) + 1)
            case measure => omega
            case rel => exact ⟨k + 1,by omega,by go_num,rfl,F7⟩
        · have hkj : k = j := by omega
          subst hkj
          obtain ⟨g9,cap9,he9,hR9⟩ := round_end SO.out HG.out h0 (by rw [NX.out.1,← NN.out]) Q1.out.2.1 GS.out
          have Q9 := hid hR9
          subst he9
          clear HG hR9
          go_wp2
          go_ret
          exact Q9.out
theorem round_e1 {C : TC} {ad : Nat → Addr} {P : Ex → List (List UInt8 × Et) → Sto → Option (Sum Nat (Sto × Nat))} (hP : ∀ K,PAE { C with keep := K } ad P) {H : Nat → Option Obj} {ca : List Nat} {σ : Sto} {d : Nat → Nat} {nb ahead : List (List UInt8 × Et)} {nv : Value} {vs nws : List NE} {w : World} {ns : List (List UInt8)} {us : List Value} {es : List Ex} {m gB capB gA capA : Nat} {q : Nat}
    (hB : GRd H gB ns us es m) (hA : AHd H ca gA nws ahead) (la : nws.length = ns.length) (h0 : 0 < ns.length) (hn : ns.length ≤ 1000) (i1 : foundE P nb ahead es σ = some (.inl q)) (h : TSv C H ca σ d nb nv vs w) (hgl : GLb C.base ad w) :
    Calls Tryz.prog 186 #[CP C.tb,.slice (some ⟨gB,0,none⟩) ns.length capB,.slice (some ⟨gA,0,none⟩) ns.length capA] w fun e w' => e = fltE (ad q) ∧ Gb C.own w w' := by
  have Q := hid (And.intro hB (And.intro hA (And.intro la (And.intro hgl (And.intro hP h)))))
  have I1 := hid (show foundE P nb ahead (es.drop 0) σ = some (.inl q) from i1)
  obtain ⟨i0,hi0,hz0,hz1,hz2⟩ := info_parts info_cellp
  obtain ⟨nn,hnn⟩ : ∃ nn,nn = ns.length := ⟨_,rfl⟩
  have NN := hid hnn
  rw [← hnn] at h0 hn ⊢
  obtain ⟨h0,hn⟩ := And.intro h0 hn
  clear hB hA la i1 h hgl hP hnn
  unfold CP
  go_enter Tryz.func186,Tryz.ntmps186
  go_wp2_with fail
  go_loopg [7,16] (nn + 1) (fun gh x i wi => ∃ (j : Nat) (σj : Sto) (csj : List Nat),j ≤ nn ∧ i = .int .i64 j ∧ gh = nn - j + 1 ∧ Hid (csj.length = j) ∧ Hid (foundE P nb ahead (es.drop j) σj = some (.inl q)) ∧ Hid (FSt C H ca nb w σj csj x wi))
  case atStart => exact ⟨0,σ,[],by omega,rfl,by omega,hid rfl,I1,hid (FSt.start Q.out.2.2.2.2.2)⟩
  case round =>
    obtain ⟨j,σj,csj,hj,rfl,hgj,HL,HJ,HF⟩ := hrel
    by_cases hjl : j < nn
    · have hjn : j < ns.length := by rw [← NN.out]; exact hjl
      obtain ⟨nm,hnm⟩ : ∃ x,ns[j]? = some x := ⟨_,List.getElem?_eq_getElem hjn⟩
      obtain ⟨u,hu⟩ : ∃ x,us[j]? = some x := ⟨_,List.getElem?_eq_getElem (by rw [Q.out.1.lu]; exact hjn)⟩
      have hje : j < es.length := by rw [Q.out.1.le]; exact hjn
      obtain ⟨e,he⟩ : ∃ x,es[j]? = some x := ⟨_,List.getElem?_eq_getElem hje⟩
      have hpe := Q.out.1.is j u e hu he
      have hd : es.drop j = e :: es.drop (j + 1) := by
        rw [List.drop_eq_getElem_cons hje]
        rw [List.getElem?_eq_getElem hje] at he
        rw [Option.some.inj he]
      have hjj := HJ.out
      rw [hd,foundE] at hjj
      cases ew : withE P e nb ahead σj with
      | none => rw [ew] at hjj; cases hjj
      | some rw1 =>
      rw [ew] at hjj
      have HJ2 := hid hjj
      clear hjj
      obtain ⟨cur,hb1,hb2⟩ := Q.out.1.row
      have hz : Fz H wr := by
        obtain ⟨H',ca',d',nv',vs',xs,t,mx,_⟩ := HF.out
        exact fun k o e => t.ms.cs.fz k o (mx.ext k o e)
      obtain ⟨k1,k2⟩ := row_bind hz hb1 hb2 hnm hu
      have lB := lt_of_block (hz _ _ hb1)
      obtain ⟨Tu,bu,rfl⟩ := hpe.val
      have gn : wr.grownBy (wr.alloc (.cells #[.string (B nm),.iface Tu (.pointer (some ⟨bu,0,none⟩))] 187)) none := World.grownBy_alloc _ _ _
      have CW := hid (found_step (capA := capA) Q.out.2.2.2.2.1 HF.out Q.out.2.1 (by rw [Q.out.2.2.1]; omega) hpe ew Q.out.2.2.2.1 gn)
      rw [Q.out.2.2.1,← NN.out] at CW
      clear hnm hu he hpe hd hb1 hb2 hz gn hje hjn HJ ew
      unfold CP at CW
      go_wp2_with fail
      cases rw1 with
      | inl q' =>
        have hq : q' = q := by
          have := Option.some.inj HJ2.out
          injection this
        subst hq
        refine CW.out.mono ?_
        rintro e9 w2 ⟨rfl,g9⟩
        have Q9 := hid g9
        clear g9 CW
        unfold fltE errV
        go_wp2
        exact ⟨rfl,rfl,Q9.out⟩
      | inr y =>
      have hjj := HJ2.out
      simp only at hjj
      cases ef : foundE P nb ahead (es.drop (j + 1)) y.1 with
      | none => rw [ef] at hjj; cases hjj
      | some rf =>
      rw [ef] at hjj
      cases rf with
      | inr z => cases hjj
      | inl q' =>
      have hq : q' = q := by
        have := Option.some.inj hjj
        injection this
      subst hq
      have J2 := hid ef
      have L2 := hid (show (csj ++ [y.2]).length = j + 1 by rw [List.length_append,HL.out]; rfl)
      clear hjj ef HJ2
      refine CW.out.mono ?_
      rintro e9 w2 ⟨x,rfl,hm⟩
      have gS : w2.grownBy (w2.alloc (.cells #[CP x] 173)) none := World.grownBy_alloc _ _ _
      obtain ⟨xs,row2,hbs,APP⟩ := found_app hm gS
      have AP := hid APP
      have hcl : csj.length ≤ 1000 := by rw [HL.out]; omega
      have hnews : ∀ i v,[CP x][i]? = some v → (w2.alloc (.cells #[CP x] 173)).cell? ((⟨w2.heap.size,0,none⟩ : Addr).add i) = some v := World.news_of_block (heap_alloc_new w2 _)
      have hone : ∀ v,v ∈ [CP x] → v.oneCell' = true := fun v hv => by rw [List.mem_singleton.1 hv]; rfl
      clear hm CW APP gS
      unfold CP at *
      go_wp2_with (at_builtin; refine wpList_append_lies _ rfl (.tmp 20) (.tmp 26) 349 rfl C.base 173 i0 (.pointer none) 1 8 Tryz.underlying349 hi0 hz0 hz1 hz2 rfl (by decide) _ _ _ rfl row2 ⟨w2.heap.size,0,none⟩ 1 1 [.pointer (some ⟨x,0,none⟩)] rfl rfl hnews hone (by decide) (by unfold maxLen; omega) (by omega) hbs (w2.heap.size + 1) (by simp) ?_)
      intro g7 cap7 w7 hown7 hgrow7 hat7 _
      have F7 := hid (AP.out g7 cap7 w7 hown7 hgrow7 (by simpa using hat7))
      clear hown7 hgrow7 hat7 AP row2 hbs hnews hone
      go_wp2_with fail
      go_roundg (nn - (j + 1) + 1)
      case measure => omega
      case rel => exact ⟨j + 1,y.1,csj ++ [y.2],by omega,by go_num,rfl,L2,J2,F7⟩
    · exfalso
      have hjn : j = nn := by omega
      have hds : es.drop j = [] := List.drop_eq_nil_of_le (by rw [Q.out.1.le,← NN.out,hjn]; exact Nat.le_refl _)
      have hjj := HJ.out
      rw [hds,foundE] at hjj
      cases hjj
def NSt (C : TC) (H : Nat → Option Obj) (ca : List Nat) (σ : Sto) (nb : List (List UInt8 × Et)) (nv : Value) (vs : List NE) (w0 : World) (ns : List (List UInt8)) (k : Nat) (nx : Value) (w : World) : Prop :=
  ∃ (Hk : Nat → Option Obj) (dk : Nat → Nat) (nk : List NE),TSv C Hk ca σ dk nb nv vs w ∧ MX H Hk ca ca w0 ∧ Gb C.own w0 w ∧ nk.length = k ∧ w.ownsRow C.base 338 2 nx nk.length (nmCells nk) ∧ (∀ q,nx.ownBlock = some q → w0.heap.size ≤ q ∧ Hk q = none) ∧ ∀ (i : Nat) (p : NE) n,nk[i]? = some p → ns[i]? = some n → p.1 = n ∧ ER Hk ca p.v (vT [97])
theorem names_app {C : TC} {H : Nat → Option Obj} {ca : List Nat} {σ : Sto} {d : Nat → Nat} {nb : List (List UInt8 × Et)} {nv : Value} {vs : List NE} {w0 w w1 w2 : World} {ns : List (List UInt8)} {k : Nat} {nx : Value} {nm : List UInt8} {b : Nat} (S : TSv C H ca σ d nb nv vs w0) (h : NSt C H ca σ nb nv vs w0 ns k nx w) (hk : ns[k]? = some nm) (g1 : w.grownBy w1 none) (hb : w.heap.size ≤ b) (hb1 : w1.heap[b]? = some (.cells #[.string (B [97])] 246 (0,0))) (g2 : w1.grownBy w2 none) :
    ∃ nk : List NE,nk.length = k ∧ w2.ownsRow C.base 338 2 nx nk.length (nmCells nk) ∧ C.base ≤ w2.heap.size ∧ ∀ g cap w3,w3.ownsRow C.base 338 2 (.slice (some ⟨g,0,none⟩) (nk.length + 1) cap) (nk.length + 1) (nmCells nk ++ [.string (B nm),.iface 242 (.pointer (some ⟨b,0,none⟩))]) → w2.grownBy w3 nx.ownBlock → (nx.ownBlock = some g ∨ g = w2.heap.size) → NSt C H ca σ nb nv vs w0 ns (k + 1) (.slice (some ⟨g,0,none⟩) (nk.length + 1) cap) w3 := by
  obtain ⟨Hk,dk,nk,tk,mx,gb,ln,rn,ro,hi⟩ := h
  have g12 := g1.trans g2
  have gF : Gb (fun _ => False) w w2 := Gb.new g12
  have rn2 := ownsRow_gb rn gF (fun _ _ => id)
  have t2 := tk.grown g12
  have hb2 : w2.heap[b]? = some (.cells #[.string (B [97])] 246 (0,0)) := (g2.block b (lt_of_block hb1) (by simp)).trans hb1
  refine ⟨nk,ln,rn2,t2.bs,fun g cap w3 hown hgr hat => ?_⟩
  have gR : Gb (fun q => nx.ownBlock = some q) w2 w3 := Gb.of hgr (fun b e => Or.inl e)
  have big : ∀ q,nx.ownBlock = some q → ∀ z,z < w0.heap.size → z ≠ q := fun q hq z hz e => by have := (ro q hq).1; omega
  have nqb : ∀ q,nx.ownBlock = some q → q ≠ b := fun q hq e => by have := (rn.lt q hq).2; omega
  have hR : ∀ q,nx.ownBlock = some q → Hk q = none ∧ q ∉ ca ∧ q ≠ C.tb ∧ nv.ownBlock ≠ some q ∧ C.base ≤ q := fun q hq => ⟨(ro q hq).2,fun hm => big q hq q (InAs.lt S.ms.cs hm) rfl,fun e => big q hq _ S.ms.bk.lt e.symm,fun e => big q hq q (S.nr.own.lt q e).2 rfl,(rn.lt q hq).1⟩
  have t3 := t2.side gR hR
  have hb3 : w3.heap[b]? = some (.cells #[.string (B [97])] 246 (0,0)) := gR.at hb2 (fun e => nqb b e rfl)
  have hbn : Hk b = none := tk.ms.cs.fz.none hb
  have hsz := gb.size
  have tf := t3.freeze hb3 hbn (fun hm => by have := InAs.lt S.ms.cs hm; omega) (fun e => by have := S.ms.bk.lt; omega) (fun e => by have := (S.nr.own.lt b e).2; omega)
  have ext := onto1_ext (o := .cells #[.string (B [97])] 246 (0,0)) hbn
  have mf : MX H (onto1 Hk b (.cells #[.string (B [97])] 246 (0,0))) ca ca w0 := ⟨fun k o e => ext k o (mx.ext k o e),onto1_new mx.new (by omega),List.prefix_refl _,fun _ h => Or.inl h⟩
  refine ⟨_,dk,nk ++ ([((nm,242,b) : List UInt8 × TypeId × Nat)] : List NE),tf,mf,(gb.tr (Gb.new g12)).tr (gR.mono fun q hq => ⟨(hR q hq).2.2.2.2,fun hk => big q hq q (S.kp q hk) rfl⟩),(by rw [List.length_append,ln]; rfl),?_,fun q hq => ?_,fun i p n e1 e2 => ?_⟩
  · rw [List.length_append,nmCells_app]
    exact hown
  · have eq : g = q := by simpa [Value.ownBlock] using hq
    subst eq
    have no : g ≠ b → Hk g = none → onto1 Hk b (.cells #[.string (B [97])] 246 (0,0)) g = none := fun h1 h2 => by unfold onto1; rw [if_neg h1]; exact h2
    rcases hat with e | e
    · exact ⟨(ro g e).1,no (nqb g e) (ro g e).2⟩
    · have h9 := lt_of_block hb2
      exact ⟨by rw [e]; exact Nat.le_trans hsz g12.size,no (by omega) (tk.ms.cs.fz.none (by rw [e]; exact g12.size))⟩
  · rcases Nat.lt_or_ge i nk.length with hl | hl
    · rw [List.getElem?_append_left hl] at e1
      exact ⟨(hi i p n e1 e2).1,ERep.onto (hi i p n e1 e2).2 ext⟩
    · rw [List.getElem?_append_right hl] at e1
      match hj : i - nk.length with
      | 0 =>
        rw [hj] at e1
        cases e1
        have ei : i = k := by omega
        rw [ei,hk] at e2
        cases e2
        exact ⟨rfl,1,b,Or.inr (Or.inl ⟨rfl,rfl,(show [(97 : UInt8)].length ≤ 300 by decide),Nat.zero_le _,rfl,onto1_at⟩)⟩
      | j + 1 =>
        rw [hj] at e1
        have h9 : (none : Option NE) = some p := e1
        cases h9
theorem names_end {C : TC} {H : Nat → Option Obj} {ca : List Nat} {σ : Sto} {d : Nat → Nat} {nb : List (List UInt8 × Et)} {nv : Value} {vs : List NE} {w0 w : World} {ns : List (List UInt8)} {nx : Value} (S : TSv C H ca σ d nb nv vs w0) (h : NSt C H ca σ nb nv vs w0 ns ns.length nx w) (h0 : 0 < ns.length) :
    ∃ g cap Hk dk nk,nx = .slice (some ⟨g,0,none⟩) ns.length cap ∧ TSv C Hk ca σ dk nb nv vs w ∧ MX H Hk ca ca w0 ∧ Gb C.own w0 w ∧ AHd Hk ca g nk (ns.map fun n => (n,vT [97])) ∧ nk.length = ns.length := by
  obtain ⟨Hk,dk,nk,tk,mxk,gbk,ln,rn,ro,hi⟩ := h
  obtain ⟨g,cap,rfl⟩ := row_slice rn (by omega)
  have hro := ro g rfl
  obtain ⟨r1,r2⟩ := rn
  rcases r2 with ⟨r2,_⟩ | ⟨g',cap',cur,e1,h3,h4,h5,h6,h7,h8⟩
  · cases r2
  have eg : g = g' := by injection e1 with q; injection q with q; injection q
  subst eg
  have big : ∀ z,z < w0.heap.size → z ≠ g := fun z hz e => by have := hro.1; omega
  have tf := tk.freeze h4 hro.2 (fun hm => big g (InAs.lt S.ms.cs hm) rfl) (fun e => big _ S.ms.bk.lt e.symm) (fun e => big g (S.nr.own.lt g e).2 rfl)
  have ext := onto1_ext (o := .cells cur 338 (0,0)) hro.2
  refine ⟨g,cap,_,dk,nk,by rw [ln],tf,⟨fun k o e => ext k o (mxk.ext k o e),onto1_new mxk.new hro.1,List.prefix_refl _,fun _ h => Or.inl h⟩,gbk,⟨⟨cur,onto1_at,h8⟩,by rw [ln,List.length_map],fun i p q q1 q2 => ?_⟩,ln⟩
  rw [List.getElem?_map] at q2
  cases en : ns[i]? with
  | none => rw [en] at q2; cases q2
  | some n =>
    rw [en] at q2
    cases q2
    exact ⟨(hi i p n q1 en).1,ERep.onto (hi i p n q1 en).2 ext⟩
theorem GRd.mx {H H' : Nat → Option Obj} {ca ca' : List Nat} {w : World} {gB : Nat} {ns : List (List UInt8)} {us : List Value} {es : List Ex} {m : Nat} (h : GRd H gB ns us es m) (x : MX H H' ca ca' w) : GRd H' gB ns us es m := by
  obtain ⟨cur,h1,h2⟩ := h.row
  exact ⟨⟨cur,x.ext _ _ h1,h2⟩,h.lu,h.le,fun i u e e1 e2 => x.prep (h.is i u e e1 e2)⟩
theorem AHd.rowN {H : Nat → Option Obj} {ca : List Nat} {σ : Sto} {d : Nat → Nat} {g cap : Nat} {nws : List NE} {ahead : List (List UInt8 × Et)} {w : World} (h : AHd H ca g nws ahead) (hc : CSd H ca σ d w) : RowN ca w (.slice (some ⟨g,0,none⟩) nws.length cap) nws := by
  obtain ⟨cur,h1,h2⟩ := h.row
  have hb := hc.fz _ _ h1
  refine ⟨g,cap,rfl,lt_of_block hb,fun hm => ?_,fun j p e => ?_⟩
  · have := hc.off g hm
    rw [this] at h1
    cases h1
  · have hj := (List.getElem?_eq_some_iff.1 e).1
    have q := nmCells_at nws j p e
    rw [← h2,List.getElem?_take_of_lt (by omega),List.getElem?_take_of_lt (by omega)] at q
    have b1 : cur[j * 2]? = some (.string (B p.1)) := by simpa using q.1
    have b2 : cur[j * 2 + 1]? = some p.v := by simpa using q.2
    exact ⟨by simp [World.cell?,hb,b1],by simp [World.cell?,hb,b2]⟩
end Go.Proofs.YtcdijppegfcoaabGreatDoor
