import Derived.Test.YtcdijppegfcoaabGreatDoorZC16
import Derived.Test.YtcdijppegfcoaabGreatDoorZC17
import Derived.Deep.AppendLies
set_option maxRecDepth 100000
set_option maxHeartbeats 4000000
namespace Go.Proofs.YtcdijppegfcoaabGreatDoor
open Go.RowKit Go.Shelf
attribute [local go_sem] Oper.semAt_some
theorem NIs.mono {n₀ n₁ : Nat} {W : World} {sv : Value} {zs : List NE} (h : NIs n₀ W sv zs) (hn : n₀ ≤ n₁) : NIs n₁ W sv zs := by
  rcases h with e | ⟨b,cap,e,hb,hc⟩
  · exact .inl e
  · exact .inr ⟨b,cap,e,by omega,hc⟩
def inner (vs : List NE) (nm : List UInt8) : Option NE := vs.reverse.find? fun p => p.1 = nm
def schV (vs : List NE) (nm : List UInt8) (u : Value) : Value := match inner vs nm with | some p => .agg #[p.v] | none => .agg #[u]
theorem bupto_snd {vs : List NE} {k : Nat} (hk : k ≤ vs.length) : (bupto vs vs.length k).map (·.2) = vs.reverse.take k := by
  apply List.ext_getElem
  · simp [bupto]; omega
  · intro i h1 h2
    have h3 : i < k := by simpa [bupto] using h1
    have h4 : vs.length - 1 - i < vs.length := by omega
    simp [bupto,NE.at,List.getElem_reverse,h4]
    rfl
theorem inner_some {vs : List NE} {nm : List UInt8} {k : Nat} (hk : k ≤ vs.length) {ini : List (Nat × NE)} {last : Nat × NE} (e1 : bupto vs vs.length k = ini ++ [last]) (e2 : ∀ p ∈ ini,p.2.1 ≠ nm) (e3 : last.2.1 = nm) : inner vs nm = some last.2 := by
  have h1 := bupto_snd hk
  rw [e1,List.map_append] at h1
  unfold inner
  rw [← List.take_append_drop k vs.reverse,← h1,List.append_assoc,List.find?_append]
  have h2 : (ini.map (·.2)).find? (fun p => decide (p.1 = nm)) = none := by
    rw [List.find?_eq_none]
    intro x hx
    obtain ⟨y,hy,rfl⟩ := List.mem_map.1 hx
    simpa using e2 y hy
  rw [h2]
  simp [e3]
theorem inner_none {vs : List NE} {nm : List UInt8} (h : ∀ p ∈ bupto vs vs.length vs.length,p.2.1 ≠ nm) : inner vs nm = none := by
  have h1 := bupto_snd (vs := vs) (Nat.le_refl _)
  rw [List.take_of_length_le (by simp)] at h1
  unfold inner
  rw [List.find?_eq_none,← h1]
  intro x hx
  obtain ⟨y,hy,rfl⟩ := List.mem_map.1 hx
  simpa using h y hy
theorem scheme_in (F : Fence) (n : Nat) (h3 : F.fn 153) (h6 : F.fn 182) (h8 : F.fn 193) (hro : F.round = none) (hn : 6 ≤ n) (tb : Nat) (a : Option Addr) (len cap : Nat) (env : Value) (u : Value) (vs : List NE) (nm : List UInt8) (hlen : nm.length ≤ 300) (hreach : vs.length * 24 ≤ 140737488351232) (w : World)
    (c4 : w.cell? ⟨tb,4,none⟩ = some (.slice a len cap)) (c3 : w.cell? ⟨tb,3,none⟩ = some env) (hI : NIs w.heap.size w (.slice a len cap) vs) (htl : tb < w.heap.size) (hE : inner vs nm = none → (∃ T0 b0,u = .iface T0 (.pointer (some ⟨b0,0,none⟩))) ∧ ∀ W,Below w.heap.size w W → (Instr.lookup 104 env (.string (B nm)) false).run Tryz.prog W = .ok (.agg #[u]) W) :
    CallsIn F n Tryz.prog 153 #[CP tb,.string (B nm)] w fun e W' => e = .returned (schV vs nm u) ∧ Below w.heap.size w W' := by
  have h1 : 1 ≤ n := by omega
  unfold CP
  refine callsIn_of_wp_marks Tryz.func153 rfl h3 ?_ hro
  simp only [Tryz.ntmps153,List.size_toArray,List.length_cons,List.length_nil,Nat.reduceAdd,Nat.reduceSub,Array.replicate_succ,Array.replicate_zero,List.push_toArray,List.append_toArray,List.nil_append,List.cons_append]
  gi_wp2_with (gi_at_call 182; refine (back_in F (n - 1) h6 hro _ _ _ _).mono ?_; rintro e w' ⟨rfl,rfl⟩)
  have bS := ((Boxed.new w 9 (.string (B nm))).alloc (.cells #[.nilIface] 109)).alloc (.cells #[.slice a len cap] 169)
  have bR := (Boxed.new (w.alloc (.cells #[.string (B nm)] 9)) 109 .nilIface).alloc (.cells #[.slice a len cap] 169)
  have bA := Boxed.new ((w.alloc (.cells #[.string (B nm)] 9)).alloc (.cells #[.nilIface] 109)) 169 (.slice a len cap)
  simp only [World.size_alloc] at bR bA
  have hB0 : Below w.heap.size w (((w.alloc (.cells #[.string (B nm)] 9)).alloc (.cells #[.nilIface] 109)).alloc (.cells #[.slice a len cap] 169)) := (((Below.refl _ w).alloc (Nat.le_refl _) _).alloc (by simp) _).alloc (by simp; omega) _
  have hsz : (((w.alloc (.cells #[.string (B nm)] 9)).alloc (.cells #[.nilIface] 109)).alloc (.cells #[.slice a len cap] 169)).heap.size = w.heap.size + 3 := by simp
  obtain ⟨W0,hW0⟩ : ∃ W0,((w.alloc (.cells #[.string (B nm)] 9)).alloc (.cells #[.nilIface] 109)).alloc (.cells #[.slice a len cap] 169) = W0 := ⟨_,rfl⟩
  rw [hW0] at bS bR bA hB0 hsz ⊢
  clear hW0
  refine wpIn_rangeFunc_ownH hro h1 (gf := 193) (lb := #[.pointer (some ⟨w.heap.size + 1 + 1,0,none⟩)]) rfl h8 (enters_of Tryz.func193 (by kernel_rfl) rfl)
    (back_stops F (n - 1) h8 hro (by omega) (w.heap.size + 1 + 1) (w.heap.size + 3) _ vs hreach W0 (by omega) (by omega) bA.cell ((hI.below hB0).mono (by omega))) belowK_t (belowK_b (by omega)) (Below.refl _ _) (fun _ => rfl)
    (fun pre W => ((∀ p ∈ pre,p.2.1 ≠ nm) ∧ Boxed W w.heap.size 9 (.string (B nm)) ∧ Boxed W (w.heap.size + 1) 109 .nilIface) ∧ Below (w.heap.size + 3) W0 W)
    (fun c pre W => (c = .ret ∧ ∃ ini last,pre = ini ++ [last] ∧ (∀ p ∈ ini,p.2.1 ≠ nm) ∧ last.2.1 = nm ∧ Boxed W (w.heap.size + 1) 109 last.2.v) ∧ Below w.heap.size w W)
    (OwnFrom.and (Own.from (fun s A B row hs hg hr => ⟨hs.1,boxed_own _ _ (fun (_ : Unit) => _) () A B row hs.2.1 hg hr,boxed_own _ _ (fun (_ : Unit) => _) () A B row hs.2.2 hg hr⟩) _) (ownFrom_below (by omega) (by omega)))
    (fun c => OwnFrom.and (Own.from (fun s A B row hs hg hr => by obtain ⟨hc,ini,last,e1,e2,e3,e4⟩ := hs; exact ⟨hc,ini,last,e1,e2,e3,boxed_own _ _ (fun (_ : Unit) => _) () A B row e4 hg hr⟩) _) (ownFrom_below (Nat.le_refl _) (by omega)))
    ⟨⟨by simp,bS,bR⟩,Below.refl _ _⟩
    (fun x a' W => ∃ Bx,w.heap.size + 1 < Bx ∧ W.heap[Bx]? = some (.cells #[.string (B x.2.1),.iface x.2.2.1 (.pointer (some ⟨x.2.2.2,0,none⟩))] 338 (0,0)) ∧ a' = { tmps := #[.pointer (some ⟨tb,0,none⟩),.string (B nm),undef,.pointer (some ⟨w.heap.size,0,none⟩),.pointer (some ⟨w.heap.size + 1,0,none⟩),undef,.pointer (some ⟨Bx,0,none⟩),.pointer (some ⟨tb,0,none⟩),.pointer (some ⟨tb,0,none⟩),.pointer (some ⟨tb,4,none⟩),.slice a len cap,.func (.func 193) #[] #[.pointer (some ⟨w.heap.size + 1 + 1,0,none⟩)],.int .i64 (x.1 : Int),.agg #[.string (B x.2.1),.iface x.2.2.1 (.pointer (some ⟨x.2.2.2,0,none⟩))],undef,undef,undef,undef,undef,undef,undef,undef,undef,undef,undef,undef],defers := [] })
    (fun x a' _ X Y row hs hg hr => by
      obtain ⟨Bx,h1,h2,h3⟩ := hs
      refine ⟨Bx,h1,(hg.block Bx (Array.getElem?_eq_some_iff.1 h2).1 (fun e => ?_)).trans h2,h3⟩
      obtain ⟨_,o,ho,hc⟩ := hr Bx e.symm
      rw [h2] at ho; cases ho; cases hc)
    ?assign ?body ?done ?stop
  case assign =>
    rintro l pre x W K ⟨⟨hp,bS1,bR1⟩,hB1⟩ hK
    gi_wp2
    have hs1 := hB1.size
    exact hK _ _ ((KeepsOthers.alloc _ _).from _) ((Below.refl _ W).alloc (by omega) _) ⟨⟨hp,bS1.alloc _,bR1.alloc _⟩,hB1.alloc (by omega) _⟩ ⟨W.heap.size,by omega,heap_alloc_new _ _,rfl⟩
  case body =>
    rintro l pre x a' W hl ⟨r,hr⟩ ⟨⟨hp,bS1,bR1⟩,hB1⟩ ⟨Bx,hBx,bX,rfl⟩ hlt
    have cS := bS1.cell
    have cR := bR1.cell
    have fR := bR1.frozen
    have cX0 := blk_c bX 0 rfl
    have cX1 := blk_c bX 1 rfl
    gi_wp2
    · rename_i hx
      rw [str_beq] at hx
      have hx1 : x.2.1 = nm := eq_of_beq hx
      exact ⟨(KeepsOthers.setCell _ _ _).from _,⟨rfl,pre,x,rfl,hp,hx1,bR1.set _⟩,(hB0.trans (hB1.mono (by omega))).setCell (p := ⟨w.heap.size + 1,0,none⟩) (by simp) _⟩
    · rename_i hx
      rw [str_beq] at hx
      exact ⟨KeepsFrom.refl _ _,Below.refl _ _,⟨fun y hy => (List.mem_append.1 hy).elim (hp y) (fun e e' => by rw [List.mem_singleton] at e; subst e; subst e'; simp at hx),bS1,bR1⟩,hB1⟩
  case done =>
    rintro D zs W hD rfl ⟨⟨hp,bS1,bR1⟩,hB1⟩ hK
    have hB2 : Below w.heap.size w W := hB0.trans (hB1.mono (by omega))
    have cS := bS1.cell
    have cR := bR1.cell
    have fR := bR1.frozen
    have c3' := (hB2.cell (p := ⟨tb,3,none⟩) htl).trans c3
    obtain ⟨⟨T0,b0,rfl⟩,hE0⟩ := hE (inner_none hp)
    have hE1 := hE0 W.drew hB2.drew
    clear hE0 hE
    gi_wp2
    gi_region
    all_goals gi_wp2
    all_goals
      have hK' := (KeepsOthers.setCell W ⟨w.heap.size + 1,0,none⟩ (.iface T0 (.pointer (some ⟨b0,0,none⟩)))).same D _ hK rfl
      have hK2 : (W.setCell ⟨w.heap.size + 1,0,none⟩ (.iface T0 (.pointer (some ⟨b0,0,none⟩)))).drew.heap[D]? = some (.deferred (some [])) := hK'
      refine ⟨by simp,.inl ⟨_,_,rfl,run_takeDeferred hK2,?_⟩⟩
      have hc6 : (W.setCell ⟨w.heap.size + 1,0,none⟩ (.iface T0 (.pointer (some ⟨b0,0,none⟩)))).drew.cell? ⟨w.heap.size + 1,0,none⟩ = some (.iface T0 (.pointer (some ⟨b0,0,none⟩))) := World.cell?_setCell_same' W ⟨w.heap.size + 1,0,none⟩ (.iface T0 (.pointer (some ⟨b0,0,none⟩))) (by rw [cR]; rfl)
      have hc5 := cell_kept hc6 (grownBy_putObj' _ D (.deferred none)) (fun r e => by cases e; exact ⟨_,hK2,rfl⟩)
      refine ⟨.agg #[.iface T0 (.pointer (some ⟨b0,0,none⟩))],?_,by unfold schV; rw [inner_none hp],((hB2.setCell (p := ⟨w.heap.size + 1,0,none⟩) (by simp) _).drew).trans (belowK_b (w := w) (Nat.le_refl _) _ D _ _ (by omega) hK2 rfl rfl)⟩
      simp [results,Tryz.f153,go_sem,hc5]
  case stop =>
    rintro D c pre W hD ⟨k,hk,rfl⟩ ⟨⟨rfl,ini,last,e1,e2,e3,bR1⟩,hB1⟩ hK
    gi_wp2
    refine ⟨by simp,.inl ⟨_,_,rfl,run_takeDeferred hK,?_⟩⟩
    have hc5 := cell_kept bR1.cell (grownBy_putObj' _ D (.deferred none)) (fun r e => by cases e; exact ⟨_,hK,rfl⟩)
    refine ⟨.agg #[last.2.v],?_,by unfold schV; rw [inner_some hk e1 e2 e3],hB1.trans (belowK_b (w := w) (Nat.le_refl _) W D _ _ (by omega) hK rfl rfl)⟩
    simp [results,Tryz.f153,go_sem,hc5]
theorem scheme_any {tb : Nat} {a : Option Addr} {len cap : Nat} {env : Value} {u : Value} {vs : List NE} {nm : List UInt8} (hlen : nm.length ≤ 300) (hreach : vs.length * 24 ≤ 140737488351232) {w : World}
    (c4 : w.cell? ⟨tb,4,none⟩ = some (.slice a len cap)) (c3 : w.cell? ⟨tb,3,none⟩ = some env) (hI : NIs w.heap.size w (.slice a len cap) vs) (htl : tb < w.heap.size) (hE : inner vs nm = none → (∃ T0 b0,u = .iface T0 (.pointer (some ⟨b0,0,none⟩))) ∧ ∀ W,Below w.heap.size w W → (Instr.lookup 104 env (.string (B nm)) false).run Tryz.prog W = .ok (.agg #[u]) W) :
    Calls Tryz.prog 153 #[CP tb,.string (B nm)] w fun e W' => e = .returned (schV vs nm u) ∧ Below w.heap.size w W' :=
  (callsIn_wide (n := 6)).1 (scheme_in _ 6 trivial trivial trivial rfl (Nat.le_refl _) tb a len cap env u vs nm hlen hreach w c4 c3 hI htl hE)
structure TC where
  tb : Nat
  most : Value
  each : Value
  mb : Nat
  base : Nat
  ge : List (List UInt8 × Et)
  keep : List Nat
def TC.own (C : TC) (k : Nat) : Prop := C.base ≤ k ∧ k ∉ C.keep
def TC.r (C : TC) (nv : Value) : List Value := [C.most,C.each,.map (some C.mb),nv]
structure NR (H : Nat → Option Obj) (ca : List Nat) (tb base : Nat) (w : World) (nv : Value) (vs : List NE) (nb : List (List UInt8 × Et)) : Prop where
  len : vs.length = nb.length
  own : w.ownsRow base 338 2 nv vs.length (nmCells vs)
  is : ∀ (i : Nat) (p : NE) q,vs[i]? = some p → nb[i]? = some q → p.1 = q.1 ∧ ER H ca p.v q.2
  off : ∀ g,nv.ownBlock = some g → H g = none ∧ g ∉ ca ∧ g ≠ tb
  few : nb.length ≤ 1000
def GE (H : Nat → Option Obj) (ca : List Nat) (w : World) (mb : Nat) (ge : List (List UInt8 × Et)) : Prop :=
  ∃ gv : List (List UInt8 × Value),GM kS (fun v => .agg #[v]) 9 w mb gv ∧ ∀ nm t,getL ge nm = some t → ∃ v,getL gv nm = some v ∧ ER H ca v t
structure TSv (C : TC) (H : Nat → Option Obj) (ca : List Nat) (σ : Sto) (d : Nat → Nat) (nb : List (List UInt8 × Et)) (nv : Value) (vs : List NE) (w : World) : Prop where
  ms : MS H ca σ d C.tb (C.r nv) w
  nr : NR H ca C.tb C.base w nv vs nb
  env : GE H ca w C.mb C.ge
  mlo : C.mb < C.base
  tlo : C.own C.tb
  clo : ∀ a,a ∈ ca → C.own a
  kp : ∀ g,g ∈ C.keep → g < w.heap.size
  nko : ∀ g,nv.ownBlock = some g → g ∉ C.keep
theorem ownsRow_gb {R : Nat → Prop} {w w' : World} {base size n : Nat} {e : TypeId} {v : Value} {xs : List Value} (h : w.ownsRow base e size v n xs) (g : Gb R w w') (hn : ∀ k,v.ownBlock = some k → ¬ R k) : w'.ownsRow base e size v n xs := by
  obtain ⟨h1,h2⟩ := h
  refine ⟨h1,?_⟩
  rcases h2 with h2 | ⟨k,cap,cur,rfl,h3,h4,h5⟩
  · exact .inl h2
  · exact .inr ⟨k,cap,cur,rfl,h3,g.at h4 (hn k rfl),h5⟩
theorem MX.none {H H' : Nat → Option Obj} {ca ca' : List Nat} {w : World} (x : MX H H' ca ca' w) {k : Nat} (hk : k < w.heap.size) (h : H k = none) : H' k = none := by
  cases e : H' k with
  | none => rfl
  | some o =>
    rcases x.new _ _ e with h1 | h1
    · rw [h] at h1; cases h1
    · omega
theorem MX.notin {H H' : Nat → Option Obj} {ca ca' : List Nat} {w : World} (x : MX H H' ca ca' w) {k : Nat} (hk : k < w.heap.size) (h : k ∉ ca) : k ∉ ca' := fun e => by
  rcases x.cnew _ e with h1 | h1
  · exact h h1
  · omega
theorem NR.step {R : Nat → Prop} {H H' : Nat → Option Obj} {ca ca' : List Nat} {tb base : Nat} {w w' : World} {nv : Value} {vs : List NE} {nb : List (List UInt8 × Et)} (h : NR H ca tb base w nv vs nb) (x : MX H H' ca ca' w) (g : Gb R w w') (hR : ∀ k,nv.ownBlock = some k → ¬ R k) : NR H' ca' tb base w' nv vs nb :=
  ⟨h.len,ownsRow_gb h.own g hR,fun i p q e1 e2 => ⟨(h.is i p q e1 e2).1,x.er (h.is i p q e1 e2).2⟩,fun k hk => ⟨x.none (h.own.lt k hk).2 (h.off k hk).1,x.notin (h.own.lt k hk).2 (h.off k hk).2.1,(h.off k hk).2.2⟩,h.few⟩
theorem GE.step {R : Nat → Prop} {H H' : Nat → Option Obj} {ca ca' : List Nat} {mb : Nat} {ge : List (List UInt8 × Et)} {w w' : World} (h : GE H ca w mb ge) (x : MX H H' ca ca' w) (g : Gb R w w') (hR : ¬ R mb) : GE H' ca' w' mb ge := by
  obtain ⟨gv,h1,h2⟩ := h
  exact ⟨gv,h1.gb g hR,fun nm t e => by obtain ⟨v,e1,e2⟩ := h2 nm t e; exact ⟨v,e1,x.er e2⟩⟩
section
variable {C : TC} {H H' : Nat → Option Obj} {ca ca' : List Nat} {σ σ' : Sto} {d d' : Nat → Nat} {nb : List (List UInt8 × Et)} {nv : Value} {vs : List NE} {w w' : World}
theorem TSv.low (h : TSv C H ca σ d nb nv vs w) (k : Nat) (hk : k = C.tb ∨ InAs ca k) : C.own k := by
  rcases hk with e | e
  · rw [e]; exact h.tlo
  · exact h.clo k e
theorem TSv.gbase (h : TSv C H ca σ d nb nv vs w) (g : Gb (fun k => k = C.tb ∨ InAs ca k) w w') : Gb C.own w w' := g.mono fun k hk => h.low k hk
theorem TSv.bs (h : TSv C H ca σ d nb nv vs w) : C.base ≤ w.heap.size := Nat.le_trans h.tlo.1 (Nat.le_of_lt h.ms.bk.lt)
theorem TSv.step (h : TSv C H ca σ d nb nv vs w) (m : MS H' ca' σ' d' C.tb (C.r nv) w') (x : MX H H' ca ca' w) (g : Gb (fun k => k = C.tb ∨ InAs ca k) w w') : TSv C H' ca' σ' d' nb nv vs w' :=
  ⟨m,h.nr.step x g (fun k hk e => by rcases e with e | e; exact (h.nr.off k hk).2.2 e; exact (h.nr.off k hk).2.1 e),h.env.step x g (fun e => by have := (h.low _ e).1; have := h.mlo; omega),h.mlo,h.tlo,fun a ha => by
    rcases x.cnew a ha with e | e
    · exact h.clo a e
    · exact ⟨by have := h.bs; omega,fun hk => by have := h.kp a hk; omega⟩,fun k hk => Nat.lt_of_lt_of_le (h.kp k hk) g.size,h.nko⟩
theorem TSv.grown (h : TSv C H ca σ d nb nv vs w) (g : w.grownBy w' none) : TSv C H ca σ d nb nv vs w' := h.step (h.ms.grown g) (MX.refl _ _ _) (Gb.new g)
theorem MS.drew {tb : Nat} {r : List Value} (h : MS H ca σ d tb r w) : MS H ca σ d tb r w.drew := ⟨h.cs.drew,h.bk,h.ht,h.hta⟩
theorem TSv.drew (h : TSv C H ca σ d nb nv vs w) : TSv C H ca σ d nb nv vs w.drew := h.step h.ms.drew (MX.refl _ _ _) (Gb.refl _ w).drew
end
def TSP (C : TC) (H : Nat → Option Obj) (ca : List Nat) (σ' : Sto) (c : Nat) (nb : List (List UInt8 × Et)) (w : World) (e : Ending) (w' : World) : Prop :=
  ∃ H' ca' d' x nv vs,e = .returned (CP x) ∧ ca'[c]? = some x ∧ TSv C H' ca' σ' d' nb nv vs w' ∧ MX H H' ca ca' w ∧ Gb C.own w w'
theorem TSP.low {C : TC} {H H1 : Nat → Option Obj} {ca ca1 : List Nat} {σ' : Sto} {c : Nat} {nb : List (List UInt8 × Et)} {w w1 w2 : World} {e : Ending} (h : TSP C H1 ca1 σ' c nb w1 e w2) (x : MX H H1 ca ca1 w) (g : Gb C.own w w1) : TSP C H ca σ' c nb w e w2 := by
  obtain ⟨H',ca',d',y,nv,vs,h1,h2,h3,h4,h5⟩ := h
  exact ⟨H',ca',d',y,nv,vs,h1,h2,h3,x.trans h4 g.size,g.tr h5⟩
def lookT (nb ge : List (List UInt8 × Et)) (nm : List UInt8) : Option Et := match nb.reverse.find? (fun p => decide (p.1 = nm)) with
  | some p => some p.2
  | none => getL ge nm
def nameT (ge : List (List UInt8 × Et)) (nm : List UInt8) (nb : List (List UInt8 × Et)) (σ : Sto) : Option (Sto × Nat) :=
  if nm.length ≤ 300 then match lookT nb ge nm with
    | none => none
    | some t => match instS 400 t σ [] with
      | none => none
      | some (σ1,_,c) => some (σ1,c)
  else none
def ofT (o : Option Et) (σ : Sto) : Option (Sto × Nat) := if roomy σ = true then some (σ.new o,σ.rep.length) else none
def funT (P : Ex → List (List UInt8 × Et) → Sto → Option (Sto × Nat)) (p : List UInt8) (b : Ex) (nb : List (List UInt8 × Et)) (σ : Sto) : Option (Sto × Nat) :=
  match ofT none σ with
  | none => none
  | some (σ1,c0) => if nb.length < 1000 then match P b (nb ++ [(p,cT c0)]) σ1 with
    | none => none
    | some (σ2,c2) => ofT (some ⟨kFun,[],0,[cT c0,cT c2]⟩) σ2
    else none
def applyT (P : Ex → List (List UInt8 × Et) → Sto → Option (Sto × Nat)) (a b : Ex) (nb : List (List UInt8 × Et)) (σ : Sto) : Option (Sto × Nat) :=
  match P a nb σ with
  | none => none
  | some (σ1,c1) => match P b nb σ1 with
    | none => none
    | some (σ2,c2) => match ofT none σ2 with
      | none => none
      | some (σ3,c3) => match ofT (some ⟨kFun,[],0,[cT c2,cT c3]⟩) σ3 with
        | none => none
        | some (σ4,c4) => match equalS c1 c4 σ4 with
          | some (some σ5) => some (σ5,c3)
          | _ => none
def pairT (P : Ex → List (List UInt8 × Et) → Sto → Option (Sto × Nat)) (a b : Ex) (nb : List (List UInt8 × Et)) (σ : Sto) : Option (Sto × Nat) :=
  match P a nb σ with
  | none => none
  | some (σ1,c1) => match P b nb σ1 with
    | none => none
    | some (σ2,c2) => ofT (some ⟨oPair,[],0,[cT c1,cT c2]⟩) σ2
def findT (P : Ex → List (List UInt8 × Et) → Sto → Option (Sto × Nat)) (ge : List (List UInt8 × Et)) (e : Ex) (nb : List (List UInt8 × Et)) (σ : Sto) : Option (Sto × Nat) :=
  if e.op = kName then (match e.names with | [nm] => nameT ge nm nb σ | _ => none)
  else if e.op = kFun then (match e.names,e.kids with | [p],[b] => funT P p b nb σ | _,_ => none)
  else if e.op = oApp then (match e.kids with | [a,b] => applyT P a b nb σ | _ => none)
  else if e.op = oPair then (match e.kids with | [a,b] => pairT P a b nb σ | _ => none)
  else if e.op = kNum then ofT (some ⟨kInt,[],0,[]⟩) σ
  else none
def sizeT (r : Option (Sto × Nat)) : Option (Sto × Nat) := match r with
  | none => none
  | some (σ,c) => if bigS σ (cT c) = some false then some (σ,c) else none
def partT (ge : List (List UInt8 × Et)) : Nat → Ex → List (List UInt8 × Et) → Sto → Option (Sto × Nat)
  | 0,_,_,_ => none
  | f + 1,e,nb,σ => sizeT (findT (partT ge f) ge e nb σ)
def FIC (C : TC) (P : Ex → List (List UInt8 × Et) → Sto → Option (Sto × Nat)) (e : Ex) : Prop := ∀ (v : Value) (m : Nat) (σ : Sto) (nb : List (List UInt8 × Et)) (σ' : Sto) (c : Nat) (H : Nat → Option Obj) (ca : List Nat) (d : Nat → Nat) (nv : Value) (vs : List NE) (w : World),
  PRep m H v e → P e nb σ = some (σ',c) → TSv C H ca σ d nb nv vs w → Calls Tryz.prog 120 #[CP C.tb,v] w (TSP C H ca σ' c nb w)
def PAC (C : TC) (P : Ex → List (List UInt8 × Et) → Sto → Option (Sto × Nat)) : Prop := ∀ (e : Ex) (v : Value) (m : Nat) (σ : Sto) (nb : List (List UInt8 × Et)) (σ' : Sto) (c : Nat) (H : Nat → Option Obj) (ca : List Nat) (d : Nat → Nat) (nv : Value) (vs : List NE) (w : World),
  PRep m H v e → P e nb σ = some (σ',c) → TSv C H ca σ d nb nv vs w → Calls Tryz.prog 75 #[CP C.tb,v] w (TSP C H ca σ' c nb w)
theorem MX.prep {H H' : Nat → Option Obj} {ca ca' : List Nat} {w : World} (x : MX H H' ca ca' w) {m : Nat} {v : Value} {e : Ex} (h : PRep m H v e) : PRep m H' v e :=
  PRep.ext (m := w.heap.size) ⟨x.ext,fun k hk => by
    cases h1 : H k with
    | none => exact x.none hk h1
    | some o => exact x.ext k o h1⟩ m v e h
theorem PRep.val {m : Nat} {H : Nat → Option Obj} {v : Value} {e : Ex} (h : PRep m H v e) : ∃ T b,v = .iface T (.pointer (some ⟨b,0,none⟩)) := by
  cases m with
  | zero => exact absurd h id
  | succ m => obtain ⟨b,_,h1,_⟩ := h; exact ⟨_,b,h1⟩
theorem nmCells_len : ∀ vs : List NE,(nmCells vs).length = vs.length * 2
  | [] => rfl
  | p :: l => by simp [nmCells,nmCells_len l]; omega
theorem nmCells_at : ∀ (vs : List NE) (j : Nat) (p : NE),vs[j]? = some p → (nmCells vs)[j * 2]? = some (.string (B p.1)) ∧ (nmCells vs)[j * 2 + 1]? = some p.v
  | [],j,p,h => by simp at h
  | q :: l,0,p,h => by
    simp at h
    subst h
    exact ⟨rfl,rfl⟩
  | q :: l,j + 1,p,h => by
    have h1 := nmCells_at l j p (by simpa using h)
    rw [show (j + 1) * 2 = j * 2 + 2 by omega]
    simpa [nmCells] using h1
theorem nmCells_app : ∀ (a b : List NE),nmCells (a ++ b) = nmCells a ++ nmCells b
  | [],_ => rfl
  | p :: l,b => by simp [nmCells,nmCells_app l b]
theorem NR.nis {H : Nat → Option Obj} {ca : List Nat} {tb base : Nat} {w : World} {nv : Value} {vs : List NE} {nb : List (List UInt8 × Et)} (h : NR H ca tb base w nv vs nb) : NIs w.heap.size w nv vs := by
  have hl := h.own.lt
  obtain ⟨h1,h2⟩ := h.own
  rcases h2 with ⟨h2,h3⟩ | ⟨g,cap,cur,rfl,h3,h4,h5,h6,h7,h8⟩
  · exact .inl ⟨h2,List.length_eq_zero_iff.1 h3⟩
  · refine .inr ⟨g,cap,rfl,(hl g rfl).2,fun j hj => ?_⟩
    have hp : vs[j]? = some (NE.at vs j) := by unfold NE.at; rw [List.getElem?_eq_getElem hj]; rfl
    have h9 := nmCells_at vs j _ hp
    rw [← h8] at h9
    have hc : ∀ i u,i < vs.length * 2 → (cur.toList.take (vs.length * 2))[i]? = some u → w.cell? ⟨g,i,none⟩ = some u := fun i u hi hu => by
      rw [List.getElem?_take_of_lt hi] at hu
      simpa [World.cell?,h4] using hu
    exact ⟨hc _ _ (by omega) h9.1,hc _ _ (by omega) h9.2⟩
theorem NR.slice {H : Nat → Option Obj} {ca : List Nat} {tb base : Nat} {w : World} {nv : Value} {vs : List NE} {nb : List (List UInt8 × Et)} (h : NR H ca tb base w nv vs nb) : ∃ a cap,nv = .slice a vs.length cap := by
  obtain ⟨h1,h2⟩ := h.own
  rcases h2 with ⟨h2,h3⟩ | ⟨g,cap,cur,h2,_⟩
  · exact ⟨none,0,by rw [h2,h3]⟩
  · exact ⟨_,cap,h2⟩
theorem find_rel {X : NE → (List UInt8 × Et) → Prop} {nm : List UInt8} : ∀ (a : List NE) (b : List (List UInt8 × Et)),a.length = b.length → (∀ (i : Nat) p q,a[i]? = some p → b[i]? = some q → p.1 = q.1 ∧ X p q) →
    (a.find? (fun p => decide (p.1 = nm)) = none ∧ b.find? (fun p => decide (p.1 = nm)) = none) ∨ ∃ p q,a.find? (fun p => decide (p.1 = nm)) = some p ∧ b.find? (fun p => decide (p.1 = nm)) = some q ∧ X p q
  | [],[],_,_ => .inl ⟨rfl,rfl⟩
  | [],_ :: _,h,_ => by simp at h
  | _ :: _,[],h,_ => by simp at h
  | p :: a,q :: b,h,hx => by
    have h0 := hx 0 p q rfl rfl
    by_cases hp : p.1 = nm
    · refine .inr ⟨p,q,?_,?_,h0.2⟩
      · rw [List.find?_cons,decide_eq_true hp]
      · rw [List.find?_cons,decide_eq_true (h0.1.symm.trans hp)]
    · have ih := find_rel (X := X) (nm := nm) a b (by simpa using h) (fun i p q e1 e2 => hx (i + 1) p q (by simpa using e1) (by simpa using e2))
      rw [List.find?_cons,List.find?_cons,decide_eq_false hp,decide_eq_false (fun e => hp (h0.1.trans e))]
      exact ih
theorem NR.find {H : Nat → Option Obj} {ca : List Nat} {tb base : Nat} {w : World} {nv : Value} {vs : List NE} {nb : List (List UInt8 × Et)} (h : NR H ca tb base w nv vs nb) (nm : List UInt8) :
    (inner vs nm = none ∧ nb.reverse.find? (fun p => decide (p.1 = nm)) = none) ∨ ∃ p q,inner vs nm = some p ∧ nb.reverse.find? (fun p => decide (p.1 = nm)) = some q ∧ ER H ca p.v q.2 :=
  find_rel (X := fun p q => ER H ca p.v q.2) vs.reverse nb.reverse (by simp [h.len]) (fun i p q e1 e2 => by
    have h1 : i < vs.length := by simpa using (List.getElem?_eq_some_iff.1 e1).1
    rw [List.getElem?_reverse h1] at e1
    rw [List.getElem?_reverse (by rw [← h.len]; exact h1),← h.len] at e2
    exact h.is _ p q e1 e2)
theorem zeroScheme (w : World) : (zeroValue 109).run Tryz.prog w = .ok (.agg #[.nilIface]) w := by kernel_rfl
theorem scheme_t {C : TC} {H : Nat → Option Obj} {ca : List Nat} {σ : Sto} {d : Nat → Nat} {nb : List (List UInt8 × Et)} {nv : Value} {vs : List NE} {w : World} {nm : List UInt8} {t : Et} (h : TSv C H ca σ d nb nv vs w) (hn : nm.length ≤ 300) (hl : lookT nb C.ge nm = some t) :
    Calls Tryz.prog 153 #[CP C.tb,.string (B nm)] w fun e w' => ∃ v,e = .returned (.agg #[v]) ∧ ER H ca v t ∧ w.grownBy w' none := by
  obtain ⟨a,cap,e1⟩ := h.nr.slice
  have hI := h.nr.nis
  have c4 : w.cell? ⟨C.tb,4,none⟩ = some nv := by have := h.ms.bk; unfold TB TC.r at this; simp [World.cell?,this]
  have c3 : w.cell? ⟨C.tb,3,none⟩ = some (.map (some C.mb)) := by have := h.ms.bk; unfold TB TC.r at this; simp [World.cell?,this]
  have hf := h.nr.few
  have hfl := h.nr.len
  obtain ⟨gv,g1,g2⟩ := h.env
  rw [e1] at c4 hI
  unfold lookT at hl
  rcases h.nr.find nm with ⟨f1,f2⟩ | ⟨p,q,f1,f2,f3⟩
  · rw [f2] at hl
    obtain ⟨v,hv,hr⟩ := g2 nm t hl
    obtain ⟨T0,b0,_,hvv⟩ := er_val hr
    refine (scheme_any (u := v) hn (by omega) c4 c3 hI h.ms.bk.lt (fun _ => ⟨⟨T0,b0,hvv⟩,fun W hW => ?_⟩)).mono ?_
    · have := GM.look1 (g1.gb (R := fun _ => False) (Gb.below hW _) id) strLaw Tryz.underlying104 (zeroScheme W) (kS_key hn)
      rw [hv] at this
      exact this
    · rintro e w' ⟨rfl,hB⟩
      exact ⟨v,by unfold schV; rw [f1],hr,(Gb.below hB _).none⟩
  · rw [f2] at hl
    have ht : q.2 = t := Option.some.inj hl
    refine (scheme_any (u := .nilIface) hn (by omega) c4 c3 hI h.ms.bk.lt (fun e => by rw [f1] at e; cases e)).mono ?_
    rintro e w' ⟨rfl,hB⟩
    exact ⟨p.v,by unfold schV; rw [f1],by rw [← ht]; exact f3,(Gb.below hB _).none⟩
section
variable {C : TC} {H H' : Nat → Option Obj} {ca ca' : List Nat} {σ σ' : Sto} {d d' : Nat → Nat} {nb : List (List UInt8 × Et)} {nv : Value} {vs : List NE} {w w' : World}
theorem TSv.cs (h : TSv C H ca σ d nb nv vs w) (c : CSd H ca σ' d' w') (g : Gb (InAs ca) w w') : TSv C H ca σ' d' nb nv vs w' := by
  refine h.step ⟨c,?_,h.ms.ht,h.ms.hta⟩ (MX.refl _ _ _) (g.mono fun k e => Or.inr e)
  have e : σ'.rep.length = σ.rep.length := by rw [← c.len,← h.ms.cs.len]
  rw [e]
  exact h.ms.bk.gb g h.ms.hta
theorem TSv.of {o : Option Et} {v : Value} {c : Nat} (h : TSv C H ca σ d nb nv vs w) (ho : ORep H ca o v) (hr : ofT o σ = some (σ',c)) :
    Calls Tryz.prog 160 #[CP C.tb,v] w fun e w' => ∃ a,e = .returned (CP a) ∧ (ca ++ [a])[c]? = some a ∧ TSv C H (ca ++ [a]) σ' d nb nv vs w' ∧ MX H H ca (ca ++ [a]) w ∧ Gb C.own w w' := by
  unfold ofT at hr
  split at hr
  · rename_i hro
    cases hr
    refine (h.ms.of ho (of_decide_eq_true hro)).mono ?_
    rintro e w' ⟨a,rfl,m1,ha,g⟩
    have x : MX H H ca (ca ++ [a]) w := ⟨fun _ _ e => e,fun _ _ e => Or.inl e,List.prefix_append _ _,fun b hb => by
      rcases List.mem_append.1 hb with h1 | h1
      · exact Or.inl h1
      · rw [List.mem_singleton.1 h1]; exact Or.inr ha⟩
    have g2 : Gb (fun k => k = C.tb ∨ InAs ca k) w w' := g.mono fun k e => Or.inl e
    exact ⟨a,rfl,by rw [← h.ms.cs.len]; simp,h.step m1 x g2,x,h.gbase g2⟩
  · cases hr
end
theorem part_t {C : TC} {P : Ex → List (List UInt8 × Et) → Sto → Option (Sto × Nat)} (F : ∀ e,FIC C P e) : PAC C (fun e nb σ => sizeT (P e nb σ)) := by
  intro e v m σ nb σ' c H ca d nv vs w hp hs h
  simp only [] at hs
  cases e1 : P e nb σ with
  | none => rw [e1] at hs; cases hs
  | some r =>
  obtain ⟨σ1,c1⟩ := r
  rw [e1] at hs
  simp only [sizeT] at hs
  split at hs
  · rename_i hb
    cases hs
    have CF := hid (F e v m σ nb σ' c H ca d nv vs w hp e1 h)
    obtain ⟨T0,b0,rfl⟩ := hp.val
    have HB := hid hb
    clear hp e1 h hb
    unfold CP at *
    go_enter Tryz.func75,Tryz.ntmps75
    go_wp2_with fail
    refine CF.out.mono ?_
    rintro e w1 ⟨H1,ca1,d1,x,nv1,vs1,rfl,ex,t1,mx1,g1⟩
    have CB := hid (ebig (v := CI x) ⟨1,er_cell ex⟩ HB.out t1.ms.cs)
    have Q := hid (And.intro ex (And.intro t1 (And.intro mx1 g1)))
    clear ex t1 mx1 g1 CF
    unfold CI CP at *
    go_wp2_with fail
    refine CB.out.mono ?_
    rintro e w2 ⟨rfl,c2,g2⟩
    obtain ⟨ex,t1,mx1,g1⟩ := Q.out
    have Q2 := hid (show TSP C H ca σ' c nb w (.returned (CP x)) w2 from ⟨H1,ca1,d1,x,nv1,vs1,rfl,ex,t1.cs c2 g2,mx1,g1.tr (g2.mono fun k e => t1.clo k e)⟩)
    clear ex t1 mx1 g1 Q CB c2 g2
    unfold CP at *
    go_wp2
    go_ret
    exact Q2.out
  · cases hs
theorem equal_t {C : TC} {H : Nat → Option Obj} {ca : List Nat} {σ σ' : Sto} {d : Nat → Nat} {nb : List (List UInt8 × Et)} {nv : Value} {vs : List NE} {w : World} {a b x y : Nat} (h : TSv C H ca σ d nb nv vs w) (ea : ca[a]? = some x) (eb : ca[b]? = some y) (hr : equalS a b σ = some (some σ')) :
    Calls Tryz.prog 183 #[CP C.tb,CP x,CP y] w fun e w' => (∃ z,e = .returned z) ∧ (∃ d',TSv C H ca σ' d' nb nv vs w') ∧ Gb C.own w w' := by
  have CE := hid (cequal_any ea eb hr h.ms.cs)
  have Q := hid h
  clear h ea eb hr
  unfold CP at *
  go_enter Tryz.func183,Tryz.ntmps183
  go_wp2_with fail
  refine CE.out.mono ?_
  rintro e w1 ⟨g1,rfl,d1,c1⟩
  have Q2 := hid (And.intro (show ∃ d',TSv C H ca σ' d' nb nv vs w1 from ⟨d1,Q.out.cs c1 g1⟩) (show Gb C.own w w1 from g1.mono fun k e => Q.out.clo k e))
  clear g1 c1 CE
  go_wp2
  go_end0
  exact ⟨⟨_,rfl⟩,Q2.out.1,Q2.out.2⟩
theorem info_named : (Tryz.prog.info? 338).map (fun i => (i.zero,i.size,i.bytes)) = some (some (.agg #[.string (B []),.nilIface]),2,32) := by kernel_rfl
theorem nm_one : ∀ (vs : List NE) (u : Value),u ∈ nmCells vs → u.oneCell' = true
  | [],u,h => by cases h
  | p :: l,u,h => by
    simp only [nmCells,List.mem_cons] at h
    rcases h with rfl | rfl | h
    · rfl
    · rfl
    · exact nm_one l u h
theorem nmCells_take : ∀ (vs : List NE) (n : Nat),nmCells (vs.take n) = (nmCells vs).take (n * 2)
  | [],n => by simp [nmCells]
  | p :: l,0 => rfl
  | p :: l,n + 1 => by
    rw [List.take_succ_cons,nmCells,nmCells_take l n,nmCells,show (n + 1) * 2 = n * 2 + 1 + 1 by omega,List.take_succ_cons,List.take_succ_cons]
section
variable {C : TC} {H H' : Nat → Option Obj} {ca ca' : List Nat} {σ σ' : Sto} {d d' : Nat → Nat} {nb : List (List UInt8 × Et)} {nv : Value} {vs : List NE} {w w' : World}
theorem TB.put4 {tb n : Nat} {nv' : Value} (h : TB w tb n (C.r nv)) : TB (w.setCell ⟨tb,4,none⟩ nv') tb n (C.r nv') := by
  unfold TB TC.r at h ⊢
  simp [World.setCell,Array.getElem?_modify,h]
theorem TB.c4 {tb n : Nat} (h : TB w tb n (C.r nv)) : w.cell? ⟨tb,4,none⟩ = some nv ∧ w.frozen? ⟨tb,4,none⟩ = false := by
  unfold TB TC.r at h
  simp [World.cell?,World.frozen?,h]
theorem TSv.names {nb' : List (List UInt8 × Et)} {nv' : Value} {vs' : List NE} {R : Nat → Prop} {w1 : World} (h : TSv C H ca σ d nb nv vs w) (g : Gb R w w1) (hR : ∀ k,R k → nv.ownBlock = some k) (own : w1.ownsRow C.base 338 2 nv' vs'.length (nmCells vs')) (len : vs'.length = nb'.length) (is : ∀ (i : Nat) (p : NE) q,vs'[i]? = some p → nb'[i]? = some q → p.1 = q.1 ∧ ER H ca p.v q.2)
    (at' : ∀ k,nv'.ownBlock = some k → nv.ownBlock = some k ∨ w.heap.size ≤ k) (few : nb'.length ≤ 1000) :
    TSv C H ca σ d nb' nv' vs' (w1.setCell ⟨C.tb,4,none⟩ nv') ∧ Gb C.own w (w1.setCell ⟨C.tb,4,none⟩ nv') := by
  have hRH : ∀ k,R k → H k = none ∧ k ∉ ca ∧ k ≠ C.tb := fun k hk => h.nr.off k (hR k hk)
  have c1 : CSd H ca σ d w1 := h.ms.cs.gb g (fun a ha e => (hRH a e).2.1 ha) (fun k o e hk => by rw [(hRH k hk).1] at e; cases e)
  have b1 : TB w1 C.tb σ.rep.length (C.r nv) := h.ms.bk.gb g (fun e => (hRH _ e).2.2 rfl)
  have gs : Gb (fun k => k = C.tb) w1 (w1.setCell ⟨C.tb,4,none⟩ nv') := (Gb.refl (fun k => k = C.tb) w1).set (b := C.tb) (Or.inl rfl) 4 nv'
  have off' : ∀ k,nv'.ownBlock = some k → H k = none ∧ k ∉ ca ∧ k ≠ C.tb := fun k hk => by
    rcases at' k hk with e | e
    · exact h.nr.off k e
    · exact ⟨h.ms.cs.fz.none e,fun hm => by have := InAs.lt h.ms.cs hm; omega,fun e2 => by have := h.ms.bk.lt; omega⟩
  have gb : Gb C.own w (w1.setCell ⟨C.tb,4,none⟩ nv') := (g.mono (fun k hk => ⟨(h.nr.own.lt k (hR k hk)).1,h.nko k (hR k hk)⟩)).tr (gs.mono fun k e => by rw [e]; exact h.tlo)
  refine ⟨⟨⟨csd_setNew c1 h.ms.hta h.ms.ht 4 nv',b1.put4,h.ms.ht,h.ms.hta⟩,⟨len,ownsRow_gb own gs (fun k hk => (off' k hk).2.2),is,off',few⟩,?_,h.mlo,h.tlo,h.clo,fun k hk => Nat.lt_of_lt_of_le (h.kp k hk) gb.size,fun k hk => ?_⟩,gb⟩
  · exact h.env.step (MX.refl _ _ _) gb (fun e => by have := h.mlo; have := e.1; omega)
  · rcases at' k hk with e | e
    · exact h.nko k e
    · intro h9; have := h.kp k h9; omega
end
theorem within_t {C : TC} {P : Ex → List (List UInt8 × Et) → Sto → Option (Sto × Nat)} (hP : PAC C P) {e : Ex} {v : Value} {m : Nat} {σ : Sto} {nb nbs : List (List UInt8 × Et)} {σ' : Sto} {c : Nat} {H : Nat → Option Obj} {ca : List Nat} {d : Nat → Nat} {nv : Value} {vs nws : List NE} {w : World} {gm capm : Nat}
    (hp : PRep m H v e) (hr : P e (nb ++ nbs) σ = some (σ',c)) (h : TSv C H ca σ d nb nv vs w) (hl : nws.length = nbs.length) (h0 : 0 < nws.length) (hk : nb.length + nbs.length ≤ 1000) (hc : ∀ j u,(nmCells nws)[j]? = some u → w.cell? ((⟨gm,0,none⟩ : Addr).add j) = some u) (hi : ∀ (i : Nat) (p : NE) q,nws[i]? = some p → nbs[i]? = some q → p.1 = q.1 ∧ ER H ca p.v q.2) :
    Calls Tryz.prog 157 #[CP C.tb,v,.slice (some ⟨gm,0,none⟩) nws.length capm] w (TSP C H ca σ' c nb w) := by
  obtain ⟨T0,b0,rfl⟩ := hp.val
  have hln : (Builtin.len_ #[169] 3 #[nv]).run Tryz.prog w = .ok (.int .i64 (vs.length : Int)) w := by
    obtain ⟨a0,cap0,rfl⟩ := h.nr.slice
    rfl
  obtain ⟨c4,f4⟩ := h.ms.bk.c4
  have hbs := h.bs
  have hlen := h.nr.len
  have hown := h.nr.own
  have Q := hid (And.intro h (And.intro hp (And.intro hr hi)))
  obtain ⟨i0,hi0,hz0,hz1,hz2⟩ := info_parts info_named
  have hP' := hid hP
  have hbd : vs.length + nws.length ≤ 1000 := by omega
  have HL := hid (And.intro hl (And.intro hlen hk))
  clear h hp hr hi hP hl hlen hk
  unfold CP
  go_enter Tryz.func157,Tryz.ntmps157
  go_wp2_with (at_builtin; refine wpList_append_lies _ rfl (.tmp 18) (.tmp 19) 169 rfl C.base 338 i0 (.agg #[.string (B []),.nilIface]) 2 32 Tryz.underlying169 hi0 hz0 hz1 hz2 rfl (by decide) _ _ _ rfl hown ⟨gm,0,none⟩ nws.length capm (nmCells nws) rfl (nmCells_len nws) hc (nm_one nws) h0 (by unfold maxLen; omega) (by omega) hbs w.heap.size rfl ?_)
  intro g7 cap7 w7 hown7 hgrow7 hat7 _
  rw [← nmCells_app] at hown7
  obtain ⟨hl,hlen,hk⟩ := HL.out
  have hll : vs.length + nws.length = (vs ++ nws).length := (List.length_append ..).symm
  have e7 := hown7
  rw [hll] at e7
  obtain ⟨c7,f7⟩ := (Q.out.1.ms.bk.gb (R := fun k => nv.ownBlock = some k) (Gb.of hgrow7 (fun b e => Or.inl e)) (fun e => (Q.out.1.nr.off _ e).2.2 rfl)).c4
  have N1 := hid (Q.out.1.names (nb' := nb ++ nbs) (vs' := vs ++ nws) (R := fun k => nv.ownBlock = some k) (Gb.of hgrow7 (fun b e => Or.inl e)) (fun k e => e) e7 (by simp [hl,hlen]) (fun i p q e1 e2 => by
      rcases Nat.lt_or_ge i vs.length with hi | hi
      · rw [List.getElem?_append_left hi] at e1
        rw [List.getElem?_append_left (by omega)] at e2
        exact Q.out.1.nr.is i p q e1 e2
      · rw [List.getElem?_append_right hi] at e1
        rw [List.getElem?_append_right (by omega),← hlen] at e2
        exact Q.out.2.2.2 _ p q e1 e2) (fun k hk => by
      rcases hat7 with e | e
      · have : g7 = k := by simpa [Value.ownBlock] using hk
        rw [← this]; exact Or.inl e
      · have : g7 = k := by simpa [Value.ownBlock] using hk
        exact Or.inr (by omega)) (by simp; omega))
  have CB := hid (hP'.out e _ m σ (nb ++ nbs) σ' c H ca d _ _ _ Q.out.2.1 Q.out.2.2.1 N1.out.1)
  rw [← hll] at N1 CB
  clear hown7 hgrow7 hat7 e7 hown hc hln c4 f4 hl hlen hk hll
  unfold CP at CB
  go_wp2_with fail
  refine CB.out.mono ?_
  rintro e w9 ⟨H1,ca1,d1,x,nv1,vs1,rfl,ex,t1,mx1,g1⟩
  have hlen1 := t1.nr.len
  obtain ⟨hl,hlen,hk⟩ := HL.out
  obtain ⟨o1,o2⟩ := t1.nr.own
  have hl3 : (nb ++ nbs).length = nb.length + nbs.length := List.length_append ..
  rcases o2 with ⟨_,o3⟩ | ⟨g,cap,cur,rfl,o3,o4,o5,o6,o7,o8⟩
  · omega
  have hcap : vs.length ≤ cap := by omega
  have hcap1 : cap ≤ 9223372036854775807 := by unfold maxLen at o6; omega
  obtain ⟨c9,f9⟩ := t1.ms.bk.c4
  have N2 := hid (t1.names (nb' := nb) (vs' := vs1.take vs.length) (nv' := .slice (some ⟨g,0,none⟩) vs.length cap) (R := fun _ => False) (Gb.refl _ _) (fun k e => e.elim) ⟨by rw [nmCells_len],.inr ⟨g,cap,cur,by rw [List.length_take,Nat.min_eq_left (by omega)],o3,o4,by rw [List.length_take,Nat.min_eq_left (by omega)]; exact hcap,o6,o7,by
      rw [List.length_take,Nat.min_eq_left (by omega),nmCells_take,← o8,List.take_take,Nat.min_eq_left (by omega)]⟩⟩ (by rw [List.length_take,Nat.min_eq_left (by omega),hlen]) (fun i p q e1 e2 => by
      have hi : i < vs.length := by rw [hlen]; exact (List.getElem?_eq_some_iff.1 e2).1
      rw [List.getElem?_take_of_lt hi] at e1
      exact t1.nr.is i p q e1 (by rw [List.getElem?_append_left (by omega)]; exact e2)) (fun k hk => Or.inl (by simpa [Value.ownBlock] using hk)) (by omega))
  have Q2 := hid (show TSP C H ca σ' c nb w (.returned (CP x)) (w9.setCell ⟨C.tb,4,none⟩ (.slice (some ⟨g,0,none⟩) vs.length cap)) from ⟨H1,ca1,d1,x,_,_,rfl,ex,N2.out.1,mx1.low N1.out.2.size,(N1.out.2.tr g1).tr N2.out.2⟩)
  have hvl : vs.length ≤ vs1.length := by omega
  clear ex t1 mx1 g1 N2 o1 o3 o4 o7 o8 N1 CB Q hlen1 hl hlen hk hl3
  unfold CP at *
  go_wp2
  go_ret
  exact Q2.out
section
variable {C : TC} {H H' : Nat → Option Obj} {ca ca' : List Nat} {σ σ' : Sto} {d d' : Nat → Nat} {nb : List (List UInt8 × Et)} {nv : Value} {vs : List NE} {w w' : World}
theorem or_arrow {c1 c2 x y p : Nat} (e1 : ca[c1]? = some x) (e2 : ca[c2]? = some y) (hp : H p = some (.cells #[CI x,CI y] 211 (0,0))) : ORep H ca (some ⟨kFun,[],0,[cT c1,cT c2]⟩) (.iface 209 (.pointer (some ⟨p,0,none⟩))) :=
  Or.inr ⟨_,rfl,(show kFun ≠ [] by decide),(show kFun ≠ oCell by decide),(fun k hk => by simp at hk; rcases hk with rfl | rfl <;> rfl),⟨p,Or.inr (Or.inr (Or.inr (Or.inr (Or.inr ⟨rfl,Nat.zero_le _,cT c1,cT c2,_,_,rfl,rfl,hp,er_cell e1,er_cell e2⟩))))⟩⟩
theorem or_pair {c1 c2 x y p : Nat} (e1 : ca[c1]? = some x) (e2 : ca[c2]? = some y) (hp : H p = some (.cells #[CI x,CI y] 319 (0,0))) : ORep H ca (some ⟨oPair,[],0,[cT c1,cT c2]⟩) (.iface 291 (.pointer (some ⟨p,0,none⟩))) :=
  Or.inr ⟨_,rfl,(show oPair ≠ [] by decide),(show oPair ≠ oCell by decide),(fun k hk => by simp at hk; rcases hk with rfl | rfl <;> rfl),⟨p,Or.inr (Or.inr (Or.inr (Or.inr (Or.inl ⟨rfl,Nat.zero_le _,cT c1,cT c2,_,_,rfl,rfl,hp,er_cell e1,er_cell e2⟩))))⟩⟩
theorem or_int {p : Nat} (hp : H p = some (.cells #[.string (B kInt)] 277 (0,0))) : ORep H ca (some ⟨kInt,[],0,[]⟩) (.iface 275 (.pointer (some ⟨p,0,none⟩))) :=
  Or.inr ⟨_,rfl,by decide,by decide,(fun k hk => by cases hk),⟨p,Or.inr (Or.inr (Or.inl ⟨Or.inl rfl,rfl,rfl,hp⟩))⟩⟩
theorem TSv.box (h : TSv C H ca σ d nb nv vs w) (cs : Array Value) (T : TypeId) : TSv C (onto1 H w.heap.size (.cells cs T (0,0))) ca σ d nb nv vs (w.alloc (.cells cs T)) ∧ MX H (onto1 H w.heap.size (.cells cs T (0,0))) ca ca w := by
  have hz : H w.heap.size = none := h.ms.cs.fz.none (Nat.le_refl _)
  have x : MX H (onto1 H w.heap.size (.cells cs T (0,0))) ca ca w := ⟨onto1_ext hz,onto1_new (fun k o e => Or.inl e) (Nat.le_refl _),List.prefix_refl _,fun _ h => Or.inl h⟩
  have g : w.grownBy (w.alloc (.cells cs T)) none := World.grownBy_alloc _ _ _
  exact ⟨h.step ((h.ms.grown g).more (heap_alloc_new _ _) hz (fun hm => by have := InAs.lt h.ms.cs hm; omega) (by have := h.ms.bk.lt; omega)) x (Gb.new g),x⟩
theorem TSv.made {nd : Et} {v : Value} {c : Nat} {cs : Array Value} {T : TypeId} (h : TSv C H ca σ d nb nv vs w) (ho : ORep (onto1 H w.heap.size (.cells cs T (0,0))) ca (some nd) v) (hr : ofT (some nd) σ = some (σ',c)) :
    Calls Tryz.prog 160 #[CP C.tb,v] (w.alloc (.cells cs T)) (TSP C H ca σ' c nb w) := by
  have g : w.grownBy (w.alloc (.cells cs T)) none := World.grownBy_alloc _ _ _
  obtain ⟨t1,x1⟩ := h.box cs T
  refine (t1.of ho hr).mono ?_
  rintro e w' ⟨a,rfl,e1,t2,x2,g2⟩
  exact ⟨_,_,d,a,nv,vs,rfl,e1,t2,x1.trans x2 g.size,(Gb.new g).tr g2⟩
end
theorem fun_t {C : TC} {P : Ex → List (List UInt8 × Et) → Sto → Option (Sto × Nat)} (hP : PAC C P) {e : Ex} {u dep : Value} {p : List UInt8} {b m : Nat} {σ : Sto} {nb : List (List UInt8 × Et)} {σ' : Sto} {c : Nat} {H : Nat → Option Obj} {ca : List Nat} {d : Nat → Nat} {nv : Value} {vs : List NE} {w : World}
    (hb : H b = some (.cells #[dep,.string (B p),u] 180 (0,0))) (hp : PRep m H u e) (hr : funT P p e nb σ = some (σ',c)) (h : TSv C H ca σ d nb nv vs w) :
    Calls Tryz.prog 154 #[CP C.tb,.pointer (some ⟨b,0,none⟩)] w (TSP C H ca σ' c nb w) := by
  unfold funT at hr
  cases e1 : ofT none σ with
  | none => rw [e1] at hr; cases hr
  | some r1 =>
  obtain ⟨σ1,c0⟩ := r1
  rw [e1] at hr
  simp only [] at hr
  split at hr
  case isFalse => cases hr
  rename_i hl
  cases e2 : P e (nb ++ [(p,cT c0)]) σ1 with
  | none => rw [e2] at hr; cases hr
  | some r2 =>
  obtain ⟨σ2,c2⟩ := r2
  rw [e2] at hr
  simp only [] at hr
  obtain ⟨T0,b0,rfl⟩ := hp.val
  have CO := hid (h.of (o := none) (Or.inl ⟨rfl,rfl⟩) e1)
  have Q := hid (And.intro hb (And.intro hp (And.intro hr (And.intro e2 (And.intro hl hP)))))
  have hfz := h.ms.cs.fz
  have hbw := hfz _ _ hb
  have hbl := lt_of_block hbw
  have hbt : b ≠ C.tb := fun e => by rw [e] at hb; rw [h.ms.ht] at hb; cases hb
  have hba : ¬ InAs ca b := fun hm => by rw [h.ms.cs.off b hm] at hb; cases hb
  clear hr hp hb e2 hl hP h hfz e1
  unfold CP at *
  go_enter Tryz.func154,Tryz.ntmps154
  go_wp2_with fail
  refine CO.out.mono ?_
  rintro e w1 ⟨x0,rfl,ex0,t1,mx1,g1⟩
  have hb1 : w1.heap[b]? = some (.cells #[dep,.string (B p),.iface T0 (.pointer (some ⟨b0,0,none⟩))] 180 (0,0)) := t1.ms.cs.fz _ _ Q.out.1
  have k1 := blk_c hb1 1 rfl
  have k2 := blk_c hb1 2 rfl
  have hl1 := lt_of_block hb1
  have gW : w1.grownBy (w1.alloc (.cells #[.string (B p),CI x0] 338)).drew none := grown_drew (World.grownBy_alloc _ _ _)
  have CW := hid (within_t (nbs := [(p,cT c0)]) (nws := [((p,173,x0) : List UInt8 × TypeId × Nat)]) (gm := w1.heap.size) (capm := 1) Q.out.2.2.2.2.2 Q.out.2.1 Q.out.2.2.2.1 (t1.grown gW) rfl (Nat.zero_lt_succ _) (show nb.length + 1 ≤ 1000 by have := Q.out.2.2.2.2.1; omega) (World.news_of_block (w := (w1.alloc (.cells #[.string (B p),CI x0] 338)).drew) (heap_alloc_new w1 _)) (fun i p' q e1 e2 => by
      cases i with
      | zero => cases e1; cases e2; exact ⟨rfl,1,er_cell ex0⟩
      | succ i => cases e1))
  have E0 := hid (And.intro ex0 (And.intro mx1 (And.intro g1 gW)))
  clear ex0 t1 mx1 g1 CO gW
  unfold CI CP at *
  go_wp2_with fail
  go_region_with (go_at_call 157; refine CW.out.mono ?_; rintro e w3 ⟨H3,ca3,d3,x2,nv3,vs3,rfl,ex2,t3,mx3,g3⟩; have Q3 := hid (And.intro ex2 (And.intro t3 (And.intro mx3 g3))); clear ex2 t3 mx3 g3; unfold CP at *)
  all_goals
    obtain ⟨ex2,t3,mx3,g3⟩ := Q3.out
    have CM := hid ((t3.made (cs := #[CI x0,CI x2]) (T := 211) (or_arrow (get_pre mx3.pre E0.out.1) ex2 onto1_at) Q.out.2.2.1).mono fun e w9 h9 => TSP.low (H := H) (ca := ca) (w := w) h9 ((E0.out.2.1.trans mx3 (Nat.le_trans E0.out.2.2.1.size E0.out.2.2.2.size))) ((E0.out.2.2.1.tr (Gb.new E0.out.2.2.2)).tr g3))
    clear ex2 t3 mx3 g3 Q3 CW E0
    unfold CI CP at *
    go_wp2_with fail
    refine CM.out.mono ?_
    rintro e w9 h9
    have H9 := hid h9
    obtain ⟨_,_,_,x9,_,_,rfl,_⟩ := h9
    clear CM
    unfold CP at *
    go_wp2
    go_ret
    exact H9.out
theorem apply_t {C : TC} {P : Ex → List (List UInt8 × Et) → Sto → Option (Sto × Nat)} (hP : PAC C P) {e1 e2 : Ex} {u1 u2 dep : Value} {b m : Nat} {σ : Sto} {nb : List (List UInt8 × Et)} {σ' : Sto} {c : Nat} {H : Nat → Option Obj} {ca : List Nat} {d : Nat → Nat} {nv : Value} {vs : List NE} {w : World}
    (hb : H b = some (.cells #[dep,u1,u2] 197 (0,0))) (hp1 : PRep m H u1 e1) (hp2 : PRep m H u2 e2) (hr : applyT P e1 e2 nb σ = some (σ',c)) (h : TSv C H ca σ d nb nv vs w) :
    Calls Tryz.prog 159 #[CP C.tb,.pointer (some ⟨b,0,none⟩)] w (TSP C H ca σ' c nb w) := by
  unfold applyT at hr
  cases i1 : P e1 nb σ with
  | none => rw [i1] at hr; cases hr
  | some r1 =>
  obtain ⟨σ1,c1⟩ := r1
  rw [i1] at hr
  simp only [] at hr
  cases i2 : P e2 nb σ1 with
  | none => rw [i2] at hr; cases hr
  | some r2 =>
  obtain ⟨σ2,c2⟩ := r2
  rw [i2] at hr
  simp only [] at hr
  cases i3 : ofT none σ2 with
  | none => rw [i3] at hr; cases hr
  | some r3 =>
  obtain ⟨σ3,c3⟩ := r3
  rw [i3] at hr
  simp only [] at hr
  cases i4 : ofT (some ⟨kFun,[],0,[cT c2,cT c3]⟩) σ3 with
  | none => rw [i4] at hr; cases hr
  | some r4 =>
  obtain ⟨σ4,c4⟩ := r4
  rw [i4] at hr
  simp only [] at hr
  cases i5 : equalS c1 c4 σ4 with
  | none => rw [i5] at hr; cases hr
  | some r5 =>
  cases r5 with
  | none => rw [i5] at hr; cases hr
  | some σ5 =>
  rw [i5] at hr
  cases hr
  obtain ⟨T1,b1,rfl⟩ := hp1.val
  obtain ⟨T2,b2,rfl⟩ := hp2.val
  have CA := hid (hP e1 _ m σ nb σ1 c1 H ca d nv vs w hp1 i1 h)
  have hbw := h.ms.cs.fz _ _ hb
  have k1 := blk_c hbw 1 rfl
  have Q := hid (And.intro hb (And.intro hp2 (And.intro i2 (And.intro i3 (And.intro i4 (And.intro i5 hP))))))
  clear hP hb hp1 hp2 i1 i2 i3 i4 i5 h hbw
  unfold CP at *
  go_enter Tryz.func159,Tryz.ntmps159
  go_wp2_with fail
  refine CA.out.mono ?_
  rintro e w1 ⟨H1,ca1,d1,x1,nv1,vs1,rfl,ex1,t1,mx1,g1⟩
  have hb1 := mx1.ext _ _ Q.out.1
  have hbw1 := t1.ms.cs.fz _ _ hb1
  have k2 := blk_c hbw1 2 rfl
  have CB := hid (Q.out.2.2.2.2.2.2 e2 _ m σ1 nb σ2 c2 H1 ca1 d1 nv1 vs1 w1 (mx1.prep Q.out.2.1) Q.out.2.2.1 t1)
  have Q1 := hid (And.intro ex1 (And.intro mx1 g1))
  clear ex1 t1 mx1 g1 CA hb1 hbw1
  unfold CP at *
  go_wp2_with fail
  refine CB.out.mono ?_
  rintro e w2 ⟨H2,ca2,d2,x2,nv2,vs2,rfl,ex2,t2,mx2,g2⟩
  have CO := hid (t2.of (o := none) (Or.inl ⟨rfl,rfl⟩) Q.out.2.2.2.1)
  have Q2 := hid (And.intro (get_pre mx2.pre Q1.out.1) (And.intro ex2 (And.intro (Q1.out.2.1.trans mx2 Q1.out.2.2.size) (Q1.out.2.2.tr g2))))
  clear ex2 t2 mx2 g2 CB Q1
  unfold CP at *
  go_wp2_with fail
  refine CO.out.mono ?_
  rintro e w3 ⟨x3,rfl,ex3,t3,mx3,g3⟩
  have CM := hid (t3.made (cs := #[CI x2,CI x3]) (T := 211) (or_arrow (get_pre mx3.pre Q2.out.2.1) ex3 onto1_at) Q.out.2.2.2.2.1)
  have Q3 := hid (And.intro (get_pre mx3.pre Q2.out.1) (And.intro ex3 (And.intro (Q2.out.2.2.1.trans mx3 Q2.out.2.2.2.size) (Q2.out.2.2.2.tr g3))))
  clear ex3 t3 mx3 g3 CO Q2
  unfold CI CP at *
  go_wp2_with fail
  refine CM.out.mono ?_
  rintro e w4 ⟨H4,ca4,d4,x4,nv4,vs4,rfl,ex4,t4,mx4,g4⟩
  have CE := hid (equal_t t4 (get_pre mx4.pre Q3.out.1) ex4 Q.out.2.2.2.2.2.1)
  have Q4 := hid (And.intro (get_pre mx4.pre Q3.out.2.1) (And.intro (Q3.out.2.2.1.trans mx4 Q3.out.2.2.2.size) (Q3.out.2.2.2.tr g4)))
  clear ex4 t4 mx4 g4 CM Q3
  unfold CP at *
  go_wp2_with fail
  refine CE.out.mono ?_
  rintro e w5 ⟨⟨z,rfl⟩,⟨d5,t5⟩,g5⟩
  have Q5 := hid (show TSP C H ca σ' c nb w (.returned (CP x3)) w5 from ⟨H4,ca4,d5,x3,nv4,vs4,rfl,Q4.out.1,t5,Q4.out.2.1,Q4.out.2.2.tr g5⟩)
  clear t5 g5 CE Q4
  unfold CP at *
  go_wp2
  go_ret
  exact Q5.out
theorem xA_Name_Name (b : Nat) (w : World) : (Instr.typeAssert (.iface 157 (.pointer (some ⟨b,0,none⟩))) 101 157 true).run Tryz.prog w = .ok (.tuple #[.pointer (some ⟨b,0,none⟩),.bool true]) w := by kernel_rfl
theorem xA_Fun_Name (b : Nat) (w : World) : (Instr.typeAssert (.iface 178 (.pointer (some ⟨b,0,none⟩))) 101 157 true).run Tryz.prog w = .ok (.tuple #[.pointer none,.bool false]) w := by kernel_rfl
theorem xA_Fun_Fun (b : Nat) (w : World) : (Instr.typeAssert (.iface 178 (.pointer (some ⟨b,0,none⟩))) 101 178 true).run Tryz.prog w = .ok (.tuple #[.pointer (some ⟨b,0,none⟩),.bool true]) w := by kernel_rfl
theorem xA_If_Name (b : Nat) (w : World) : (Instr.typeAssert (.iface 181 (.pointer (some ⟨b,0,none⟩))) 101 157 true).run Tryz.prog w = .ok (.tuple #[.pointer none,.bool false]) w := by kernel_rfl
theorem xA_If_Fun (b : Nat) (w : World) : (Instr.typeAssert (.iface 181 (.pointer (some ⟨b,0,none⟩))) 101 178 true).run Tryz.prog w = .ok (.tuple #[.pointer none,.bool false]) w := by kernel_rfl
theorem xA_If_If (b : Nat) (w : World) : (Instr.typeAssert (.iface 181 (.pointer (some ⟨b,0,none⟩))) 101 181 true).run Tryz.prog w = .ok (.tuple #[.pointer (some ⟨b,0,none⟩),.bool true]) w := by kernel_rfl
theorem xA_Let_Name (b : Nat) (w : World) : (Instr.typeAssert (.iface 184 (.pointer (some ⟨b,0,none⟩))) 101 157 true).run Tryz.prog w = .ok (.tuple #[.pointer none,.bool false]) w := by kernel_rfl
theorem xA_Let_Fun (b : Nat) (w : World) : (Instr.typeAssert (.iface 184 (.pointer (some ⟨b,0,none⟩))) 101 178 true).run Tryz.prog w = .ok (.tuple #[.pointer none,.bool false]) w := by kernel_rfl
theorem xA_Let_If (b : Nat) (w : World) : (Instr.typeAssert (.iface 184 (.pointer (some ⟨b,0,none⟩))) 101 181 true).run Tryz.prog w = .ok (.tuple #[.pointer none,.bool false]) w := by kernel_rfl
theorem xA_Let_Let (b : Nat) (w : World) : (Instr.typeAssert (.iface 184 (.pointer (some ⟨b,0,none⟩))) 101 184 true).run Tryz.prog w = .ok (.tuple #[.pointer (some ⟨b,0,none⟩),.bool true]) w := by kernel_rfl
theorem xA_LetRec_Name (b : Nat) (w : World) : (Instr.typeAssert (.iface 190 (.pointer (some ⟨b,0,none⟩))) 101 157 true).run Tryz.prog w = .ok (.tuple #[.pointer none,.bool false]) w := by kernel_rfl
theorem xA_LetRec_Fun (b : Nat) (w : World) : (Instr.typeAssert (.iface 190 (.pointer (some ⟨b,0,none⟩))) 101 178 true).run Tryz.prog w = .ok (.tuple #[.pointer none,.bool false]) w := by kernel_rfl
theorem xA_LetRec_If (b : Nat) (w : World) : (Instr.typeAssert (.iface 190 (.pointer (some ⟨b,0,none⟩))) 101 181 true).run Tryz.prog w = .ok (.tuple #[.pointer none,.bool false]) w := by kernel_rfl
theorem xA_LetRec_Let (b : Nat) (w : World) : (Instr.typeAssert (.iface 190 (.pointer (some ⟨b,0,none⟩))) 101 184 true).run Tryz.prog w = .ok (.tuple #[.pointer none,.bool false]) w := by kernel_rfl
theorem xA_LetRec_LetRec (b : Nat) (w : World) : (Instr.typeAssert (.iface 190 (.pointer (some ⟨b,0,none⟩))) 101 190 true).run Tryz.prog w = .ok (.tuple #[.pointer (some ⟨b,0,none⟩),.bool true]) w := by kernel_rfl
theorem xA_Apply_Name (b : Nat) (w : World) : (Instr.typeAssert (.iface 195 (.pointer (some ⟨b,0,none⟩))) 101 157 true).run Tryz.prog w = .ok (.tuple #[.pointer none,.bool false]) w := by kernel_rfl
theorem xA_Apply_Fun (b : Nat) (w : World) : (Instr.typeAssert (.iface 195 (.pointer (some ⟨b,0,none⟩))) 101 178 true).run Tryz.prog w = .ok (.tuple #[.pointer none,.bool false]) w := by kernel_rfl
theorem xA_Apply_If (b : Nat) (w : World) : (Instr.typeAssert (.iface 195 (.pointer (some ⟨b,0,none⟩))) 101 181 true).run Tryz.prog w = .ok (.tuple #[.pointer none,.bool false]) w := by kernel_rfl
theorem xA_Apply_Let (b : Nat) (w : World) : (Instr.typeAssert (.iface 195 (.pointer (some ⟨b,0,none⟩))) 101 184 true).run Tryz.prog w = .ok (.tuple #[.pointer none,.bool false]) w := by kernel_rfl
theorem xA_Apply_LetRec (b : Nat) (w : World) : (Instr.typeAssert (.iface 195 (.pointer (some ⟨b,0,none⟩))) 101 190 true).run Tryz.prog w = .ok (.tuple #[.pointer none,.bool false]) w := by kernel_rfl
theorem xA_Apply_Apply (b : Nat) (w : World) : (Instr.typeAssert (.iface 195 (.pointer (some ⟨b,0,none⟩))) 101 195 true).run Tryz.prog w = .ok (.tuple #[.pointer (some ⟨b,0,none⟩),.bool true]) w := by kernel_rfl
theorem xA_Pair_Name (b : Nat) (w : World) : (Instr.typeAssert (.iface 198 (.pointer (some ⟨b,0,none⟩))) 101 157 true).run Tryz.prog w = .ok (.tuple #[.pointer none,.bool false]) w := by kernel_rfl
theorem xA_Pair_Fun (b : Nat) (w : World) : (Instr.typeAssert (.iface 198 (.pointer (some ⟨b,0,none⟩))) 101 178 true).run Tryz.prog w = .ok (.tuple #[.pointer none,.bool false]) w := by kernel_rfl
theorem xA_Pair_If (b : Nat) (w : World) : (Instr.typeAssert (.iface 198 (.pointer (some ⟨b,0,none⟩))) 101 181 true).run Tryz.prog w = .ok (.tuple #[.pointer none,.bool false]) w := by kernel_rfl
theorem xA_Pair_Let (b : Nat) (w : World) : (Instr.typeAssert (.iface 198 (.pointer (some ⟨b,0,none⟩))) 101 184 true).run Tryz.prog w = .ok (.tuple #[.pointer none,.bool false]) w := by kernel_rfl
theorem xA_Pair_LetRec (b : Nat) (w : World) : (Instr.typeAssert (.iface 198 (.pointer (some ⟨b,0,none⟩))) 101 190 true).run Tryz.prog w = .ok (.tuple #[.pointer none,.bool false]) w := by kernel_rfl
theorem xA_Pair_Apply (b : Nat) (w : World) : (Instr.typeAssert (.iface 198 (.pointer (some ⟨b,0,none⟩))) 101 195 true).run Tryz.prog w = .ok (.tuple #[.pointer none,.bool false]) w := by kernel_rfl
theorem xA_Pair_Pair (b : Nat) (w : World) : (Instr.typeAssert (.iface 198 (.pointer (some ⟨b,0,none⟩))) 101 198 true).run Tryz.prog w = .ok (.tuple #[.pointer (some ⟨b,0,none⟩),.bool true]) w := by kernel_rfl
end Go.Proofs.YtcdijppegfcoaabGreatDoor
