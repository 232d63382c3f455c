import Derived.Test.YtcdijppegfcoaabGreatDoorZK35
import Derived.Defers
import Derived.Recover
set_option maxRecDepth 100000
set_option maxHeartbeats 4000000
namespace Go.Proofs.YtcdijppegfcoaabGreatDoor
open Go.RowKit
theorem andE_some {r : Option (Sum Nat (Sto × Nat))} {k : Sto → Nat → Option (Sum Nat (Sto × Nat))} {z : Sum Nat (Sto × Nat)} (h : andE r k = some z) : (∃ q,r = some (.inl q) ∧ z = .inl q) ∨ ∃ σ c,r = some (.inr (σ,c)) ∧ k σ c = some z := by
  match r,h with
  | none,h => cases h
  | some (.inl q),h => exact Or.inl ⟨q,rfl,(Option.some.inj h).symm⟩
  | some (.inr (σ,c)),h => exact Or.inr ⟨σ,c,rfl,h⟩
theorem liftE_some {r : Option (Sto × Nat)} {z : Sum Nat (Sto × Nat)} (h : liftE r = some z) : ∃ σ c,r = some (σ,c) ∧ z = .inr (σ,c) := by
  match r,h with
  | none,h => cases h
  | some (σ,c),h => exact ⟨σ,c,rfl,(Option.some.inj h).symm⟩
theorem eqE_some {a b : Nat} {σ : Sto} {k : Sto → Option (Sum Nat (Sto × Nat))} {z : Sum Nat (Sto × Nat)} (h : eqE a b σ k = some z) : (equalS a b σ = some none ∧ z = .inl 3) ∨ ∃ σ',equalS a b σ = some (some σ') ∧ k σ' = some z := by
  unfold eqE at h
  cases e : equalS a b σ with
  | none => rw [e] at h; cases h
  | some o =>
    rw [e] at h
    cases o with
    | none => exact Or.inl ⟨rfl,(Option.some.inj h).symm⟩
    | some σ' => exact Or.inr ⟨σ',rfl,h⟩
theorem withE_some {P : Ex → List (List UInt8 × Et) → Sto → Option (Sum Nat (Sto × Nat))} {b : Ex} {nb nbs : List (List UInt8 × Et)} {σ : Sto} {z : Sum Nat (Sto × Nat)} (h : withE P b nb nbs σ = some z) : nb.length + nbs.length ≤ 1000 ∧ P b (nb ++ nbs) σ = some z := by
  unfold withE at h
  split at h
  · rename_i h1; exact ⟨h1,h⟩
  · cases h
theorem kids3' {m : Nat} {H : Nat → Option Obj} {e : Ex} {u v x : Value} (hl : e.kids.length = 3) (hk : ∀ (i : Nat) (y : Ex) (z : Value),[u,v,x][i]? = some z → e.kids[i]? = some y → PRep m H z y) : ∃ y z t,e.kids = [y,z,t] ∧ PRep m H u y ∧ PRep m H v z ∧ PRep m H x t := by
  match he : e.kids,hl with
  | [y,z,t],_ => exact ⟨y,z,t,rfl,hk 0 y u rfl (by rw [he]; rfl),hk 1 z v rfl (by rw [he]; rfl),hk 2 t x rfl (by rw [he]; rfl)⟩
theorem fie_any {C : TC} {ad : Nat → Addr} {most : Nat} {P : Ex → List (List UInt8 × Et) → Sto → Option (Sum Nat (Sto × Nat))} (hP : ∀ K,PAE { C with keep := K } ad P) (hm : C.most = .int .i64 (most : Int)) (hm9 : most ≤ 1000) (hE : C.each = .nilFunc) (e : Ex) : FIE C ad (fun e nb σ => findE P C.ge most e nb σ) e := by
  intro v m σ nb r H ca d nv vs w hp hr h hgl
  simp only [] at hr
  have hP0 : PAE C ad P := hP C.keep
  cases m with
  | zero => exact absurd hp id
  | succ m =>
  obtain ⟨b,us,rfl,hn,hl,hk⟩ := hp
  unfold findE at hr
  rcases hn with ⟨h0,t,h1,h2,h3,h4⟩ | ⟨h0,t,h1,h2,h3,h4⟩ | ⟨h0,t,u,h1,h2,rfl,h4⟩ | ⟨h0,u,v,y,h1,rfl,h4⟩ | ⟨h0,t,u,v,h1,h2,rfl,h4⟩ | ⟨h0,us',u,gv,h1,h2,h3,rfl,h5,h6⟩ | ⟨h0,u,v,h1,rfl,h4⟩ | ⟨h0,u,v,h1,rfl,h4⟩
  · -- a name
    rw [if_pos h0,h1] at hr
    rw [h0]
    obtain ⟨σ',c,q1,rfl⟩ := liftE_some hr
    exact find_name h4 q1 h
  · -- a number
    rw [h0,if_neg (by decide),if_neg (by decide),if_neg (by decide),if_neg (by decide),if_neg (by decide),if_neg (by decide),if_neg (by decide),if_pos rfl] at hr
    rw [h0]
    obtain ⟨σ',c,q1,rfl⟩ := liftE_some hr
    exact find_int q1 h
  · -- fun
    obtain ⟨y,hy,hp⟩ := kids1 h2 hk
    rw [h0,if_neg (by decide),if_pos rfl,h1,hy] at hr
    rw [h0]
    simp only [] at hr
    unfold funE at hr
    refine findk_Fun ?_
    rcases andE_some hr with ⟨q,q1,rfl⟩ | ⟨σ1,c0,q1,hr⟩
    · obtain ⟨_,_,_,q3⟩ := liftE_some q1; cases q3
    obtain ⟨_,_,q2,q3⟩ := liftE_some q1
    cases q3
    rcases andE_some hr with ⟨q,q4,rfl⟩ | ⟨σ2,c2,q4,hr⟩
    · obtain ⟨q5,q6⟩ := withE_some q4
      exact fun_e1 hP0 h4 hp q2 q5 q6 h hgl
    · obtain ⟨q5,q6⟩ := withE_some q4
      obtain ⟨σ3,c3,q7,rfl⟩ := liftE_some hr
      exact fun_e0 hP0 h4 hp q2 q5 q6 q7 h hgl
  · -- if
    obtain ⟨y1,y2,y3,hy,hp1,hp2,hp3⟩ := kids3' h1 hk
    rw [h0,if_neg (by decide),if_neg (by decide),if_pos rfl,hy] at hr
    rw [h0]
    simp only [] at hr
    unfold ifE at hr
    refine findk_If ?_
    rcases andE_some hr with ⟨q,q1,rfl⟩ | ⟨σ1,c1,q1,hr⟩
    · exact choice_e1 hP0 h4 hp1 hp2 hp3 q1 h hgl
    rcases andE_some hr with ⟨q,q2,rfl⟩ | ⟨σ2,c2,q2,hr⟩
    · obtain ⟨_,_,_,q3⟩ := liftE_some q2; cases q3
    obtain ⟨_,_,q3,q4⟩ := liftE_some q2
    cases q4
    rcases eqE_some hr with ⟨q5,rfl⟩ | ⟨σ3,q5,hr⟩
    · exact choice_e2 hP0 h4 hp1 hp2 hp3 q1 q3 q5 h hgl
    rcases andE_some hr with ⟨q,q6,rfl⟩ | ⟨σ4,c4,q6,hr⟩
    · exact choice_e3 hP0 h4 hp1 hp2 hp3 q1 q3 q5 q6 h hgl
    rcases andE_some hr with ⟨q,q7,rfl⟩ | ⟨σ5,c5,q7,hr⟩
    · exact choice_e4 hP0 h4 hp1 hp2 hp3 q1 q3 q5 q6 q7 h hgl
    rcases eqE_some hr with ⟨q8,rfl⟩ | ⟨σ6,q8,hr⟩
    · exact choice_e5 hP0 h4 hp1 hp2 hp3 q1 q3 q5 q6 q7 q8 h hgl
    · cases hr
      exact choice_e0 hP0 h4 hp1 hp2 hp3 q1 q3 q5 q6 q7 q8 h hgl
  · -- let
    obtain ⟨y1,y2,hy,hp1,hp2⟩ := kids2' h2 hk
    rw [h0,if_neg (by decide),if_neg (by decide),if_neg (by decide),if_pos rfl,h1,hy] at hr
    rw [h0]
    simp only [] at hr
    unfold letE at hr
    refine findk_Let ?_
    rcases andE_some hr with ⟨q,q1,rfl⟩ | ⟨σ1,c1,q1,hr⟩
    · exact let_e1 hP0 h4 hp1 q1 h hgl
    cases q2 : reachS σ1 nb with
    | none => rw [q2] at hr; cases hr
    | some L =>
    rw [q2] at hr
    simp only [] at hr
    cases q3 : generalU σ1 L 400 c1 with
    | none => rw [q3] at hr; cases hr
    | some t9 =>
    rw [q3] at hr
    obtain ⟨q5,q6⟩ := withE_some hr
    cases r with
    | inl q => exact let_e2 hP0 h4 hp1 hp2 q1 q2 q3 q5 q6 h hgl
    | inr y => exact let_e0 hP0 h4 hp1 hp2 q1 q2 q3 q5 q6 h hgl
  · -- let rec
    rw [h0,if_neg (by decide),if_neg (by decide),if_neg (by decide),if_neg (by decide),if_pos rfl] at hr
    rw [h0]
    obtain ⟨gB,capB,cur,rfl,hB1,hB2⟩ := h5
    have hlk : e.kids.length = e.names.length + 1 := h3
    have hdl : e.kids.dropLast.length = e.names.length := by rw [List.length_dropLast,hlk]; rfl
    obtain ⟨bd,hbd⟩ : ∃ x,e.kids[e.names.length]? = some x := ⟨_,List.getElem?_eq_getElem (by omega)⟩
    have hgl9 : e.kids.getLast? = some bd := by rw [List.getLast?_eq_getElem?,hlk]; exact hbd
    rw [hgl9] at hr
    simp only [] at hr
    split at hr
    case isFalse => cases hr
    rename_i hn9
    have hpB : PRep m H u bd := hk e.names.length bd u (by rw [List.getElem?_append_right (by omega),h2,Nat.sub_self]; rfl) hbd
    have gr : GRd H gB e.names us' e.kids.dropLast m := ⟨⟨cur,hB1,hB2⟩,h2,hdl,fun i x y e1 e2 => by
      have hi : i < e.names.length := by rw [← h2]; exact (List.getElem?_eq_some_iff.1 e1).1
      refine hk i y x (by rw [List.getElem?_append_left (by rw [h2]; exact hi)]; exact e1) ?_
      rw [List.getElem?_dropLast] at e2
      split at e2
      · exact e2
      · cases e2⟩
    unfold recE at hr
    cases q1 : groupE P e.names e.kids.dropLast nb most (e.names.map fun n => (n,vT [97])) σ with
    | none => rw [q1] at hr; cases hr
    | some rg =>
    rw [q1] at hr
    cases rg with
    | inl q =>
      cases hr
      exact findrec_e1 hP h6 gr hpB h1 hn9 hm hm9 hE q1 h hgl
    | inr y =>
      obtain ⟨q5,q6⟩ := withE_some hr
      cases r with
      | inl q => exact findrec_e2 hP h6 gr hpB h1 hn9 hm hm9 hE q1 q5 q6 h hgl
      | inr z => exact findrec_e0 hP h6 gr hpB h1 hn9 hm hm9 hE q1 q5 q6 h hgl
  · -- an application
    obtain ⟨y1,y2,hy,hp1,hp2⟩ := kids2' h1 hk
    rw [h0,if_neg (by decide),if_neg (by decide),if_neg (by decide),if_neg (by decide),if_neg (by decide),if_pos rfl,hy] at hr
    rw [h0]
    simp only [] at hr
    unfold applyE at hr
    refine findk_Apply ?_
    rcases andE_some hr with ⟨q,q1,rfl⟩ | ⟨σ1,c1,q1,hr⟩
    · exact apply_e1 hP0 h4 hp1 hp2 q1 h hgl
    rcases andE_some hr with ⟨q,q2,rfl⟩ | ⟨σ2,c2,q2,hr⟩
    · exact apply_e2 hP0 h4 hp1 hp2 q1 q2 h hgl
    rcases andE_some hr with ⟨q,q3,rfl⟩ | ⟨σ3,c3,q3,hr⟩
    · obtain ⟨_,_,_,q4⟩ := liftE_some q3; cases q4
    obtain ⟨_,_,q4,q5⟩ := liftE_some q3
    cases q5
    rcases andE_some hr with ⟨q,q5,rfl⟩ | ⟨σ4,c4,q5,hr⟩
    · obtain ⟨_,_,_,q6⟩ := liftE_some q5; cases q6
    obtain ⟨_,_,q6,q7⟩ := liftE_some q5
    cases q7
    rcases eqE_some hr with ⟨q8,rfl⟩ | ⟨σ5,q8,hr⟩
    · exact apply_e3 hP0 h4 hp1 hp2 q1 q2 q4 q6 q8 h hgl
    · cases hr
      exact apply_e0 hP0 h4 hp1 hp2 q1 q2 q4 q6 q8 h hgl
  · -- a pair
    obtain ⟨y1,y2,hy,hp1,hp2⟩ := kids2' h1 hk
    rw [h0,if_neg (by decide),if_neg (by decide),if_neg (by decide),if_neg (by decide),if_neg (by decide),if_neg (by decide),if_pos rfl,hy] at hr
    rw [h0]
    simp only [] at hr
    unfold pairE at hr
    rcases andE_some hr with ⟨q,q1,rfl⟩ | ⟨σ1,c1,q1,hr⟩
    · exact findpair_e1 hP0 h4 hp1 hp2 q1 h hgl
    rcases andE_some hr with ⟨q,q2,rfl⟩ | ⟨σ2,c2,q2,hr⟩
    · exact findpair_e2 hP0 h4 hp1 hp2 q1 q2 h hgl
    obtain ⟨σ3,c3,q3,rfl⟩ := liftE_some hr
    exact findpair_e0 hP0 h4 hp1 hp2 q1 q2 q3 h hgl
theorem part_all {ad : Nat → Addr} {most : Nat} (hm9 : most ≤ 1000) : ∀ (f : Nat) (C : TC),C.most = .int .i64 (most : Int) → C.each = .nilFunc → PAE C ad (partE C.ge most f)
  | 0,_,_,_ => fun _ _ _ _ _ _ _ _ _ _ _ _ _ hr _ _ => by cases hr
  | f + 1,C,hm,hE => part_e (fun e => fie_any (fun K => part_all hm9 f { C with keep := K } hm hE) hm hm9 hE e)
theorem GLb.up {b : Nat} {ad : Nat → Addr} {w w' : World} (h : GLb b ad w) (g : w.grownBy w' none) : GLb w'.heap.size ad w' := by
  have l := h.lo
  have l2 := h.le
  have l3 := h.lo2
  have gb : Gb (fun _ => False) w w' := Gb.new g
  have hs := g.size
  have hl : ∀ k,k < 8 + 1 → k < w.heap.size := fun k hk => by omega
  exact ⟨gb.cell h.g3 (hl _ (by decide)) id,gb.cell h.g4 (hl _ (by decide)) id,gb.cell h.g5 (hl _ (by decide)) id,gb.cell h.g6 (hl _ (by decide)) id,by omega,Nat.le_refl _,tab_same h.tab (gb.block _ (Nat.lt_of_lt_of_le l3 l2) id),by omega⟩
theorem assert_fault (v : Value) (w : World) : (Instr.typeAssert (.iface 165 v) 20 165 true).run Tryz.prog w = .ok (.tuple #[v,.bool true]) w := by kernel_rfl
theorem catch_fault (q : Nat) (a : Addr) (v1 : Value) (w : World) (h1 : w.cell? ⟨q,0,none⟩ = some v1) (f1 : w.frozen? ⟨q,0,none⟩ = false) (hql : q < w.heap.size) :
    CallsD Tryz.prog 73 #[.pointer (some ⟨q,0,none⟩)] (.panicking [{ v := .iface 165 (.agg #[errV a]),recovered := false }]) w fun e u' w' =>
      e = .returned (.tuple #[]) ∧ u' = .panicking [{ v := .iface 165 (.agg #[errV a]),recovered := true }] ∧ w' = (w.setCell ⟨q,0,none⟩ (errV a)).alloc (.cells #[errV a] 165) := by
  have a1 := fun x => cell_past h1 x
  have g1 := fun x => frozen_past h1 f1 x
  have hq1 : q ≠ w.heap.size := by omega
  have hq2 : w.heap.size ≠ q := by omega
  refine callsD_of_wpS Tryz.func73 rfl fun c₀ cs hu => ?_
  have e0 : (#[Value.pointer (some ⟨q,0,none⟩)] ++ Array.replicate (Tryz.f73.ntmps - (#[Value.pointer (some ⟨q,0,none⟩)] : Array Value).size) undef) = #[Value.pointer (some ⟨q,0,none⟩),undef,undef,undef,undef,undef,undef,undef,undef,undef,undef,undef] := rfl
  rw [e0]
  clear e0
  apply wpS_seq
  apply wpS_region
  simp [wpOpsS,go_sem,recoverD,hu,Exit.thenS]
  refine wpS_of_wp ?_
  have hta := assert_fault
  unfold errV
  go_wp2
  refine ⟨rfl,_,rfl,.tuple #[],?_,rfl,rfl,rfl⟩
  simp [results,Tryz.results73]
theorem of_e0 {ad : Nat → Addr} {most : Nat} {H : Nat → Option Obj} {e : Ex} {v : Value} {m mb f : Nat} {ge : List (List UInt8 × Et)} {σ : Sto} {c : Nat} {t : Et} {w : World} (hp : PRep m H v e) (hz : Fz H w) (hge : GE H [] w mb ge) (hm9 : most ≤ 1000) (hgl : GLb w.heap.size ad w) (hr : partE ge most f e [] ⟨[],[]⟩ = some (.inr (σ,c))) (hg : generalU σ [] f c = some t) (hn : ncB f t = true) :
    Calls Tryz.prog 47 #[v,.map (some mb),.agg #[.int .i64 (most : Int),.nilFunc]] w fun e w' => w.grownBy w' none ∧ ∃ u H',e = .returned (.tuple #[.agg #[u],.nilIface]) ∧ ER H' [] u t ∧ Fz H' w' := by
  have hmf : ∀ (fn : Fn) (first cap : Array Value) (w : World),(Instr.makeFunc fn first cap).run Tryz.prog w = .ok (.func fn first cap) w := fun _ _ _ _ => rfl
  obtain ⟨T0,b0,rfl⟩ := hp.val
  have Q := hid (And.intro hp (And.intro hz (And.intro hge (And.intro hr (And.intro hg (And.intro hn (And.intro hm9 hgl)))))))
  clear hp hz hge hr hg hn hm9 hgl
  go_enter_defers Tryz.func47,Tryz.ntmps47
  go_wp2_with fail
  generalize hW : (((w.alloc (.cells #[.int .i64 (most : Int),.nilFunc] 113)).alloc (.cells #[.nilIface] 109)).alloc (.cells #[.nilIface] 56)) = W3
  have s3 : W3.heap.size = w.heap.size + 1 + 1 + 1 := by rw [← hW]; simp
  have g3 : w.grownBy W3 none := by rw [← hW]; exact (World.grownBy_alloc _ _ _).trans ((World.grownBy_alloc _ _ _).trans (World.grownBy_alloc _ _ _))
  have n1 : W3.heap[w.heap.size + 1]? = some (.cells #[.nilIface] 109 (0,0)) := by
    rw [← hW,Below.heap_alloc _ _ _ (by simp)]
    exact heap_alloc_at _ _ _ (by simp)
  have n2 : W3.heap[w.heap.size + 1 + 1]? = some (.cells #[.nilIface] 56 (0,0)) := by
    rw [← hW]
    exact heap_alloc_at _ _ _ (by simp)
  clear hW
  rw [← s3]
  have z3 : Fz H W3 := Q.out.2.1.grown g3
  have t0 := TSv.start (fuel := (most : Int)) (each := .nilFunc) z3 (Q.out.2.2.1.step (R := fun _ => False) (MX.refl _ _ w) (Gb.new g3) id)
  have gl3 : GLb W3.heap.size ad (W3.alloc (.cells #[.int .i64 0,.int .i64 (most : Int),.nilFunc,.map (some mb),.slice none 0 0] 171)) := GLb.gb (C := ⟨W3.heap.size,.int .i64 (most : Int),.nilFunc,mb,W3.heap.size,ge,[]⟩) (Q.out.2.2.2.2.2.2.2.up g3) (Gb.new (World.grownBy_alloc _ _ _))
  have HP := hid (part_all Q.out.2.2.2.2.2.2.1 f ⟨W3.heap.size,.int .i64 (most : Int),.nilFunc,mb,W3.heap.size,ge,[]⟩ rfl rfl e _ m ⟨[],[]⟩ [] (.inr (σ,c)) H [] (fun _ => 0) _ _ _ Q.out.1 Q.out.2.2.2.1 t0 gl3)
  have G3 := hid gl3
  clear t0 gl3
  unfold CP at HP
  refine HP.out.mono ?_
  rintro e w4 ⟨H4,ca4,d4,x4,nv4,vs4,rfl,ex4,t4,mx4,g4⟩
  have gA : w.grownBy w4 none := ⟨g4.os.trans g3.os,g4.tape.trans g3.tape,g4.output.trans g3.output,by have := g4.size; simp at this; omega,fun k hk _ => by
    rw [g4.block k (by simp; omega) (fun e => by have := e.1; simp at this; omega),Below.heap_alloc _ _ _ (by omega),g3.block k hk (by simp)]⟩
  have m1 : w4.heap[w.heap.size + 1]? = some (.cells #[.nilIface] 109 (0,0)) := by
    rw [g4.block _ (by simp; omega) (fun e => by have := e.1; simp at this; omega),Below.heap_alloc _ _ _ (by omega)]; exact n1
  have m2 : w4.heap[w.heap.size + 1 + 1]? = some (.cells #[.nilIface] 56 (0,0)) := by
    rw [g4.block _ (by simp; omega) (fun e => by have := e.1; simp at this; omega),Below.heap_alloc _ _ _ (by omega)]; exact n2
  have hlow : ∀ k,k < W3.heap.size → H k = none → H4 k = none := fun k hk h => mx4.none (by simp; omega) h
  have hHz : H (w.heap.size + 1) = none ∧ H (w.heap.size + 1 + 1) = none := ⟨Q.out.2.1.none (by omega),Q.out.2.1.none (by omega)⟩
  have h41 := hlow _ (by omega) hHz.1
  have h42 := hlow _ (by omega) hHz.2
  have hlo4 : ∀ k,InAs ca4 k → W3.heap.size ≤ k := fun k hk => (t4.clo k hk).1
  have HG := hid (General_u (lo := 0) (bv := .map none) ex4 Q.out.2.2.2.2.1 t4.ms.cs ⟨Or.inl ⟨rfl,rfl⟩,(GLb.gb (C := ⟨W3.heap.size,.int .i64 (most : Int),.nilFunc,mb,W3.heap.size,ge,[]⟩) G3.out g4).tabW t4.clo,Nat.zero_le _⟩)
  have Q4 := hid (And.intro gA (And.intro m1 (And.intro m2 (And.intro h41 (And.intro h42 hlo4)))))
  have hs4 := gA.size
  have hs5 := t4.bs
  clear ex4 t4 mx4 g4 gA m1 m2 HP n1 n2 g3 z3 hlow hHz h41 h42 hlo4
  unfold CP at *
  go_wp2_with fail
  refine HG.out.mono ?_
  rintro e w5 ⟨g5,_,u,H5,rfl,z5,x5,y5,er5⟩
  have hb5 : ∀ k,k < W3.heap.size → ¬ InAs ca4 k := fun k hk hm => by have := Q4.out.2.2.2.2.2 k hm; omega
  have m1 : w5.heap[w.heap.size + 1]? = some (.cells #[.nilIface] 109 (0,0)) := g5.at Q4.out.2.1 (hb5 _ (by omega))
  have m2 : w5.heap[w.heap.size + 1 + 1]? = some (.cells #[.nilIface] 56 (0,0)) := g5.at Q4.out.2.2.1 (hb5 _ (by omega))
  have gB : w.grownBy w5 none := ⟨g5.os.trans Q4.out.1.os,g5.tape.trans Q4.out.1.tape,g5.output.trans Q4.out.1.output,by have := g5.size; omega,fun k hk _ => by
    rw [g5.block k (by omega) (hb5 k (by omega)),Q4.out.1.block k hk (by simp)]⟩
  have hn5 : ∀ k,k < w4.heap.size → H4 k = none → H5 k = none := fun k hk h => by
    cases h9 : H5 k with
    | none => rfl
    | some o =>
      rcases y5 _ o h9 with h1 | h1
      · rw [h] at h1; cases h1
      · omega
  have q51 := hn5 _ (lt_of_block Q4.out.2.1) Q4.out.2.2.2.1
  have q52 := hn5 _ (lt_of_block Q4.out.2.2.1) Q4.out.2.2.2.2.1
  obtain ⟨T1,b1,_,rfl⟩ := er_val er5
  obtain ⟨m5,er5⟩ := er5
  have er6 : ER H5 [] (.iface T1 (.pointer (some ⟨b1,0,none⟩))) t := ⟨m5,er_nc f m5 _ t Q.out.2.2.2.2.2.1 er5⟩
  have a0 : w5.cell? ⟨w.heap.size + 1,0,none⟩ = some .nilIface := blk_c m1 0 rfl
  have a1 : w5.cell? ⟨w.heap.size + 1 + 1,0,none⟩ = some .nilIface := blk_c m2 0 rfl
  have u0 : w5.frozen? ⟨w.heap.size + 1,0,none⟩ = false := blk_f m1 0
  have u1 : w5.frozen? ⟨w.heap.size + 1 + 1,0,none⟩ = false := blk_f m2 0
  have M := hid (And.intro gB (And.intro m1 (And.intro m2 (And.intro z5 (And.intro er6 (And.intro q51 q52))))))
  clear g5 z5 x5 y5 er5 er6 m1 m2 gB hb5 hn5 q51 q52 HG Q4
  go_wp2
  refine leaves_cons (f := 73) (args := #[.pointer (some ⟨w.heap.size + 1 + 1,0,none⟩)]) (by simp) (by simp [go_sem]) ?_
  refine (idle_of ⟨w.heap.size + 1 + 1,0,none⟩ _).mono ?_
  rintro e u' w'' ⟨rfl,rfl,hw''⟩
  obtain ⟨g,m1,m2,z5,er6,q51,q52⟩ := M.out
  have q1 : w''.heap[w.heap.size + 1]? = some (.cells #[.iface T1 (.pointer (some ⟨b1,0,none⟩))] 109 (0,0)) := by
    rw [hw'',Below.heap_setCell _ _ _ _ (by show w.heap.size + 1 ≠ w.heap.size + 1 + 1; omega)]
    exact put_c m1 _
  have q2 : w''.heap[w.heap.size + 1 + 1]? = some (.cells #[.nilIface] 56 (0,0)) := by
    rw [hw'']
    exact put_c (by rw [Below.heap_setCell _ _ _ _ (by show w.heap.size + 1 + 1 ≠ w.heap.size + 1; omega)]; exact m2) _
  have q3 : Fz H5 w'' := fun k o e => by
    rw [hw'',Below.heap_setCell _ _ _ _ (show k ≠ w.heap.size + 1 + 1 from fun e2 => by rw [e2,q52] at e; cases e),Below.heap_setCell _ _ _ _ (show k ≠ w.heap.size + 1 from fun e2 => by rw [e2,q51] at e; cases e)]
    exact z5 k o e
  have r1 := blk_c q1 0 rfl
  have r2 := blk_c q2 0 rfl
  refine ⟨.tuple #[.agg #[.iface T1 (.pointer (some ⟨b1,0,none⟩))],.nilIface],?_,?_,_,H5,rfl,er6,q3⟩
  · simp [results,Tryz.results47,go_sem,r1,r2]
  · rw [hw'']
    exact gset (gset g (by omega) 0 _) (by omega) 0 _
theorem of_e1 {ad : Nat → Addr} {most : Nat} {H : Nat → Option Obj} {e : Ex} {v : Value} {m mb f : Nat} {ge : List (List UInt8 × Et)} {q : Nat} {w : World} (hp : PRep m H v e) (hz : Fz H w) (hge : GE H [] w mb ge) (hm9 : most ≤ 1000) (hgl : GLb w.heap.size ad w) (hr : partE ge most f e [] ⟨[],[]⟩ = some (.inl q)) :
    Calls Tryz.prog 47 #[v,.map (some mb),.agg #[.int .i64 (most : Int),.nilFunc]] w fun e w' => w.grownBy w' none ∧ e = .returned (.tuple #[.agg #[.nilIface],errV (ad q)]) ∧ Fz H w' := by
  have hmf : ∀ (fn : Fn) (first cap : Array Value) (w : World),(Instr.makeFunc fn first cap).run Tryz.prog w = .ok (.func fn first cap) w := fun _ _ _ _ => rfl
  obtain ⟨T0,b0,rfl⟩ := hp.val
  have Q := hid (And.intro hp (And.intro hz (And.intro hge (And.intro hr (And.intro hm9 hgl)))))
  clear hp hz hge hr hm9 hgl
  go_enter_defers Tryz.func47,Tryz.ntmps47
  go_wp2_with fail
  generalize hW : (((w.alloc (.cells #[.int .i64 (most : Int),.nilFunc] 113)).alloc (.cells #[.nilIface] 109)).alloc (.cells #[.nilIface] 56)) = W3
  have s3 : W3.heap.size = w.heap.size + 1 + 1 + 1 := by rw [← hW]; simp
  have g3 : w.grownBy W3 none := by rw [← hW]; exact (World.grownBy_alloc _ _ _).trans ((World.grownBy_alloc _ _ _).trans (World.grownBy_alloc _ _ _))
  have n1 : W3.heap[w.heap.size + 1]? = some (.cells #[.nilIface] 109 (0,0)) := by
    rw [← hW,Below.heap_alloc _ _ _ (by simp)]
    exact heap_alloc_at _ _ _ (by simp)
  have n2 : W3.heap[w.heap.size + 1 + 1]? = some (.cells #[.nilIface] 56 (0,0)) := by
    rw [← hW]
    exact heap_alloc_at _ _ _ (by simp)
  clear hW
  rw [← s3]
  have z3 : Fz H W3 := Q.out.2.1.grown g3
  have t0 := TSv.start (fuel := (most : Int)) (each := .nilFunc) z3 (Q.out.2.2.1.step (R := fun _ => False) (MX.refl _ _ w) (Gb.new g3) id)
  have gl3 : GLb W3.heap.size ad (W3.alloc (.cells #[.int .i64 0,.int .i64 (most : Int),.nilFunc,.map (some mb),.slice none 0 0] 171)) := GLb.gb (C := ⟨W3.heap.size,.int .i64 (most : Int),.nilFunc,mb,W3.heap.size,ge,[]⟩) (Q.out.2.2.2.2.2.up g3) (Gb.new (World.grownBy_alloc _ _ _))
  have HP := hid (part_all Q.out.2.2.2.2.1 f ⟨W3.heap.size,.int .i64 (most : Int),.nilFunc,mb,W3.heap.size,ge,[]⟩ rfl rfl e _ m ⟨[],[]⟩ [] (.inl q) H [] (fun _ => 0) _ _ _ Q.out.1 Q.out.2.2.2.1 t0 gl3)
  have G3 := hid gl3
  clear t0 gl3
  unfold CP at HP
  refine HP.out.mono ?_
  rintro e w4 ⟨rfl,g4⟩
  have gA : w.grownBy w4 none := ⟨g4.os.trans g3.os,g4.tape.trans g3.tape,g4.output.trans g3.output,by have := g4.size; simp at this; omega,fun k hk _ => by
    rw [g4.block k (by simp; omega) (fun e => by have := e.1; simp at this; omega),Below.heap_alloc _ _ _ (by omega),g3.block k hk (by simp)]⟩
  have m1 : w4.heap[w.heap.size + 1]? = some (.cells #[.nilIface] 109 (0,0)) := by
    rw [g4.block _ (by simp; omega) (fun e => by have := e.1; simp at this; omega),Below.heap_alloc _ _ _ (by omega)]; exact n1
  have m2 : w4.heap[w.heap.size + 1 + 1]? = some (.cells #[.nilIface] 56 (0,0)) := by
    rw [g4.block _ (by simp; omega) (fun e => by have := e.1; simp at this; omega),Below.heap_alloc _ _ _ (by omega)]; exact n2
  have K := hid (And.intro gA (And.intro m1 m2))
  clear g4 gA m1 m2 n1 n2 g3 z3 HP G3
  unfold fltE
  go_wp2
  obtain ⟨gA,m1,m2⟩ := K.out
  refine leaves_cons (f := 73) (args := #[.pointer (some ⟨w.heap.size + 1 + 1,0,none⟩)]) (by simp) (by simp [go_sem]) ?_
  refine (catch_fault (w.heap.size + 1 + 1) (ad q) .nilIface w4 (blk_c m2 0 rfl) (blk_f m2 0) (lt_of_block m2)).mono ?_
  rintro e u' w'' ⟨rfl,rfl,hw''⟩
  have gC : w.grownBy w'' none := by
    rw [hw'']
    have gS := gset gA (n := w.heap.size + 1 + 1) (by omega) 0 (errV (ad q))
    exact gS.trans (World.grownBy_alloc _ (.cells #[errV (ad q)] 165) none)
  have q1 : w''.heap[w.heap.size + 1]? = some (.cells #[.nilIface] 109 (0,0)) := by
    rw [hw'']
    show ((w4.setCell ⟨w.heap.size + 1 + 1,0,none⟩ (errV (ad q))).alloc _).heap[w.heap.size + 1]? = _
    rw [Below.heap_alloc _ _ _ (by have := lt_of_block m1; simp; omega),Below.heap_setCell _ _ _ _ (by show w.heap.size + 1 ≠ w.heap.size + 1 + 1; omega)]
    exact m1
  have q2 : w''.heap[w.heap.size + 1 + 1]? = some (.cells #[errV (ad q)] 56 (0,0)) := by
    rw [hw'']
    show ((w4.setCell ⟨w.heap.size + 1 + 1,0,none⟩ (errV (ad q))).alloc _).heap[w.heap.size + 1 + 1]? = _
    rw [Below.heap_alloc _ _ _ (by have := lt_of_block m2; simp; omega)]
    exact put_c m2 _
  have r1 := blk_c q1 0 rfl
  have r2 := blk_c q2 0 rfl
  refine ⟨.tuple #[.agg #[.nilIface],errV (ad q)],?_,gC,rfl,Q.out.2.1.grown gC⟩
  simp [results,Tryz.results47,go_sem,r1,r2]
end Go.Proofs.YtcdijppegfcoaabGreatDoor
