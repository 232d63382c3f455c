import Derived.Test.YtcdijppegfcoaabGreatDoorZC22
import Derived.Deep.RegionHeld3
import Derived.Test.YtcdijppegfcoaabGreatDoorZC21
import Derived.Test.YtcdijppegfcoaabGreatDoorZC19
import Derived.Test.YtcdijppegfcoaabGreatDoorChecked
import Derived.WalkKit
import Derived.LaidEql
import Derived.Stop.Asserts
import Derived.RowKitTokens
set_option maxRecDepth 100000
set_option maxHeartbeats 2000000
namespace Go.Proofs.YtcdijppegfcoaabGreatDoor
open Go.RowKit
def eT (k : List UInt8) : TypeId := if k = oCell then 173 else if k = [] then 242 else if k = oList then 279 else if k = oPair then 291 else if k = kFun then 209 else 275
def eF (k : List UInt8) : Nat := if k = oList then 257 else if k = oPair then 258 else if k = kFun then 242 else 256
theorem eT_is (k : List UInt8) : IsE (eT k) := by
  unfold eT IsE
  (repeat' split) <;> simp
theorem eT_var {k : List UInt8} (h : k ≠ []) : eT k ≠ 242 := by
  unfold eT
  (repeat' split) <;> first | decide | (rename_i h1 h2; exact absurd h2 h) | (rename_i h1 h2 h3; exact absurd h2 h)
theorem EV.typ {H : Nat → Option Obj} {v : Value} {t : Et} (h : EV H v t) : ∃ b,v = .iface (eT t.kind) (.pointer (some ⟨b,0,none⟩)) := by
  obtain ⟨b,h⟩ := h
  refine ⟨b,?_⟩
  rcases h with ⟨h1,rfl⟩ | ⟨h1,rfl,_⟩ | ⟨h1,rfl,_⟩ | ⟨h1,rfl⟩ | ⟨h1,rfl⟩ | ⟨h1,rfl⟩
  · rw [h1]; rfl
  · rw [h1]; rfl
  · rcases h1 with h1 | h1 <;> rw [h1] <;> rfl
  · rw [h1]; rfl
  · rw [h1]; rfl
  · rw [h1]; rfl
theorem ERep.at {lo : Nat} {H : Nat → Option Obj} {ca : List Nat} {m T b : Nat} {t : Et} (h : ERep lo H ca m (.iface T (.pointer (some ⟨b,0,none⟩))) t) : AtB H ca b := by
  cases m with
  | zero => exact absurd h id
  | succ m =>
  obtain ⟨b',h⟩ := h
  rcases h with ⟨_,_,q3,q4⟩ | ⟨_,_,_,_,q4,q5⟩ | ⟨_,_,q4,q5⟩ | ⟨_,_,_,_,_,q4,q5,_⟩ | ⟨_,_,_,_,_,_,_,q4,q5,_⟩ | ⟨_,_,_,_,_,_,_,q4,q5,_⟩
  · have e : b = b' := by injection q4 with _ q; injection q with q; injection q with q; injection q
    rw [e]; exact Or.inr (List.mem_of_getElem? q3)
  all_goals
    have e : b = b' := by injection q4 with _ q; injection q with q; injection q with q; injection q
    rw [e]; exact Or.inl ⟨_,_,q5⟩
theorem ERep.cell {lo lo' : Nat} {H H' : Nat → Option Obj} {ca : List Nat} {m : Nat} {v : Value} {t : Et} (h : ERep lo H ca m v t) (hk : t.kind = oCell) : ERep lo' H' ca 1 v t := by
  cases m with
  | zero => exact absurd h id
  | succ m =>
  obtain ⟨b,h⟩ := h
  rcases h with h | ⟨h1,_⟩ | ⟨h1,_⟩ | ⟨h1,_⟩ | ⟨h1,_⟩ | ⟨h1,_⟩
  · exact ⟨b,Or.inl h⟩
  · exact absurd (h1.symm.trans hk) (by decide)
  · rcases h1 with h1 | h1 <;> exact absurd (h1.symm.trans hk) (by decide)
  · exact absurd (h1.symm.trans hk) (by decide)
  · exact absurd (h1.symm.trans hk) (by decide)
  · exact absurd (h1.symm.trans hk) (by decide)
theorem node_kids {H H0 : Nat → Option Obj} {ca : List Nat} (σ : Sto) (d : Nat → Nat) {lo m T b : Nat} {t : Et} (h : ERep lo H0 ca m (.iface T (.pointer (some ⟨b,0,none⟩))) t) (hs : ∀ k o,H0 k = some o → H k = some o) (hv : t.kind ≠ []) (hk : t.kind ≠ oCell) :
    ∃ us,NodeAt H ca σ d T b (eF t.kind) us ∧ us.length = t.kids.length ∧ us.length ≤ 2 ∧ ∀ (i : Nat) (u : Value) (k : Et),us[i]? = some u → t.kids[i]? = some k → ∃ m,ERep lo H0 ca m u k := by
  have al : ∀ (w : World) (cs : Array Value),CSd H ca σ d w → CSd H ca σ d (w.alloc (.cells cs 77)) := fun w cs hc => hc.gb (R := fun _ => False) ((Gb.refl _ _).alloc _) (fun _ _ e => e) (fun _ _ _ e => e)
  cases m with
  | zero => exact absurd h id
  | succ m =>
  obtain ⟨b',h⟩ := h
  have eb : ∀ {T' : TypeId},Value.iface T (.pointer (some ⟨b,0,none⟩)) = .iface T' (.pointer (some ⟨b',0,none⟩)) → T = T' ∧ b = b' := fun q4 => by injection q4 with q0 q; injection q with q; injection q with q; injection q with q; exact ⟨q0,q⟩
  rcases h with ⟨h1,_⟩ | ⟨h1,_⟩ | ⟨h1,h2,h3,h4⟩ | ⟨h1,h0,a,u,h2,h3,h4,h5⟩ | ⟨h1,h0,a,c,u,z,h2,h3,h4,h5,h6⟩ | ⟨h1,h0,a,c,u,z,h2,h3,h4,h5,h6⟩
  · exact absurd h1 hk
  · exact absurd h1 hv
  · obtain ⟨rfl,rfl⟩ := eb h3
    have ef : eF t.kind = 256 := by rcases h1 with h1 | h1 <;> rw [h1] <;> rfl
    refine ⟨[],?_,by rw [h2]; rfl,by simp,fun i u k e => by simp at e⟩
    rw [ef]
    refine fun w hc => ⟨fun w => eB_Basic b w,(eb_basic b w).mono ?_,Or.inr (Or.inl rfl)⟩
    rintro e w' ⟨rfl,rfl⟩
    exact ⟨hc,Gb.refl _ _,Or.inl ⟨rfl,rfl⟩⟩
  · obtain ⟨rfl,rfl⟩ := eb h3
    obtain ⟨t1,b1,_,rfl⟩ := h5.val
    have ef : eF t.kind = 257 := by rw [h1]; rfl
    refine ⟨[(.iface t1 (.pointer (some ⟨b1,0,none⟩)))],?_,by rw [h2]; rfl,by simp,fun i u k e1 e2 => ?_⟩
    · rw [ef]
      refine fun w hc => ⟨fun w => eB_List b w,(eb_list b w t1 b1 (hc.fz _ _ (hs _ _ h4))).mono ?_,Or.inr (Or.inr (Or.inl rfl))⟩
      rintro e w' ⟨rfl,rfl⟩
      exact ⟨al _ _ hc,(Gb.refl _ _).alloc _,Or.inr ⟨_,rfl,Nat.le_refl _,heap_alloc_at _ _ _ rfl⟩⟩
    · rw [h2] at e2
      cases i with
      | zero => cases e1; cases e2; exact ⟨m,h5⟩
      | succ i => simp at e1
  · obtain ⟨rfl,rfl⟩ := eb h3
    obtain ⟨t1,b1,_,rfl⟩ := h5.val
    obtain ⟨t2,b2,_,rfl⟩ := h6.val
    have ef : eF t.kind = 258 := by rw [h1]; rfl
    refine ⟨[(.iface t1 (.pointer (some ⟨b1,0,none⟩))),(.iface t2 (.pointer (some ⟨b2,0,none⟩)))],?_,by rw [h2]; rfl,by simp,fun i u k e1 e2 => ?_⟩
    · rw [ef]
      refine fun w hc => ⟨fun w => eB_Pair b w,(eb_pair b w t1 t2 b1 b2 (hc.fz _ _ (hs _ _ h4))).mono ?_,Or.inr (Or.inr (Or.inr (Or.inl rfl)))⟩
      rintro e w' ⟨rfl,rfl⟩
      exact ⟨(al _ _ hc).drew,((Gb.refl _ _).alloc _).drew,Or.inr ⟨_,rfl,Nat.le_refl _,heap_alloc_at _ _ _ rfl⟩⟩
    · rw [h2] at e2
      match i with
      | 0 => cases e1; cases e2; exact ⟨m,h5⟩
      | 1 => cases e1; cases e2; exact ⟨m,h6⟩
      | i + 2 => simp at e1
  · obtain ⟨rfl,rfl⟩ := eb h3
    obtain ⟨t1,b1,_,rfl⟩ := h5.val
    obtain ⟨t2,b2,_,rfl⟩ := h6.val
    have ef : eF t.kind = 242 := by rw [h1]; rfl
    refine ⟨[(.iface t1 (.pointer (some ⟨b1,0,none⟩))),(.iface t2 (.pointer (some ⟨b2,0,none⟩)))],?_,by rw [h2]; rfl,by simp,fun i u k e1 e2 => ?_⟩
    · rw [ef]
      refine fun w hc => ⟨fun w => eB_Arrow b w,(eb_arrow b w t1 t2 b1 b2 (hc.fz _ _ (hs _ _ h4))).mono ?_,Or.inr (Or.inr (Or.inr (Or.inr (Or.inl rfl))))⟩
      rintro e w' ⟨rfl,rfl⟩
      exact ⟨(al _ _ hc).drew,((Gb.refl _ _).alloc _).drew,Or.inr ⟨_,rfl,Nat.le_refl _,heap_alloc_at _ _ _ rfl⟩⟩
    · rw [h2] at e2
      match i with
      | 0 => cases e1; cases e2; exact ⟨m,h5⟩
      | 1 => cases e1; cases e2; exact ⟨m,h6⟩
      | i + 2 => simp at e1
def CellNow (ca : List Nat) (σ : Sto) (n : Nat) (w : World) (b : Nat) : Prop := ∃ b0 v,ca[σ.root n]? = some b0 ∧ w.heap[b0]? = some (cellB (σ.root n) v) ∧ ((v = .nilIface ∧ b = b0) ∨ ∃ T,v = .iface T (.pointer (some ⟨b,0,none⟩)))
theorem now_cell_r {H : Nat → Option Obj} {ca : List Nat} {σ : Sto} {d : Nat → Nat} (i a : Nat) (w : World) (ei : ca[i]? = some a) (hc : CSd H ca σ d w) : ∃ b,ERep 0 H ca 2 (.iface (eT (nowS σ (cT i)).kind) (.pointer (some ⟨b,0,none⟩))) (nowS σ (cT i)) ∧ CellNow ca σ i w b ∧ Calls Tryz.prog 168 #[CI a] w fun e w' => NOW H ca σ d (.iface (eT (nowS σ (cT i)).kind) (.pointer (some ⟨b,0,none⟩))) w e w' ∧ RTS ca σ w w' := by
  obtain ⟨b0,er0,eb0⟩ := hc.root_get ei
  have hil := (List.getElem?_eq_some_iff.1 ei).1
  obtain ⟨v0,hv0,ho⟩ := hc.root_val hil eb0
  have HL := hid (last_any (d i + 1) i a w (by omega) ei hc)
  have ht := e_Cell_Cell a w
  have E0 := hid (And.intro eb0 (And.intro hv0 (hc.rr _ _ er0)))
  unfold CI
  unfold CP at HL
  rcases ho with ⟨he,rfl⟩ | ⟨nd,he,k1,k2,k3,k4⟩
  · have en : nowS σ (cT i) = cT (σ.root i) := by rw [nowS_cell,he]
    refine ⟨b0,?_,⟨b0,_,eb0,hv0,Or.inl ⟨rfl,rfl⟩⟩,?_⟩
    · rw [en]
      exact ⟨b0,Or.inl ⟨rfl,rfl,eb0,rfl⟩⟩
    rw [en,show eT (cT (σ.root i)).kind = 173 from rfl]
    clear ei hc er0 eb0 hv0 hil he en
    go_enter Tryz.func168,Tryz.ntmps168
    go_wp2_with fail
    refine HL.out.mono ?_
    rintro e w1 ⟨b1,rfl,h1,h2,h3,h4⟩
    obtain rfl := Option.some.inj (E0.out.1.symm.trans h1)
    have x1 := (cell_at ((h4 _ _ E0.out.2.2 h1).trans E0.out.2.1)).2.1
    have Q1 := hid (And.intro h2 (And.intro h3 h4))
    clear h1 h2 h3 h4
    unfold CP
    go_wp2
    go_ret
    exact ⟨⟨rfl,Q1.out.1,Q1.out.2.1⟩,Q1.out.2.2⟩
  · have en : nowS σ (cT i) = nd := by rw [nowS_cell,he]
    obtain ⟨c0,hv⟩ := k4.ev.typ
    subst hv
    have hTT := eT_is nd.kind
    rw [en]
    refine ⟨c0,k4,⟨b0,_,eb0,hv0,Or.inr ⟨_,rfl⟩⟩,?_⟩
    clear ei hc er0 eb0 hv0 hil he k1 k2 k3 k4 en
    generalize eT nd.kind = t0 at *
    rcases hTT with rfl | rfl | rfl | rfl | rfl | rfl
    all_goals
      go_enter Tryz.func168,Tryz.ntmps168
      go_wp2_with fail
      refine HL.out.mono ?_
      rintro e w1 ⟨b1,rfl,h1,h2,h3,h4⟩
      obtain rfl := Option.some.inj (E0.out.1.symm.trans h1)
      have x1 := (cell_at ((h4 _ _ E0.out.2.2 h1).trans E0.out.2.1)).2.1
      have Q1 := hid (And.intro h2 (And.intro h3 h4))
      clear h1 h2 h3 h4
      unfold CP
      go_wp2
      go_ret
      exact ⟨⟨rfl,Q1.out.1,Q1.out.2.1⟩,Q1.out.2.2⟩
theorem ptr_inj {T T' b b' : Nat} (q4 : Value.iface T (.pointer (some ⟨b,0,none⟩)) = .iface T' (.pointer (some ⟨b',0,none⟩))) : T = T' ∧ b = b' := by
  injection q4 with q0 q; injection q with q; injection q with q; injection q with q; exact ⟨q0,q⟩
theorem ERep.isCell {lo lo' : Nat} {H H' : Nat → Option Obj} {ca : List Nat} {m m' : Nat} {v : Value} {s t : Et} (h : ERep lo H ca m v s) (hs : s.kind = oCell) (h' : ERep lo' H' ca m' v t) (hn : ca.Nodup) : t.kind = oCell ∧ s.num = t.num := by
  obtain ⟨b,h⟩ := h.cell (lo' := lo) (H' := H) hs
  cases m' with
  | zero => exact absurd h' id
  | succ m' =>
  obtain ⟨b',h'⟩ := h'
  rcases h with ⟨_,_,q3,q4⟩ | ⟨h1,_⟩ | ⟨h1,_⟩ | ⟨h1,_⟩ | ⟨h1,_⟩ | ⟨h1,_⟩
  · rcases h' with ⟨g1,_,g3,g4⟩ | ⟨_,_,_,_,g4,_⟩ | ⟨_,_,g4,_⟩ | ⟨_,_,_,_,_,g4,_⟩ | ⟨_,_,_,_,_,_,_,g4,_⟩ | ⟨_,_,_,_,_,_,_,g4,_⟩
    · have e := (ptr_inj (q4.symm.trans g4)).2
      rw [e] at q3
      refine ⟨g1,?_⟩
      have l1 := (List.getElem?_eq_some_iff.1 q3).1
      exact (List.getElem?_inj l1 hn).1 (q3.trans g3.symm)
    all_goals exact absurd (ptr_inj (q4.symm.trans g4)).1 (by decide)
  · exact absurd (h1.symm.trans hs) (by decide)
  · rcases h1 with h1 | h1 <;> exact absurd (h1.symm.trans hs) (by decide)
  · exact absurd (h1.symm.trans hs) (by decide)
  · exact absurd (h1.symm.trans hs) (by decide)
  · exact absurd (h1.symm.trans hs) (by decide)
def Pairs (ks ls : List Et) : Prop := ks.length = ls.length ∧ ∀ (i : Nat) (a b : Et),ks[i]? = some a → ls[i]? = some b → a.kind = oCell ∧ b.kind = oCell ∧ a.num = b.num
theorem Pairs.nil : Pairs [] [] := ⟨rfl,fun i a b e => by simp at e⟩
theorem twin {l1 l2 : Nat} {H H0 : Nat → Option Obj} {ca : List Nat} {m1 m2 : Nat} {v : Value} {s t : Et} (hn : ca.Nodup) (hs : ∀ k o,H0 k = some o → H k = some o) (h1 : ERep l1 H0 ca m1 v s) (h2 : ERep l2 H ca m2 v t) (kv : s.kind ≠ []) (kc : s.kind ≠ oCell) (hc : (∀ k,k ∈ s.kids → k.kind = oCell) ∨ ∀ k,k ∈ t.kids → k.kind = oCell) : s.kind = t.kind ∧ Pairs s.kids t.kids := by
  cases m1 with
  | zero => exact absurd h1 id
  | succ m1 =>
  cases m2 with
  | zero => exact absurd h2 id
  | succ m2 =>
  have two : ∀ {u u' : Value} {a a' : Et} {n n' : Nat},ERep l1 H0 ca n u a → ERep l2 H ca n' u' a' → u = u' → (a.kind = oCell ∨ a'.kind = oCell) → a.kind = oCell ∧ a'.kind = oCell ∧ a.num = a'.num := fun q1 q2 e q3 => by
    subst e
    rcases q3 with q3 | q3
    · have := q1.isCell q3 q2 hn; exact ⟨q3,this.1,this.2⟩
    · have := q2.isCell q3 q1 hn; exact ⟨this.1,q3,this.2.symm⟩
  obtain ⟨b,h1⟩ := h1
  obtain ⟨b',h2⟩ := h2
  rcases h1 with ⟨p1,_⟩ | ⟨p1,_⟩ | ⟨p1,p2,p3,p4⟩ | ⟨p1,p0,a,u,p2,p3,p4,p5⟩ | ⟨p1,p0,a,c,u,z,p2,p3,p4,p5,p6⟩ | ⟨p1,p0,a,c,u,z,p2,p3,p4,p5,p6⟩
  · exact absurd p1 kc
  · exact absurd p1 kv
  · rcases h2 with ⟨_,_,_,g3⟩ | ⟨_,_,_,_,g3,_⟩ | ⟨g1,g2,g3,g4⟩ | ⟨_,_,_,_,_,g3,_⟩ | ⟨_,_,_,_,_,_,_,g3,_⟩ | ⟨_,_,_,_,_,_,_,g3,_⟩
    case inr.inr.inl =>
      have e := (ptr_inj (p3.symm.trans g3)).2
      have e2 := Option.some.inj ((hs _ _ p4).symm.trans (e ▸ g4))
      refine ⟨?_,by rw [p2,g2]; exact Pairs.nil⟩
      injection e2 with e2
      have e3 : B s.kind = B t.kind := by
        have := congrArg (fun x : Array Value => x[0]?) e2
        simpa using this
      have e4 := congrArg (fun x : ByteArray => x.data.toList) e3
      simpa [B] using e4
    all_goals exact absurd (ptr_inj (p3.symm.trans g3)).1 (by decide)
  · rcases h2 with ⟨_,_,_,g3⟩ | ⟨_,_,_,_,g3,_⟩ | ⟨_,_,g3,_⟩ | ⟨g1,g0,a',u',g2,g3,g4,g5⟩ | ⟨_,_,_,_,_,_,_,g3,_⟩ | ⟨_,_,_,_,_,_,_,g3,_⟩
    case inr.inr.inr.inl =>
      have e := (ptr_inj (p3.symm.trans g3)).2
      have e2 := Option.some.inj ((hs _ _ p4).symm.trans (e ▸ g4))
      injection e2 with e2
      have eu : u = u' := by have := congrArg (fun x : Array Value => x[0]?) e2; simpa using this
      refine ⟨by rw [p1,g1],?_⟩
      have := two p5 g5 eu (hc.imp (fun h => h a (by rw [p2]; simp)) (fun h => h a' (by rw [g2]; simp)))
      rw [p2,g2]
      refine ⟨rfl,fun i x y e1 e2 => ?_⟩
      cases i with
      | zero => cases e1; cases e2; exact this
      | succ i => simp at e1
    all_goals exact absurd (ptr_inj (p3.symm.trans g3)).1 (by decide)
  · rcases h2 with ⟨_,_,_,g3⟩ | ⟨_,_,_,_,g3,_⟩ | ⟨_,_,g3,_⟩ | ⟨_,_,_,_,_,g3,_⟩ | ⟨g1,g0,a',c',u',z',g2,g3,g4,g5,g6⟩ | ⟨_,_,_,_,_,_,_,g3,_⟩
    case inr.inr.inr.inr.inl =>
      have e := (ptr_inj (p3.symm.trans g3)).2
      have e2 := Option.some.inj ((hs _ _ p4).symm.trans (e ▸ g4))
      injection e2 with e2
      have eu : u = u' := by have := congrArg (fun x : Array Value => x[0]?) e2; simpa using this
      have ez : z = z' := by have := congrArg (fun x : Array Value => x[1]?) e2; simpa using this
      refine ⟨by rw [p1,g1],?_⟩
      have t1 := two p5 g5 eu (hc.imp (fun h => h a (by rw [p2]; simp)) (fun h => h a' (by rw [g2]; simp)))
      have t2 := two p6 g6 ez (hc.imp (fun h => h c (by rw [p2]; simp)) (fun h => h c' (by rw [g2]; simp)))
      rw [p2,g2]
      refine ⟨rfl,fun i x y e1 e2 => ?_⟩
      match i with
      | 0 => cases e1; cases e2; exact t1
      | 1 => cases e1; cases e2; exact t2
      | i + 2 => simp at e1
    all_goals exact absurd (ptr_inj (p3.symm.trans g3)).1 (by decide)
  · rcases h2 with ⟨_,_,_,g3⟩ | ⟨_,_,_,_,g3,_⟩ | ⟨_,_,g3,_⟩ | ⟨_,_,_,_,_,g3,_⟩ | ⟨_,_,_,_,_,_,_,g3,_⟩ | ⟨g1,g0,a',c',u',z',g2,g3,g4,g5,g6⟩
    case inr.inr.inr.inr.inr =>
      have e := (ptr_inj (p3.symm.trans g3)).2
      have e2 := Option.some.inj ((hs _ _ p4).symm.trans (e ▸ g4))
      injection e2 with e2
      have eu : u = u' := by have := congrArg (fun x : Array Value => x[0]?) e2; simpa using this
      have ez : z = z' := by have := congrArg (fun x : Array Value => x[1]?) e2; simpa using this
      refine ⟨by rw [p1,g1],?_⟩
      have t1 := two p5 g5 eu (hc.imp (fun h => h a (by rw [p2]; simp)) (fun h => h a' (by rw [g2]; simp)))
      have t2 := two p6 g6 ez (hc.imp (fun h => h c (by rw [p2]; simp)) (fun h => h c' (by rw [g2]; simp)))
      rw [p2,g2]
      refine ⟨rfl,fun i x y e1 e2 => ?_⟩
      match i with
      | 0 => cases e1; cases e2; exact t1
      | 1 => cases e1; cases e2; exact t2
      | i + 2 => simp at e1
    all_goals exact absurd (ptr_inj (p3.symm.trans g3)).1 (by decide)
def NoVar (σ : Sto) : Prop := ∀ n nd,σ.is n = some nd → nd.kind ≠ []
theorem now_var {σ : Sto} (hv : NoVar σ) {t : Et} (h : (nowS σ t).kind = []) : t.kind ≠ oCell ∧ nowS σ t = t := by
  unfold nowS at h ⊢
  by_cases hk : t.kind = oCell
  · rw [if_pos hk] at h
    exfalso
    cases e : σ.is t.num with
    | none => rw [e] at h; exact absurd (show oCell = [] from h) (by decide)
    | some nd => rw [e] at h; exact hv _ _ e h
  · exact ⟨hk,by rw [if_neg hk]⟩
theorem pairs_same {σ : Sto} (hv : NoVar σ) {f : Nat} : ∀ {ks ls : List Et} {p q : List (List UInt8)} {r : Option (List (List UInt8) × List (List UInt8))},Pairs ks ls → sameAllS (sameS σ f) ks ls p q = some r → r = some (p,q)
  | [],[],p,q,r,_,h => (Option.some.inj h).symm
  | [],_ :: _,_,_,_,hp,_ => absurd hp.1 (by simp)
  | _ :: _,[],_,_,_,hp,_ => absurd hp.1 (by simp)
  | a :: ks,b :: ls,p,q,r,hp,h => by
    have h0 := hp.2 0 a b rfl rfl
    have ht : Pairs ks ls := ⟨by simpa using hp.1,fun i x y e1 e2 => hp.2 (i + 1) x y (by simpa using e1) (by simpa using e2)⟩
    rw [sameAllS] at h
    cases f with
    | zero => rw [sameS] at h; cases h
    | succ f =>
      have e : sameS σ (f + 1) a b p q = some (some (p,q)) := by
        rw [sameS,if_neg (fun e => (now_var hv e).1 h0.1),if_pos ⟨h0.1,h0.2.1,by rw [h0.2.2]⟩]
      rw [e] at h
      exact pairs_same hv ht h
theorem CSd.noVar {H : Nat → Option Obj} {ca : List Nat} {σ : Sto} {d : Nat → Nat} {w : World} (h : CSd H ca σ d w) {n a : Nat} (ei : ca[n]? = some a) {nd : Et} (he : σ.is n = some nd) : nd.kind ≠ [] ∧ nd.kind ≠ oCell ∧ ∀ k,k ∈ nd.kids → k.kind = oCell := by
  obtain ⟨b0,er0,eb0⟩ := h.root_get ei
  obtain ⟨v0,hv0,ho⟩ := h.root_val (List.getElem?_eq_some_iff.1 ei).1 eb0
  rcases ho with ⟨h1,_⟩ | ⟨nd',h1,k1,k2,k3,_⟩
  · rw [he] at h1; cases h1
  · rw [he] at h1; cases h1; exact ⟨k1,k2,k3⟩
theorem CSd.noVars {H : Nat → Option Obj} {ca : List Nat} {σ : Sto} {d : Nat → Nat} {w : World} (h : CSd H ca σ d w) : NoVar σ := fun n nd he => by
  rcases Nat.lt_or_ge n ca.length with hl | hl
  · exact (h.noVar (List.getElem?_eq_getElem hl) he).1
  · exfalso
    have e1 : σ.root n = n := by
      show σ.rep.getD n n = n
      rw [List.getD_eq_getElem?_getD,List.getElem?_eq_none (by rw [← h.len]; exact hl)]
      rfl
    unfold Sto.is at he
    rw [e1,List.getD_eq_getElem?_getD,List.getElem?_eq_none (by rw [h.lenc,← h.len]; exact hl)] at he
    cases he
def Side (H G : Nat → Option Obj) (lo : Nat) (ca : List Nat) (σ : Sto) (t : Et) (b : Nat) : Prop :=
  (t.kind = oCell ∧ ∃ m,ERep 0 H ca m (.iface (eT (nowS σ t).kind) (.pointer (some ⟨b,0,none⟩))) (nowS σ t)) ∨ (t.kind ≠ oCell ∧ ∃ m,ERep lo G ca m (.iface (eT (nowS σ t).kind) (.pointer (some ⟨b,0,none⟩))) (nowS σ t))
theorem Side.rep {H G : Nat → Option Obj} {lo : Nat} {ca : List Nat} {σ : Sto} {t : Et} {b : Nat} (h : Side H G lo ca σ t b) (hs : ∀ k o,G k = some o → H k = some o) : ∃ m,ERep 0 H ca m (.iface (eT (nowS σ t).kind) (.pointer (some ⟨b,0,none⟩))) (nowS σ t) := by
  rcases h with ⟨_,m,h⟩ | ⟨_,m,h⟩
  · exact ⟨m,h⟩
  · exact ⟨m,h.ext (Nat.zero_le _) hs (List.prefix_refl _) _ _ _⟩
theorem Side.kids {H G : Nat → Option Obj} {lo : Nat} {ca : List Nat} {σ : Sto} {d : Nat → Nat} {w : World} {t : Et} {b : Nat} (hc : CSd H ca σ d w) (ht : ∃ m v,ERep lo G ca m v t) (h : Side H G lo ca σ t b) (hs : ∀ k o,G k = some o → H k = some o) (hv : (nowS σ t).kind ≠ []) (hk : (nowS σ t).kind ≠ oCell) :
    ∃ us,NodeAt H ca σ d (eT (nowS σ t).kind) b (eF (nowS σ t).kind) us ∧ us.length = (nowS σ t).kids.length ∧ us.length ≤ 2 ∧ ∀ (i : Nat) (u : Value) (k : Et),us[i]? = some u → (nowS σ t).kids[i]? = some k → ∃ m,ERep lo G ca m u k := by
  rcases h with ⟨h0,m,h⟩ | ⟨h0,m,h⟩
  · obtain ⟨us,q1,q2,q3,q4⟩ := node_kids σ d h (fun _ _ e => e) hv hk
    refine ⟨us,q1,q2,q3,fun i u k e1 e2 => ?_⟩
    obtain ⟨m9,q5⟩ := q4 i u k e1 e2
    obtain ⟨m8,v8,q8⟩ := ht
    obtain ⟨b8,q8⟩ := q8.cell (lo' := lo) (H' := G) h0
    have e8 : ca[t.num]? = some b8 := by
      rcases q8 with ⟨_,_,q,_⟩ | ⟨q,_⟩ | ⟨q,_⟩ | ⟨q,_⟩ | ⟨q,_⟩ | ⟨q,_⟩
      · exact q
      · exact absurd (q.symm.trans h0) (by decide)
      · rcases q with q | q <;> exact absurd (q.symm.trans h0) (by decide)
      · exact absurd (q.symm.trans h0) (by decide)
      · exact absurd (q.symm.trans h0) (by decide)
      · exact absurd (q.symm.trans h0) (by decide)
    have hcell : k.kind = oCell := by
      unfold nowS at e2 hk
      rw [if_pos h0] at e2 hk
      cases e : σ.is t.num with
      | none => rw [e] at hk; exact absurd rfl hk
      | some nd => rw [e] at e2; exact (hc.noVar e8 e).2.2 k (List.mem_of_getElem? e2)
    exact ⟨1,q5.cell hcell⟩
  · exact node_kids σ d h hs hv hk
theorem side_now {H G : Nat → Option Obj} {lo : Nat} {ca : List Nat} {σ : Sto} {d : Nat → Nat} {T b0 : Nat} {t : Et} (ht : ∃ m,ERep lo G ca m (.iface T (.pointer (some ⟨b0,0,none⟩))) t) (w : World) (hc : CSd H ca σ d w) :
    ∃ b,Side H G lo ca σ t b ∧ (t.kind = oCell → CellNow ca σ t.num w b) ∧ Calls Tryz.prog 168 #[.iface T (.pointer (some ⟨b0,0,none⟩))] w fun e w' => NOW H ca σ d (.iface (eT (nowS σ t).kind) (.pointer (some ⟨b,0,none⟩))) w e w' ∧ RTS ca σ w w' := by
  obtain ⟨m,h⟩ := ht
  by_cases hk : t.kind = oCell
  · obtain ⟨b1,q⟩ := h.cell (lo' := lo) (H' := G) hk
    have q' : ca[t.num]? = some b1 ∧ Value.iface T (.pointer (some ⟨b0,0,none⟩)) = .iface 173 (.pointer (some ⟨b1,0,none⟩)) := by
      rcases q with ⟨_,_,q,q2⟩ | ⟨q,_⟩ | ⟨q,_⟩ | ⟨q,_⟩ | ⟨q,_⟩ | ⟨q,_⟩
      · exact ⟨q,q2⟩
      · exact absurd (q.symm.trans hk) (by decide)
      · rcases q with q | q <;> exact absurd (q.symm.trans hk) (by decide)
      · exact absurd (q.symm.trans hk) (by decide)
      · exact absurd (q.symm.trans hk) (by decide)
      · exact absurd (q.symm.trans hk) (by decide)
    obtain ⟨e1,e2⟩ := ptr_inj q'.2
    subst e1
    subst e2
    obtain ⟨b,r1,r2,r3⟩ := now_cell_r t.num b0 w q'.1 hc
    have en : nowS σ t = nowS σ (cT t.num) := by unfold nowS; rw [if_pos hk,if_pos (show (cT t.num).kind = oCell from rfl)]; rfl
    rw [← en] at r1 r3
    exact ⟨b,Or.inl ⟨hk,2,r1⟩,fun _ => r2,r3⟩
  · have en : nowS σ t = t := by unfold nowS; rw [if_neg hk]
    obtain ⟨b,hb⟩ := h.ev.typ
    obtain ⟨e1,e2⟩ := ptr_inj hb
    subst e2
    have hT : T ≠ 173 := by
      rw [e1]
      obtain ⟨_,hh⟩ := h.ev
      rcases hh with ⟨q,_⟩ | ⟨q,_⟩ | ⟨q,_⟩ | ⟨q,_⟩ | ⟨q,_⟩ | ⟨q,_⟩
      · exact absurd q hk
      · rw [q]; decide
      · rcases q with q | q <;> rw [q] <;> decide
      · rw [q]; decide
      · rw [q]; decide
      · rw [q]; decide
    refine ⟨b0,Or.inr ⟨hk,m,by rw [en,← e1]; exact h⟩,fun e => absurd e hk,?_⟩
    refine (now_other b0 w (not_cell (by rw [e1]; exact eT_is _) hT b0 w)).mono ?_
    rintro e w' ⟨rfl,rfl⟩
    exact ⟨⟨by rw [en,← e1],hc,Gb.refl _ _⟩,RTS.refl _ _ _⟩
theorem eF_four {k : List UInt8} : eF k = 256 ∨ eF k = 257 ∨ eF k = 258 ∨ eF k = 242 := by
  unfold eF
  (repeat' split) <;> simp
theorem kids_len_e {lo lo' : Nat} {H H' : Nat → Option Obj} {ca : List Nat} {m m' : Nat} {v v' : Value} {s t : Et} (h : ERep lo H ca m v s) (h' : ERep lo' H' ca m' v' t) (e : s.kind = t.kind) (hk : s.kind ≠ oCell) : s.kids.length = t.kids.length := by
  cases m with
  | zero => exact absurd h id
  | succ m =>
  cases m' with
  | zero => exact absurd h' id
  | succ m' =>
  obtain ⟨b,h⟩ := h
  obtain ⟨b',h'⟩ := h'
  rcases h with ⟨p1,_⟩ | ⟨p1,p2,_⟩ | ⟨p1,p2,_⟩ | ⟨p1,_,a,u,p2,_⟩ | ⟨p1,_,a,c,u,z,p2,_⟩ | ⟨p1,_,a,c,u,z,p2,_⟩
  · exact absurd p1 hk
  · rcases h' with ⟨g1,_⟩ | ⟨g1,g2,_⟩ | ⟨g1,g2,_⟩ | ⟨g1,_,a',u',g2,_⟩ | ⟨g1,_,a',c',u',z',g2,_⟩ | ⟨g1,_,a',c',u',z',g2,_⟩
    · exact absurd (e.trans g1) hk
    · rw [p2,g2]
    · rw [p2,g2]
    · exact absurd (p1.symm.trans (e.trans g1)) (by decide)
    · exact absurd (p1.symm.trans (e.trans g1)) (by decide)
    · exact absurd (p1.symm.trans (e.trans g1)) (by decide)
  · rcases h' with ⟨g1,_⟩ | ⟨g1,g2,_⟩ | ⟨g1,g2,_⟩ | ⟨g1,_,a',u',g2,_⟩ | ⟨g1,_,a',c',u',z',g2,_⟩ | ⟨g1,_,a',c',u',z',g2,_⟩
    · exact absurd (e.trans g1) hk
    · rw [p2,g2]
    · rw [p2,g2]
    · rcases p1 with p1 | p1 <;> exact absurd (p1.symm.trans (e.trans g1)) (by decide)
    · rcases p1 with p1 | p1 <;> exact absurd (p1.symm.trans (e.trans g1)) (by decide)
    · rcases p1 with p1 | p1 <;> exact absurd (p1.symm.trans (e.trans g1)) (by decide)
  · rcases h' with ⟨g1,_⟩ | ⟨g1,g2,_⟩ | ⟨g1,g2,_⟩ | ⟨g1,_,a',u',g2,_⟩ | ⟨g1,_,a',c',u',z',g2,_⟩ | ⟨g1,_,a',c',u',z',g2,_⟩
    · exact absurd (e.trans g1) hk
    · exact absurd (p1.symm.trans (e.trans g1)) (by decide)
    · rcases g1 with g1 | g1 <;> exact absurd (p1.symm.trans (e.trans g1)) (by decide)
    · rw [p2,g2]; rfl
    · exact absurd (p1.symm.trans (e.trans g1)) (by decide)
    · exact absurd (p1.symm.trans (e.trans g1)) (by decide)
  · rcases h' with ⟨g1,_⟩ | ⟨g1,g2,_⟩ | ⟨g1,g2,_⟩ | ⟨g1,_,a',u',g2,_⟩ | ⟨g1,_,a',c',u',z',g2,_⟩ | ⟨g1,_,a',c',u',z',g2,_⟩
    · exact absurd (e.trans g1) hk
    · exact absurd (p1.symm.trans (e.trans g1)) (by decide)
    · rcases g1 with g1 | g1 <;> exact absurd (p1.symm.trans (e.trans g1)) (by decide)
    · exact absurd (p1.symm.trans (e.trans g1)) (by decide)
    · rw [p2,g2]; rfl
    · rw [p2,g2]; rfl
  · rcases h' with ⟨g1,_⟩ | ⟨g1,g2,_⟩ | ⟨g1,g2,_⟩ | ⟨g1,_,a',u',g2,_⟩ | ⟨g1,_,a',c',u',z',g2,_⟩ | ⟨g1,_,a',c',u',z',g2,_⟩
    · exact absurd (e.trans g1) hk
    · exact absurd (p1.symm.trans (e.trans g1)) (by decide)
    · rcases g1 with g1 | g1 <;> exact absurd (p1.symm.trans (e.trans g1)) (by decide)
    · exact absurd (p1.symm.trans (e.trans g1)) (by decide)
    · rw [p2,g2]; rfl
    · rw [p2,g2]; rfl
theorem cell_same {ca : List Nat} {σ : Sto} {na nb : Nat} {W w1 : World} {b1 b2 : Nat} (e : σ.root na = σ.root nb) (hr : σ.rep[σ.root na]? = some (σ.root na)) (h1 : CellNow ca σ na W b1) (hR : RTS ca σ W w1) (h2 : CellNow ca σ nb w1 b2) : b1 = b2 := by
  obtain ⟨x,v,q1,q2,q3⟩ := h1
  obtain ⟨x',v',g1,g2,g3⟩ := h2
  rw [← e] at g1 g2
  obtain rfl := Option.some.inj (q1.symm.trans g1)
  have e2 := hR _ _ hr q1
  rw [g2,q2] at e2
  have ev : v' = v := by
    have e3 := Option.some.inj e2
    unfold cellB at e3
    injection e3 with e3
    have := congrArg (fun x : Array Value => x[1]?) e3
    simpa using this
  subst ev
  rcases q3 with ⟨rfl,rfl⟩ | ⟨T,rfl⟩
  · rcases g3 with ⟨_,rfl⟩ | ⟨T',g3⟩
    · rfl
    · cases g3
  · rcases g3 with ⟨g3,_⟩ | ⟨T',g3⟩
    · cases g3
    · exact (ptr_inj g3).2
theorem side_cells {H : Nat → Option Obj} {ca : List Nat} {σ : Sto} {d : Nat → Nat} {w : World} {t : Et} (hc : CSd H ca σ d w) (h0 : t.kind = oCell) (hk : (nowS σ t).kind ≠ oCell) : ∀ k,k ∈ (nowS σ t).kids → k.kind = oCell := by
  intro k hm
  unfold nowS at hm hk
  rw [if_pos h0] at hm hk
  cases e : σ.is t.num with
  | none => rw [e] at hk; exact absurd rfl hk
  | some nd =>
    rw [e] at hm
    rcases Nat.lt_or_ge t.num ca.length with hl | hl
    · exact (hc.noVar (List.getElem?_eq_getElem hl) e).2.2 k hm
    · exfalso
      have e1 : σ.root t.num = t.num := by
        show σ.rep.getD t.num t.num = t.num
        rw [List.getD_eq_getElem?_getD,List.getElem?_eq_none (by rw [← hc.len]; exact hl)]
        rfl
      unfold Sto.is at e
      rw [e1,List.getD_eq_getElem?_getD,List.getElem?_eq_none (by rw [hc.lenc,← hc.len]; exact hl)] at e
      cases e
theorem far_apart {H H0 : Nat → Option Obj} {lo : Nat} {ca : List Nat} {m m' : Nat} {v : Value} {s t : Et} (hlo : ∀ k o,H0 k = some o → k < lo) (h : ERep 0 H0 ca m v s) (h' : ERep lo H ca m' v t) (kv : s.kind ≠ []) (kc : s.kind ≠ oCell) : ∀ k,k ∈ s.kids → k.kind = oCell := by
  cases m with
  | zero => exact absurd h id
  | succ m =>
  cases m' with
  | zero => exact absurd h' id
  | succ m' =>
  obtain ⟨b,h⟩ := h
  obtain ⟨b',h'⟩ := h'
  rcases h with ⟨p1,_⟩ | ⟨p1,_⟩ | ⟨p1,p2,_⟩ | ⟨_,_,_,_,_,p3,p4,_⟩ | ⟨_,_,_,_,_,_,_,p3,p4,_⟩ | ⟨_,_,_,_,_,_,_,p3,p4,_⟩
  · exact absurd p1 kc
  · exact absurd p1 kv
  · intro k hk; rw [p2] at hk; cases hk
  all_goals
    exfalso
    have hb := hlo _ _ p4
    rcases h' with ⟨_,_,_,g3⟩ | ⟨_,_,_,_,g3,_⟩ | ⟨_,_,g3,_⟩ | ⟨_,g0,_,_,_,g3,_⟩ | ⟨_,g0,_,_,_,_,_,g3,_⟩ | ⟨_,g0,_,_,_,_,_,g3,_⟩
    all_goals first
      | exact absurd (ptr_inj (p3.symm.trans g3)).1 (by decide)
      | (have e := (ptr_inj (p3.symm.trans g3)).2; omega)
theorem same_step {H H0 : Nat → Option Obj} {lo : Nat} {ca : List Nat} {σ : Sto} {d : Nat → Nat} {c1 m1 c2 m2 f : Nat} (hs : ∀ k o,H0 k = some o → H k = some o) (hlo : ∀ k o,H0 k = some o → k < lo) (no : NUo H ca c1 m1 c2 m2) (ih : SMC H H0 lo ca σ d c1 m1 c2 m2 f) : SMC H H0 lo ca σ d c1 m1 c2 m2 (f + 1) := by
  intro ta tb va vb p q r w ha hb hr hc N1 N2
  obtain ⟨Ta,ba,_,rfl⟩ := ha.choose_spec.val
  obtain ⟨Tb,bb,_,rfl⟩ := hb.choose_spec.val
  have nv := hc.noVars
  rw [sameS] at hr
  by_cases kv : (nowS σ ta).kind = []
  · rw [if_pos kv] at hr
    obtain ⟨ka,ea⟩ := now_var nv kv
    have evA : EV H0 (.iface Ta (.pointer (some ⟨ba,0,none⟩))) ta := ha.choose_spec.ev
    rw [ea] at kv hr
    have fA : Ta = 242 ∧ H0 ba = some (.cells #[.string (B ta.name)] 246 (0,0)) ∧ ta.name.length ≤ 300 := by
      obtain ⟨b',evA⟩ := evA
      rcases evA with ⟨q1,_⟩ | ⟨_,q2,q3,q4⟩ | ⟨q1,_⟩ | ⟨q1,_⟩ | ⟨q1,_⟩ | ⟨q1,_⟩
      · exact absurd (q1.symm.trans kv) (by decide)
      · obtain ⟨e1,e2⟩ := ptr_inj q2
        subst e2
        exact ⟨e1,q3,q4⟩
      · rcases q1 with q1 | q1 <;> exact absurd (q1.symm.trans kv) (by decide)
      · exact absurd (q1.symm.trans kv) (by decide)
      · exact absurd (q1.symm.trans kv) (by decide)
      · exact absurd (q1.symm.trans kv) (by decide)
    obtain ⟨rfl,hHa,hla⟩ := fA
    have CA : ∀ w,CSd H ca σ d w → Calls Tryz.prog 168 #[.iface 242 (.pointer (some ⟨ba,0,none⟩))] w (NOW H ca σ d (.iface 242 (.pointer (some ⟨ba,0,none⟩))) w) := fun w hc => (now_other ba w (e_Var_Cell ba w)).mono fun e w' h => by
      obtain ⟨rfl,rfl⟩ := h
      exact ⟨rfl,hc,Gb.refl _ _⟩
    by_cases kw : (nowS σ tb).kind = []
    · rw [if_pos kw] at hr
      obtain ⟨kb,eb⟩ := now_var nv kw
      have evB : EV H (.iface Tb (.pointer (some ⟨bb,0,none⟩))) tb := hb.choose_spec.ev
      rw [eb] at kw hr
      have fB : Tb = 242 ∧ H bb = some (.cells #[.string (B tb.name)] 246 (0,0)) ∧ tb.name.length ≤ 300 := by
        obtain ⟨b',evB⟩ := evB
        rcases evB with ⟨q1,_⟩ | ⟨_,q2,q3,q4⟩ | ⟨q1,_⟩ | ⟨q1,_⟩ | ⟨q1,_⟩ | ⟨q1,_⟩
        · exact absurd (q1.symm.trans kw) (by decide)
        · obtain ⟨e1,e2⟩ := ptr_inj q2
          subst e2
          exact ⟨e1,q3,q4⟩
        · rcases q1 with q1 | q1 <;> exact absurd (q1.symm.trans kw) (by decide)
        · exact absurd (q1.symm.trans kw) (by decide)
        · exact absurd (q1.symm.trans kw) (by decide)
        · exact absurd (q1.symm.trans kw) (by decide)
      obtain ⟨rfl,hHb,hlb⟩ := fB
      have CB : ∀ w,CSd H ca σ d w → Calls Tryz.prog 168 #[.iface 242 (.pointer (some ⟨bb,0,none⟩))] w (NOW H ca σ d (.iface 242 (.pointer (some ⟨bb,0,none⟩))) w) := fun w hc => (now_other bb w (e_Var_Cell bb w)).mono fun e w' h => by
        obtain ⟨rfl,rfl⟩ := h
        exact ⟨rfl,hc,Gb.refl _ _⟩
      split at hr
      · rename_i hpq
        have er : r = if (ordS p ta.name).idxOf ta.name = (ordS q tb.name).idxOf tb.name then some (ordS p ta.name,ordS q tb.name) else none := by
          split at hr
          · rename_i he; rw [if_pos he]; exact (Option.some.inj hr).symm
          · rename_i he; rw [if_neg he]; exact (Option.some.inj hr).symm
        rw [er]
        exact same_var hc hla hlb hpq.1 hpq.2 (hs _ _ hHa) hHb N1 N2 no CA CB
      · cases hr
    · rw [if_neg kw] at hr
      have er := (Option.some.inj hr).symm
      subst er
      refine same_nvar hc (eT_is _) (eT_var kw) CA fun w hc => ?_
      obtain ⟨b,_,_,h3⟩ := side_now hb w hc
      exact ⟨b,h3.mono fun e w' h => h.1⟩
  · rw [if_neg kv] at hr
    have R1 : ∀ b,Side H H0 0 ca σ ta b → ∃ m,ERep 0 H ca m (.iface (eT (nowS σ ta).kind) (.pointer (some ⟨b,0,none⟩))) (nowS σ ta) := fun b h => h.rep hs
    have R2 : ∀ b,Side H H lo ca σ tb b → ∃ m,ERep 0 H ca m (.iface (eT (nowS σ tb).kind) (.pointer (some ⟨b,0,none⟩))) (nowS σ tb) := fun b h => h.rep (fun _ _ e => e)
    have shortT : ta.kind = oCell ∧ tb.kind = oCell ∧ σ.root ta.num = σ.root tb.num → nowS σ ta = nowS σ tb := fun h => by
      unfold nowS Sto.is
      rw [if_pos h.1,if_pos h.2.1,h.2.2]
    obtain ⟨bA,sA,_,_⟩ := side_now ha w hc
    obtain ⟨bB,sB,_,_⟩ := side_now hb w hc
    refine same_n (A1 := Side H H0 0 ca σ ta) (A2 := Side H H lo ca σ tb) (J1 := fun w b => ta.kind = oCell → CellNow ca σ ta.num w b) (J2 := fun w b => tb.kind = oCell → CellNow ca σ tb.num w b) (Ex := fun b1 b2 => (ta.kind = oCell ∧ tb.kind = oCell ∧ σ.root ta.num = σ.root tb.num) → b1 = b2)
      (al := decide ((nowS σ ta).kind = (nowS σ tb).kind ∧ (nowS σ ta).kind ≠ oCell)) (F := eF (nowS σ ta).kind) (ks := (nowS σ ta).kids) (ls := (nowS σ tb).kids)
      ih hc (eT_is _) (eT_is _) (eT_var kv) N1 N2 no (fun b h => (R1 b h).choose_spec.at) (fun b h => (R2 b h).choose_spec.at)
      (fun w hc => side_now ha w hc) (fun w hc => by
        obtain ⟨b,q1,q2,q3⟩ := side_now hb w hc
        exact ⟨b,q1,q2,q3.mono fun e w' h => h.1⟩) (fun W w1 b1 b2 j1 hR j2 hx => ?_) (fun eT12 b h1 h2 => ?_) (fun b1 b2 w h1 h2 hc => alike_s (R1 b1 h1).choose_spec.ev (R2 b2 h2).choose_spec.ev hc.fz kv) (fun hal b1 b2 h1 h2 hE hne => ?_) (fun hal => ?_)
    · -- one root
      have hA := ha.choose_spec.cell (lo' := 0) (H' := H) hx.1
      obtain ⟨x,hA⟩ := hA
      have ei : ca[ta.num]? = some x := by
        rcases hA with ⟨_,_,q,_⟩ | ⟨q,_⟩ | ⟨q,_⟩ | ⟨q,_⟩ | ⟨q,_⟩ | ⟨q,_⟩
        · exact q
        · exact absurd (q.symm.trans hx.1) (by decide)
        · rcases q with q | q <;> exact absurd (q.symm.trans hx.1) (by decide)
        · exact absurd (q.symm.trans hx.1) (by decide)
        · exact absurd (q.symm.trans hx.1) (by decide)
        · exact absurd (q.symm.trans hx.1) (by decide)
      obtain ⟨_,er0,_⟩ := hc.root_get ei
      exact cell_same hx.2.2 (hc.rr _ _ er0) (j1 hx.1) hR (j2 hx.2.1)
    · -- one block
      by_cases hsh : ta.kind = oCell ∧ tb.kind = oCell ∧ σ.root ta.num = σ.root tb.num
      · rw [if_pos hsh] at hr
        exact (Option.some.inj hr).symm
      rw [if_neg hsh] at hr
      by_cases kc : (nowS σ ta).kind = oCell
      · -- both are cells of which nothing is known
        exfalso
        have fin : ∀ {lo' : Nat} {G : Nat → Option Obj} {t : Et} (hc' : (nowS σ t).kind = oCell) (h : Side H G lo' ca σ t b),t.kind = oCell ∧ ca[σ.root t.num]? = some b := by
          intro lo' G t hc' h
          rcases h with ⟨h0,m,h⟩ | ⟨h0,m,h⟩
          · have en : nowS σ t = cT (σ.root t.num) := by
              unfold nowS at hc' ⊢
              rw [if_pos h0] at hc' ⊢
              cases e : σ.is t.num with
              | none => rfl
              | some nd =>
                rw [e] at hc'
                exfalso
                have h9 := h
                unfold nowS at h9
                rw [if_pos h0,e] at h9
                rcases Nat.lt_or_ge t.num ca.length with hl | hl
                · exact (hc.noVar (List.getElem?_eq_getElem hl) e).2.1 hc'
                · have e1 : σ.root t.num = t.num := by
                    show σ.rep.getD t.num t.num = t.num
                    rw [List.getD_eq_getElem?_getD,List.getElem?_eq_none (by rw [← hc.len]; exact hl)]
                    rfl
                  unfold Sto.is at e
                  rw [e1,List.getD_eq_getElem?_getD,List.getElem?_eq_none (by rw [hc.lenc,← hc.len]; exact hl)] at e
                  cases e
            refine ⟨h0,?_⟩
            rw [en] at h
            obtain ⟨x,h⟩ := h.cell (lo' := 0) (H' := H) rfl
            rcases h with ⟨_,_,q,q2⟩ | ⟨q,_⟩ | ⟨q,_⟩ | ⟨q,_⟩ | ⟨q,_⟩ | ⟨q,_⟩
            · rw [(ptr_inj q2).2]; exact q
            · exact absurd q (show oCell ≠ [] by decide)
            · rcases q with q | q
              · exact absurd (show oCell = kInt from q) (by decide)
              · exact absurd (show oCell = kBool from q) (by decide)
            · exact absurd q (show oCell ≠ oList by decide)
            · exact absurd q (show oCell ≠ oPair by decide)
            · exact absurd q (show oCell ≠ kFun by decide)
          · have en : nowS σ t = t := by unfold nowS; rw [if_neg h0]
            rw [en] at hc'
            exact absurd hc' h0
        have kcB : (nowS σ tb).kind = oCell := by
          rw [kc] at eT12
          by_cases h9 : (nowS σ tb).kind = oCell
          · exact h9
          · exfalso
            revert eT12
            unfold eT
            rw [if_pos rfl,if_neg h9]
            (repeat' split) <;> decide
        have f1 := fin kc h1
        have f2 := fin kcB h2
        have lt := (List.getElem?_eq_some_iff.1 f1.2).1
        exact hsh ⟨f1.1,f2.1,(List.getElem?_inj lt hc.nd).1 (f1.2.trans f2.2.symm)⟩
      · have tw : (nowS σ ta).kind = (nowS σ tb).kind ∧ Pairs (nowS σ ta).kids (nowS σ tb).kids := by
          obtain ⟨mb,rb⟩ := R2 b h2
          rw [← eT12] at rb
          obtain ⟨ma,ra⟩ := R1 b h1
          rcases h1 with ⟨g0,_⟩ | ⟨g0,m5,g1⟩
          · exact twin hc.nd (fun _ _ e => e) ra rb kv kc (Or.inl (side_cells hc g0 kc))
          · rcases h2 with ⟨g2,_⟩ | ⟨g2,m6,g3⟩
            · have kcB : (nowS σ tb).kind ≠ oCell := fun e => by
                rw [e] at eT12
                have : eT (nowS σ ta).kind ≠ 173 := by
                  unfold eT
                  rw [if_neg kc]
                  (repeat' split) <;> decide
                exact this eT12
              exact twin hc.nd (fun _ _ e => e) ra rb kv kc (Or.inr (side_cells hc g2 kcB))
            · rw [← eT12] at g3
              exact twin hc.nd hs g1 g3 kv kc (Or.inl (far_apart hlo g1 g3 kv kc))
        rw [if_pos ⟨tw.1,kc⟩] at hr
        exact pairs_same nv tw.2 hr
    · -- not alike
      by_cases hsh : ta.kind = oCell ∧ tb.kind = oCell ∧ σ.root ta.num = σ.root tb.num
      · exact absurd ⟨by rw [shortT hsh],hE hsh⟩ hne
      · rw [if_neg hsh,if_neg (of_decide_eq_false hal)] at hr
        exact (Option.some.inj hr).symm
    · have hal' := of_decide_eq_true hal
      have kB : (nowS σ tb).kind ≠ [] := by rw [← hal'.1]; exact kv
      have kC : (nowS σ tb).kind ≠ oCell := by rw [← hal'.1]; exact hal'.2
      refine ⟨eF_four,kids_len_e (R1 bA sA).choose_spec (R2 bB sB).choose_spec hal'.1 hal'.2,fun b h => Side.kids hc ⟨_,_,ha.choose_spec⟩ h hs kv hal'.2,fun b h => ?_,fun b1 b2 h1 h2 hE hne => ?_⟩
      · obtain ⟨us,q1,q2,_,q4⟩ := Side.kids hc ⟨_,_,hb.choose_spec⟩ h (fun _ _ e => e) kB kC
        rw [← hal'.1] at q1
        rw [hal'.1]
        rw [hal'.1] at q1
        exact ⟨us,q1,q2,q4⟩
      · by_cases hsh : ta.kind = oCell ∧ tb.kind = oCell ∧ σ.root ta.num = σ.root tb.num
        · exact absurd ⟨by rw [shortT hsh],hE hsh⟩ hne
        · rw [if_neg hsh,if_pos hal'] at hr
          exact hr
theorem same_any {H H0 : Nat → Option Obj} {lo : Nat} {ca : List Nat} {σ : Sto} {d : Nat → Nat} {c1 m1 c2 m2 : Nat} (hs : ∀ k o,H0 k = some o → H k = some o) (hlo : ∀ k o,H0 k = some o → k < lo) (no : NUo H ca c1 m1 c2 m2) : ∀ f,SMC H H0 lo ca σ d c1 m1 c2 m2 f
  | 0 => fun _ _ _ _ _ _ _ _ _ _ hr => by cases hr
  | f + 1 => same_step hs hlo no (same_any hs hlo no f)
theorem nuo_of {H : Nat → Option Obj} {ca : List Nat} {σ : Sto} {d : Nat → Nat} {w w1 w2 : World} {c1 m1 c2 m2 : Nat} (hc : CSd H ca σ d w) (b1 : w1.heap[c1]? = some (.cells #[.map (some m1)] 288 (0,0))) (p1 : MP w1 m1 []) (g1 : w.grownBy w1 none) (l1 : w.heap.size ≤ m1) (b2 : w2.heap[c2]? = some (.cells #[.map (some m2)] 288 (0,0))) (p2 : MP w2 m2 []) (g2 : w1.grownBy w2 none) (l2 : w1.heap.size ≤ m2) :
    NUo H ca c1 m1 c2 m2 ∧ NU w2 c1 m1 [] ∧ NU w2 c2 m2 [] ∧ CSd H ca σ d w2 := by
  have h1 := p1.lt
  have n1 : NU w2 c1 m1 [] := NU.gb (R := fun _ => False) ⟨b1,p1⟩ (Gb.new g2) id id
  have n2 : NU w2 c2 m2 [] := ⟨b2,p2⟩
  have hc2 : CSd H ca σ d w2 := hc.grown0 (g1.trans g2)
  have off : ∀ {c m : Nat},NU w2 c m [] → c ∉ ca := fun hn hm => by
    obtain ⟨i,hi⟩ := List.getElem?_of_mem hm
    obtain ⟨v,hv,_⟩ := hc2.blk i _ hi
    rw [hn.blk] at hv
    unfold cellB at hv
    injection hv with hv
    injection hv with hv
    have := congrArg Array.size hv
    simp at this
  have ne : ∀ {c m c' m' : Nat},NU w2 c m [] → NU w2 c' m' [] → c ≠ m' := fun q1 q2 e => by
    obtain ⟨es,cl,hb⟩ := q2.mp.isMap
    have := q1.blk
    rw [e,hb] at this
    cases this
  exact ⟨⟨fun hm => by have := InAs.lt hc hm; omega,fun hm => by have := InAs.lt hc hm; have := g1.size; omega,off n1,off n2,hc.fz.none l1,hc.fz.none (Nat.le_trans g1.size l2),by omega,ne n1 n2,ne n2 n1⟩,n1,n2,hc2⟩
theorem not_old {H : Nat → Option Obj} {ca : List Nat} {σ : Sto} {d : Nat → Nat} {w : World} {b n m1 m2 : Nat} (hc : CSd H ca σ d w) (h1 : w.heap.size ≤ b) (h2 : b < n) (q1 : n ≤ m1) (q2 : n ≤ m2) : ¬ (InAs ca b ∨ b = m1 ∨ b = m2) := by
  rintro (h | h | h)
  · have := InAs.lt hc h; omega
  · omega
  · omega
theorem SMP.form {H : Nat → Option Obj} {ca : List Nat} {σ : Sto} {d : Nat → Nat} {c1 m1 c2 m2 : Nat} {r : Option (List (List UInt8) × List (List UInt8))} {w w' : World} {e : Ending} (h : SMP H ca σ d c1 m1 c2 m2 r w e w') : e = .returned (.bool r.isSome) := by
  cases r with
  | none => exact h.2.2
  | some x => exact h.2.2.1
theorem Same_any {H H0 : Nat → Option Obj} {lo : Nat} {ca : List Nat} {σ : Sto} {d : Nat → Nat} {f : Nat} {ta tb : Et} {va vb : Value} {r : Option (List (List UInt8) × List (List UInt8))} {w : World} (hs : ∀ k o,H0 k = some o → H k = some o) (hlo : ∀ k o,H0 k = some o → k < lo) (ha : ∃ m,ERep 0 H0 ca m va ta) (hb : ∃ m,ERep lo H ca m vb tb) (hr : sameS σ f ta tb [] [] = some r) (hc : CSd H ca σ d w) :
    Calls Tryz.prog 197 #[.agg #[va],.agg #[vb]] w fun e w' => e = .returned (.bool r.isSome) ∧ CSd H ca σ d w' ∧ Gb (InAs ca) w w' := by
  obtain ⟨Ta,ba,_,rfl⟩ := ha.choose_spec.val
  obtain ⟨Tb,bb,_,rfl⟩ := hb.choose_spec.val
  have Q := hid (And.intro hs (And.intro hlo (And.intro ha (And.intro hb (And.intro hr hc)))))
  clear hs hlo ha hb hr hc
  have gA : w.grownBy (w.alloc (.cells #[.iface Ta (.pointer (some ⟨ba,0,none⟩))] 109)) none := World.grownBy_alloc _ _ _
  have gB : (w.alloc (.cells #[.iface Ta (.pointer (some ⟨ba,0,none⟩))] 109)).grownBy ((w.alloc (.cells #[.iface Ta (.pointer (some ⟨ba,0,none⟩))] 109)).alloc (.cells #[.iface Tb (.pointer (some ⟨bb,0,none⟩))] 109)) none := World.grownBy_alloc _ _ _
  have nA := (gB.block _ (by simp) (by simp)).trans (heap_alloc_new w (.cells #[.iface Ta (.pointer (some ⟨ba,0,none⟩))] 109))
  have nB := heap_alloc_at (w.alloc (.cells #[.iface Ta (.pointer (some ⟨ba,0,none⟩))] 109)) (.cells #[.iface Tb (.pointer (some ⟨bb,0,none⟩))] 109) (w.heap.size + 1) (by simp)
  have gW := gA.trans gB
  clear gA gB
  go_enter Tryz.func197,Tryz.ntmps197
  go_wp2_with fail
  generalize (w.alloc (.cells #[.iface Ta (.pointer (some ⟨ba,0,none⟩))] 109)).alloc (.cells #[.iface Tb (.pointer (some ⟨bb,0,none⟩))] 109) = W0 at *
  have s1 := blk_c nA 0 rfl
  have s2 := blk_c nB 0 rfl
  have l1 := lt_of_block nA
  have l2 := lt_of_block nB
  have C1 := hid (inOrder_q W0.drew)
  have S2 := hid (And.intro s1 s2)
  have GW := hid gW
  clear nA nB gW
  go_region_held3 (fun wx => wx.cell? ⟨w.heap.size,0,none⟩ = some (.iface Ta (.pointer (some ⟨ba,0,none⟩))) ∧ wx.cell? ⟨w.heap.size + 1,0,none⟩ = some (.iface Tb (.pointer (some ⟨bb,0,none⟩)))) (first | exact S2.out | exact S5.out | exact S4.out | exact S3.out | go_keep) (first
    | (go_at_call 88; refine C1.out.mono ?_; rintro e w1 ⟨c1,m1,rfl,b1,p1,g1,q1⟩; have g1' := (Gb.new (R := fun _ => False) g1).drewL; have S3 := hid (And.intro (g1'.cell s1 l1 id) (g1'.cell s2 l2 id)); have C2 := hid (inOrder_q w1); have N1 := hid (And.intro b1 (And.intro p1 (And.intro (show W0.grownBy w1 none from ⟨g1.os,g1.tape,g1.output,g1.size,g1.block⟩) q1))); clear b1 p1 g1 q1 g1'; unfold numV at *)
    | (go_at_call 88; refine C2.out.mono ?_; rintro e w2 ⟨c2,m2,rfl,b2,p2,g2,q2⟩; have g2' := Gb.new (R := fun _ => False) g2; have S4 := hid (And.intro (g2'.cell S3.out.1 (Nat.lt_of_lt_of_le l1 N1.out.2.2.1.size) id) (g2'.cell S3.out.2 (Nat.lt_of_lt_of_le l2 N1.out.2.2.1.size) id)); have NO := hid (nuo_of (Q.out.2.2.2.2.2.grown0 GW.out) N1.out.1 N1.out.2.1 N1.out.2.2.1 N1.out.2.2.2 b2 p2 g2 q2); have CO := hid (same_any Q.out.1 Q.out.2.1 NO.out.1 f ta tb _ _ [] [] r w2 Q.out.2.2.1 Q.out.2.2.2.1 Q.out.2.2.2.2.1 NO.out.2.2.2 NO.out.2.1 NO.out.2.2.1); have G2 := hid (And.intro q2 (And.intro g2.size ((GW.out.trans N1.out.2.2.1).trans g2))); clear b2 p2 g2 q2 g2'; unfold smV numV at *)
    | (go_at_call 206; refine CO.out.mono ?_; rintro e w3 h3; have hq1 : W0.heap.size ≤ m1 := N1.out.2.2.2; have hq2 : W0.heap.size ≤ m2 := (Nat.le_trans N1.out.2.2.1.size G2.out.1); have nA5 := not_old (b := w.heap.size) Q.out.2.2.2.2.2 (Nat.le_refl _) l1 hq1 hq2; have nB5 := not_old (b := w.heap.size + 1) Q.out.2.2.2.2.2 (Nat.le_succ _) l2 hq1 hq2; have S5 := hid (And.intro (h3.2.1.cell S4.out.1 (Nat.lt_of_lt_of_le l1 (Nat.le_trans N1.out.2.2.1.size G2.out.2.1)) nA5) (h3.2.1.cell S4.out.2 (Nat.lt_of_lt_of_le l2 (Nat.le_trans N1.out.2.2.1.size G2.out.2.1)) nB5)); have e3 := h3.form; have H3 := hid (And.intro h3 (And.intro hq1 hq2)); clear h3 hq1 hq2 nA5 nB5; subst e3))
  go_wp2
  go_ret
  refine ⟨rfl,H3.out.1.1,(Gb.new G2.out.2.2).trans H3.out.1.2.1 (fun i e => ?_)⟩
  rcases e with e | e | e
  · exact Or.inl e
  · right; have := GW.out.size; have := H3.out.2.1; omega
  · right; have := GW.out.size; have := H3.out.2.2; omega
def reachS (σ : Sto) (nb : List (List UInt8 × Et)) : Option (List Nat) := addAllS (addS σ 400) (nb.map (·.2)) []
theorem mk_reach (w : World) : (Instr.makeMap 267 none).run Tryz.prog w = .ok (.map (some w.heap.size)) (w.alloc (.map #[] 0)) := by kernel_rfl
def REP (C : TC) (H : Nat → Option Obj) (ca : List Nat) (σ : Sto) (d : Nat → Nat) (nb : List (List UInt8 × Et)) (nv : Value) (vs : List NE) (L : List Nat) (w : World) (e : Ending) (w' : World) : Prop :=
  ∃ mb,e = .returned (.map (some mb)) ∧ mb ∉ ca ∧ RAt w' mb L ∧ TSv C H ca σ d nb nv vs w' ∧ Gb (InAs ca) w w'
theorem reached_t {C : TC} {H : Nat → Option Obj} {ca : List Nat} {σ : Sto} {d : Nat → Nat} {nb : List (List UInt8 × Et)} {nv : Value} {vs : List NE} {w : World} {L : List Nat} (h : TSv C H ca σ d nb nv vs w) (hr : reachS σ nb = some L) :
    Calls Tryz.prog 184 #[CP C.tb] w (REP C H ca σ d nb nv vs L w) := by
  obtain ⟨a,cap,e1⟩ := h.nr.slice
  have hI := h.nr.nis
  have c4 : w.cell? ⟨C.tb,4,none⟩ = some nv := by have := h.ms.bk; unfold TB TC.r at this; simp [World.cell?,this]
  have hf := h.nr.few
  have hfl := h.nr.len
  have htl := h.ms.bk.lt
  have hmb : H w.heap.size = none := h.ms.cs.fz.none (Nat.le_refl _)
  have hma : w.heap.size ∉ ca := fun hm => by have := InAs.lt h.ms.cs hm; omega
  have hmk := mk_reach w
  have ga : w.grownBy (w.alloc (.map #[] 0)) none := World.grownBy_alloc _ _ _
  have hc1 : CSd H ca σ d (w.alloc (.map #[] 0)) := h.ms.cs.grown0 ga
  have hr1 : RAt (w.alloc (.map #[] 0)) w.heap.size [] := GM.new
  have hn : vs.length ≤ 1000 := by omega
  have Q := hid (And.intro h (And.intro ga (And.intro hc1 hr1)))
  have HI := hid hI
  have HR := hid (show addAllS (addS σ 400) ((nb.map (·.2)).drop 0) [] = some L from hr)
  have HE := hid e1
  rw [e1] at c4
  clear h hr hI ga hc1 hr1 hf hfl e1
  unfold CP
  go_enter Tryz.func184,Tryz.ntmps184
  go_wp2_with fail
  go_loopg [12] (vs.length + 1) (fun gh i wi => ∃ (j : Nat) (Lj : List Nat),j ≤ vs.length ∧ i = .int .i64 j ∧ gh = vs.length - j + 1 ∧ Hid (addAllS (addS σ 400) ((nb.map (·.2)).drop j) Lj = some L) ∧ Hid ((CSd H ca σ d wi ∧ RAt wi w.heap.size Lj ∧ ROk σ Lj) ∧ Gb (fun k => InAs ca k ∨ k = w.heap.size) (w.alloc (.map #[] 0)) wi))
  case atStart => exact ⟨0,_,by omega,rfl,by omega,HR,hid ⟨⟨Q.out.2.2.1,Q.out.2.2.2,fun n hn => by cases hn⟩,Gb.refl _ _⟩⟩
  case round =>
    obtain ⟨j,Lj,hj,rfl,hgj,HJ,HG⟩ := hrel
    by_cases hjl : j < vs.length
    · rcases HI.out with ⟨_,e⟩ | ⟨b,cap',e,hb,hc⟩
      · rw [e] at hjl; simp at hjl
      have eo : a = some ⟨b,0,none⟩ := by
        have e3 := HE.out.symm.trans e
        injection e3
      subst eo
      obtain ⟨p,hp⟩ : ∃ p,vs[j]? = some p := ⟨_,List.getElem?_eq_getElem hjl⟩
      obtain ⟨q,hq⟩ : ∃ q,nb[j]? = some q := ⟨_,List.getElem?_eq_getElem (by rw [← Q.out.1.nr.len]; exact hjl)⟩
      have hat : NE.at vs j = p := by unfold NE.at; rw [hp]; rfl
      have hoff := Q.out.1.nr.off b (by rw [e]; rfl)
      have hg := HG.out.2
      have hw1 : (w.alloc (.map #[] 0)).heap.size = w.heap.size + 1 := by simp
      have nR : ¬ (InAs ca b ∨ b = w.heap.size) := fun e => e.elim (fun e => hoff.2.1 e) (fun e => by omega)
      have hcj := hc j hjl
      rw [hat] at hcj
      have d1 : wr.cell? ⟨b,j * 2,none⟩ = some (.string (B p.1)) := hg.cell ((Gb.new Q.out.2.1 (R := fun _ => False)).cell hcj.1 hb id) (by omega) nR
      have d2 : wr.cell? ⟨b,j * 2 + 1,none⟩ = some (.iface p.2.1 (.pointer (some ⟨p.2.2,0,none⟩))) := hg.cell ((Gb.new Q.out.2.1 (R := fun _ => False)).cell hcj.2 hb id) (by omega) nR
      have her : ER H ca (.iface p.2.1 (.pointer (some ⟨p.2.2,0,none⟩))) q.2 := (Q.out.1.nr.is j p q hp hq).2
      have hjk : j < (nb.map (·.2)).length := by rw [List.length_map,← Q.out.1.nr.len]; exact hjl
      have hd : (nb.map (·.2)).drop j = q.2 :: (nb.map (·.2)).drop (j + 1) := by
        rw [List.drop_eq_getElem_cons hjk]
        congr 1
        rw [List.getElem_map]
        have := List.getElem?_eq_some_iff.1 hq
        obtain ⟨_,h9⟩ := this
        rw [h9]
      have hjj := HJ.out
      rw [hd,addAllS] at hjj
      cases er : addS σ 400 q.2 Lj with
      | none => rw [er] at hjj; cases hjj
      | some Lk =>
        rw [er] at hjj
        have J2 := hid (show addAllS (addS σ 400) ((nb.map (·.2)).drop (j + 1)) Lk = some L from hjj)
        have E2 := hid (And.intro her er)
        clear hp hq hat hoff hg hw1 nR hcj her hjk hd hjj er HJ hc e hb
        have gn : wr.grownBy (wr.alloc (.cells #[.string (B p.1),.iface p.2.1 (.pointer (some ⟨p.2.2,0,none⟩))] 338)) none := World.grownBy_alloc _ _ _
        have CON := hid (reach_any hmb hma 400 q.2 _ Lj Lk (wr.alloc (.cells #[.string (B p.1),.iface p.2.1 (.pointer (some ⟨p.2.2,0,none⟩))] 338)) E2.out.1 E2.out.2 (HG.out.1.1.grown0 gn) (GM.gb HG.out.1.2.1 (R := fun _ => False) (Gb.new gn) id) HG.out.1.2.2)
        have GN := hid (show Gb (fun k => InAs ca k ∨ k = w.heap.size) (w.alloc (.map #[] 0)) _ from HG.out.2.tr (Gb.new gn))
        clear gn
        go_wp2_with fail
        refine CON.out.mono ?_
        rintro e w5 ⟨⟨z,rfl⟩,c5,f5,o5,g5⟩
        have G5 := hid (And.intro (And.intro c5 (And.intro f5 o5)) (GN.out.tr g5))
        clear c5 f5 o5 g5 CON
        go_wp2_with fail
        go_roundg (vs.length - (j + 1) + 1)
        case measure => omega
        case rel => exact ⟨j + 1,Lk,by omega,by go_num,rfl,J2,G5⟩
    · have hje : j = vs.length := by omega
      have hR : Lj = L := by
        have h3 := HJ.out
        rw [hje,List.drop_eq_nil_of_le (by rw [List.length_map,← Q.out.1.nr.len]; exact Nat.le_refl _)] at h3
        exact Option.some.inj h3
      have gA : Gb (InAs ca) w wr := (Gb.new Q.out.2.1).trans HG.out.2 (fun i e => e.elim Or.inl (fun e => Or.inr (by omega)))
      have Q9 := hid (show REP C H ca σ d nb nv vs L w (.returned (.map (some w.heap.size))) wr from ⟨_,rfl,hma,by rw [← hR]; exact HG.out.1.2.1,Q.out.1.cs HG.out.1.1 gA,gA⟩)
      subst hje
      clear HJ hR gA
      go_wp2
      go_ret
      exact Q9.out
end Go.Proofs.YtcdijppegfcoaabGreatDoor
namespace Go.Proofs.YtcdijppegfcoaabGreatDoor
open Go.RowKit Go.Extern.Stop Go.Stop Go.Extern
theorem isTypeOf (v : Value) (w : World) : (Extern.ReflectliteType.typeOf #[.iface 372 v]).run Tryz.prog w = .ok (.iface 229 (.agg #[.pointer (some ⟨13,372,none⟩)])) w := by kernel_rfl
theorem isComparable (w : World) : ((Extern.ReflectliteType.method fun t => do Extern.Rtype.noPackHeld "Comparable" t; Functor.map (fun a => Value.bool a.comparable) (typeInfo t)) #[.agg #[.pointer (some ⟨13,372,none⟩)]]).run Tryz.prog w = .ok (.bool true) w := by kernel_rfl
theorem isMethodComparable (v : Value) (w : World) : (Go.method 502 229 v "Comparable").run Tryz.prog w = .ok (246,v) w := by kernel_rfl
theorem isComp : (Tryz.prog.info? 372).map (·.comparable) = some true := by kernel_rfl
theorem isSize : (Tryz.prog.info? 390).map (·.size) = some 1 := by kernel_rfl
theorem noIsE (v : Value) (xT : TypeId) (w : World) : (Instr.typeAssert (.iface 372 v) xT 239 true).run Tryz.prog w = .ok (.tuple #[.nilIface,.bool false]) w := run_typeAssert_lacksB Tryz.underlying239 (by kernel_rfl) (by kernel_rfl) v xT w
theorem noUnwrapE (v : Value) (xT : TypeId) (w : World) : (Instr.typeAssert (.iface 372 v) xT 142 true).run Tryz.prog w = .ok (.tuple #[.nilIface,.bool false]) w := run_typeAssert_lacksB Tryz.underlying142 (by kernel_rfl) (by kernel_rfl) v xT w
theorem noUnwrapsE (v : Value) (xT : TypeId) (w : World) : (Instr.typeAssert (.iface 372 v) xT 236 true).run Tryz.prog w = .ok (.tuple #[.nilIface,.bool false]) w := run_typeAssert_lacksB Tryz.underlying236 (by kernel_rfl) (by kernel_rfl) v xT w
theorem noIsW (v : Value) (xT : TypeId) (w : World) : (Instr.typeAssert (.iface 83 v) xT 239 true).run Tryz.prog w = .ok (.tuple #[.nilIface,.bool false]) w := run_typeAssert_lacksB Tryz.underlying239 (by kernel_rfl) (by kernel_rfl) v xT w
theorem hasUnwrapW (v : Value) (xT : TypeId) (w : World) : (Instr.typeAssert (.iface 83 v) xT 142 true).run Tryz.prog w = .ok (.tuple #[.iface 83 v,.bool true]) w := run_typeAssert_hasB Tryz.underlying142 (by kernel_rfl) v xT w
theorem methodUnwrap (v : Value) (w : World) : (Go.method 502 83 v "Unwrap").run Tryz.prog w = .ok (237,v) w := by kernel_rfl
theorem is_same (a : Addr) (w : World) :
    Calls Tryz.prog 39 #[.iface 372 (.pointer (some a)),.iface 372 (.pointer (some a))] w fun e w' => e = .returned (.bool true) ∧ w' = w := by
  obtain ⟨i,hi,hcmp⟩ := Option.map_eq_some_iff.1 isComp
  obtain ⟨j,hj,hjs⟩ := Option.map_eq_some_iff.1 isSize
  have h8 := @run_callFunc_extern Tryz.prog 61 _ Extern.ReflectliteType.typeOf Tryz.func61 (by kernel_rfl) (by kernel_rfl) (by kernel_rfl) (by kernel_rfl)
  have h32 := @run_callFunc_extern Tryz.prog 246 _ (Extern.ReflectliteType.method fun t => do Extern.Rtype.noPackHeld "Comparable" t; pure (.bool (← typeInfo t).comparable)) Tryz.func246 (by kernel_rfl) (by kernel_rfl) (by kernel_rfl) (by kernel_rfl)
  have tT := isTypeOf
  have cT := isComparable
  have mR := isMethodComparable
  have heq := run_eql_iface_ptr_same (P := Tryz.prog) w a Tryz.underlying56 Tryz.underlying372 hi hcmp hj
  go_enter Tryz.func39,Tryz.ntmps39
  go_wp2
  refine wp_loop_rounds 1 ?_
  rw [rounds_succ]
  go_wp2
  go_ret
  exact ⟨rfl,rfl⟩
theorem is_other (a b : Addr) (ca cb : Array Value) (ta tb : TypeId) (w : World) (hne : a ≠ b) (ha : w.heap[a.block]? = some (.cells ca ta (0,0))) (hb : w.heap[b.block]? = some (.cells cb tb (0,0))) :
    Calls Tryz.prog 39 #[.iface 372 (.pointer (some a)),.iface 372 (.pointer (some b))] w fun e w' => e = .returned (.bool false) ∧ w' = w := by
  obtain ⟨i,hi,hcmp⟩ := Option.map_eq_some_iff.1 isComp
  obtain ⟨j,hj,hjs⟩ := Option.map_eq_some_iff.1 isSize
  have h8 := @run_callFunc_extern Tryz.prog 61 _ Extern.ReflectliteType.typeOf Tryz.func61 (by kernel_rfl) (by kernel_rfl) (by kernel_rfl) (by kernel_rfl)
  have h32 := @run_callFunc_extern Tryz.prog 246 _ (Extern.ReflectliteType.method fun t => do Extern.Rtype.noPackHeld "Comparable" t; pure (.bool (← typeInfo t).comparable)) Tryz.func246 (by kernel_rfl) (by kernel_rfl) (by kernel_rfl) (by kernel_rfl)
  have tT := isTypeOf
  have cT := isComparable
  have mR := isMethodComparable
  have nE := noIsE
  have uE := noUnwrapE
  have vE := noUnwrapsE
  have nW := noIsW
  have uW := hasUnwrapW
  have mU := methodUnwrap
  have heq := run_eql_iface_ptr_other (P := Tryz.prog) w Tryz.underlying56 Tryz.underlying372 hi hcmp hj (by rw [hjs]; decide) hne ha hb
  go_enter Tryz.func39,Tryz.ntmps39
  go_wp2
  refine wp_loop_rounds 1 ?_
  rw [rounds_succ]
  go_wp2
  go_ret
  exact ⟨rfl,rfl⟩
end Go.Proofs.YtcdijppegfcoaabGreatDoor
