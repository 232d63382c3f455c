import Derived.Test.YtcdijppegfcoaabGreatDoorZC18
set_option maxRecDepth 100000
set_option maxHeartbeats 2000000
namespace Go.Proofs.YtcdijppegfcoaabGreatDoor
open Go.RowKit
theorem find_name {C : TC} {nm : List UInt8} {dep pos : Value} {b : Nat} {σ : Sto} {nb : List (List UInt8 × Et)} {σ' : Sto} {c : Nat} {H : Nat → Option Obj} {ca : List Nat} {d : Nat → Nat} {nv : Value} {vs : List NE} {w : World}
    (hb : H b = some (.cells #[dep,.string (B nm),pos] 163 (0,0))) (hr : nameT C.ge nm nb σ = some (σ',c)) (h : TSv C H ca σ d nb nv vs w) :
    Calls Tryz.prog 120 #[CP C.tb,.iface 157 (.pointer (some ⟨b,0,none⟩))] w (TSP C H ca σ' c nb w) := by
  unfold nameT at hr
  split at hr
  case isFalse => cases hr
  rename_i hl
  cases i1 : lookT nb C.ge nm with
  | none => rw [i1] at hr; cases hr
  | some t =>
  rw [i1] at hr
  simp only [] at hr
  cases i2 : instS 400 t σ [] with
  | none => rw [i2] at hr; cases hr
  | some r2 =>
  obtain ⟨σ1,g1,c1⟩ := r2
  rw [i2] at hr
  cases hr
  have CS := hid (scheme_t h.drew hl i1)
  have hbw := h.ms.cs.fz _ _ hb
  have k1 := blk_c hbw 1 rfl
  have hbl := lt_of_block hbw
  have Q := hid (And.intro h i2)
  have a0 := xA_Name_Name b
  clear hb i1 i2 h hbw hl
  unfold CP at *
  go_enter Tryz.func120,Tryz.ntmps120
  go_wp2_with fail
  go_region_with (first
    | (go_at_call 153; refine CS.out.mono ?_; rintro e w1 ⟨v1,rfl,er1,gr1⟩; have CI := hid (Instance_any er1 Q.out.2 (Q.out.1.drew.grown gr1).ms); have Q1 := hid gr1; obtain ⟨T1,b1,_,rfl⟩ := er_val er1; clear gr1 er1; unfold CP at CI)
    | (go_at_call 152; refine CI.out.mono ?_; rintro e w2 ⟨H2,ca2,d2,x,rfl,ex,m2,mx,g2⟩; have Q2 := hid (show TSP C H ca σ' c nb w (.returned (CP x)) w2 from ⟨H2,ca2,d2,x,nv,vs,rfl,ex,(Q.out.1.drew.grown Q1.out).step m2 mx g2,mx.low Q1.out.size,(Gb.new Q1.out).drewL.tr ((Q.out.1.drew.grown Q1.out).gbase g2)⟩); clear ex m2 mx g2; unfold CP at *))
  all_goals go_wp2
  all_goals go_ret
  all_goals exact Q2.out
theorem find_fun {C : TC} {P : Ex → List (List UInt8 × Et) → Sto → Option (Sto × Nat)} (hP : PAC C P) {e : Ex} {u dep : Value} {p : List UInt8} {b m : Nat} {σ : Sto} {nb : List (List UInt8 × Et)} {σ' : Sto} {c : Nat} {H : Nat → Option Obj} {ca : List Nat} {d : Nat → Nat} {nv : Value} {vs : List NE} {w : World}
    (hb : H b = some (.cells #[dep,.string (B p),u] 180 (0,0))) (hp : PRep m H u e) (hr : funT P p e nb σ = some (σ',c)) (h : TSv C H ca σ d nb nv vs w) :
    Calls Tryz.prog 120 #[CP C.tb,.iface 178 (.pointer (some ⟨b,0,none⟩))] w (TSP C H ca σ' c nb w) := by
  have CF := hid (fun_t hP hb hp hr h)
  have a0 := xA_Fun_Name b
  have a1 := xA_Fun_Fun b
  clear hb hp hr h hP
  unfold CP at *
  go_enter Tryz.func120,Tryz.ntmps120
  go_wp2_with fail
  refine CF.out.mono ?_
  rintro e w9 h9
  have H9 := hid h9
  obtain ⟨_,_,_,x9,_,_,rfl,_⟩ := h9
  clear CF
  unfold CP at *
  go_wp2
  go_ret
  exact H9.out
theorem find_apply {C : TC} {P : Ex → List (List UInt8 × Et) → Sto → Option (Sto × Nat)} (hP : PAC C P) {e1 e2 : Ex} {u1 u2 dep : Value} {b m : Nat} {σ : Sto} {nb : List (List UInt8 × Et)} {σ' : Sto} {c : Nat} {H : Nat → Option Obj} {ca : List Nat} {d : Nat → Nat} {nv : Value} {vs : List NE} {w : World}
    (hb : H b = some (.cells #[dep,u1,u2] 197 (0,0))) (hp1 : PRep m H u1 e1) (hp2 : PRep m H u2 e2) (hr : applyT P e1 e2 nb σ = some (σ',c)) (h : TSv C H ca σ d nb nv vs w) :
    Calls Tryz.prog 120 #[CP C.tb,.iface 195 (.pointer (some ⟨b,0,none⟩))] w (TSP C H ca σ' c nb w) := by
  have CF := hid (apply_t hP hb hp1 hp2 hr h)
  have a0 := xA_Apply_Name b
  have a1 := xA_Apply_Fun b
  have a2 := xA_Apply_If b
  have a3 := xA_Apply_Let b
  have a4 := xA_Apply_LetRec b
  have a5 := xA_Apply_Apply b
  clear hb hp1 hp2 hr h hP
  unfold CP at *
  go_enter Tryz.func120,Tryz.ntmps120
  go_wp2_with fail
  refine CF.out.mono ?_
  rintro e w9 h9
  have H9 := hid h9
  obtain ⟨_,_,_,x9,_,_,rfl,_⟩ := h9
  clear CF
  unfold CP at *
  go_wp2
  go_ret
  exact H9.out
theorem find_pair {C : TC} {P : Ex → List (List UInt8 × Et) → Sto → Option (Sto × Nat)} (hP : PAC C P) {e1 e2 : Ex} {u1 u2 dep : Value} {b m : Nat} {σ : Sto} {nb : List (List UInt8 × Et)} {σ' : Sto} {c : Nat} {H : Nat → Option Obj} {ca : List Nat} {d : Nat → Nat} {nv : Value} {vs : List NE} {w : World}
    (hb : H b = some (.cells #[dep,u1,u2] 200 (0,0))) (hp1 : PRep m H u1 e1) (hp2 : PRep m H u2 e2) (hr : pairT P e1 e2 nb σ = some (σ',c)) (h : TSv C H ca σ d nb nv vs w) :
    Calls Tryz.prog 120 #[CP C.tb,.iface 198 (.pointer (some ⟨b,0,none⟩))] w (TSP C H ca σ' c nb w) := by
  unfold pairT at hr
  cases i1 : P e1 nb σ with
  | none => rw [i1] at hr; cases hr
  | some r1 =>
  obtain ⟨σ1,c1⟩ := r1
  rw [i1] at hr
  simp only [] at hr
  cases i2 : P e2 nb σ1 with
  | none => rw [i2] at hr; cases hr
  | some r2 =>
  obtain ⟨σ2,c2⟩ := r2
  rw [i2] at hr
  simp only [] at hr
  obtain ⟨T1,b1,rfl⟩ := hp1.val
  obtain ⟨T2,b2,rfl⟩ := hp2.val
  have CA := hid (hP e1 _ m σ nb σ1 c1 H ca d nv vs w hp1 i1 h)
  have hbw := h.ms.cs.fz _ _ hb
  have k1 := blk_c hbw 1 rfl
  have Q := hid (And.intro hb (And.intro hp2 (And.intro i2 (And.intro hr hP))))
  have a0 := xA_Pair_Name b
  have a1 := xA_Pair_Fun b
  have a2 := xA_Pair_If b
  have a3 := xA_Pair_Let b
  have a4 := xA_Pair_LetRec b
  have a5 := xA_Pair_Apply b
  have a6 := xA_Pair_Pair b
  clear hP hb hp1 hp2 i1 i2 hr h hbw
  unfold CP at *
  go_enter Tryz.func120,Tryz.ntmps120
  go_wp2_with fail
  refine CA.out.mono ?_
  rintro e w1 ⟨H1,ca1,d1,x1,nv1,vs1,rfl,ex1,t1,mx1,g1⟩
  have hb1 := mx1.ext _ _ Q.out.1
  have hbw1 := t1.ms.cs.fz _ _ hb1
  have k2 := blk_c hbw1 2 rfl
  have hbl1 := lt_of_block hbw1
  have CB := hid (Q.out.2.2.2.2 e2 _ m σ1 nb σ2 c2 H1 ca1 d1 nv1 vs1 w1.drew (mx1.prep Q.out.2.1) Q.out.2.2.1 t1.drew)
  have Q1 := hid (And.intro ex1 (And.intro mx1 g1))
  clear ex1 t1 mx1 g1 CA hb1 hbw1
  unfold CP at *
  go_wp2_with fail
  go_region_with (first
    | (go_at_call 75; refine CB.out.mono ?_; rintro e w2 ⟨H2,ca2,d2,x2,nv2,vs2,rfl,ex2,t2,mx2,g2⟩; have CM := hid ((t2.made (cs := #[CI x1,CI x2]) (T := 319) (or_pair (get_pre mx2.pre Q1.out.1) ex2 onto1_at) Q.out.2.2.2.1).mono fun e w9 h9 => TSP.low (H := H) (ca := ca) (w := w) h9 (Q1.out.2.1.trans mx2 Q1.out.2.2.size) (Q1.out.2.2.tr g2.drewL)); clear ex2 t2 mx2 g2; unfold CI CP at *)
    | (go_at_call 160; refine CM.out.mono ?_; rintro e w9 h9; have H9 := hid h9; obtain ⟨_,_,_,x9,_,_,rfl,_⟩ := h9; unfold CP at *))
  all_goals go_wp2
  all_goals go_ret
  all_goals exact H9.out
theorem find_int {C : TC} {b : Nat} {σ : Sto} {nb : List (List UInt8 × Et)} {σ' : Sto} {c : Nat} {H : Nat → Option Obj} {ca : List Nat} {d : Nat → Nat} {nv : Value} {vs : List NE} {w : World}
    (hr : ofT (some ⟨kInt,[],0,[]⟩) σ = some (σ',c)) (h : TSv C H ca σ d nb nv vs w) :
    Calls Tryz.prog 120 #[CP C.tb,.iface 175 (.pointer (some ⟨b,0,none⟩))] w (TSP C H ca σ' c nb w) := by
  have a1 := nA_Name b
  have a2 := nA_Fun b
  have a3 := nA_If b
  have a4 := nA_Let b
  have a5 := nA_LetRec b
  have a6 := nA_Apply b
  have a7 := nA_Pair b
  have CM := hid (h.made (cs := #[.string (B kInt)]) (T := 277) (or_int onto1_at) hr)
  clear hr h
  unfold CP kInt at *
  go_enter Tryz.func120,Tryz.ntmps120
  go_wp2_with fail
  refine CM.out.mono ?_
  rintro e w9 h9
  have H9 := hid h9
  obtain ⟨_,_,_,x9,_,_,rfl,_⟩ := h9
  clear CM
  unfold CP at *
  go_wp2
  go_ret
  exact H9.out
theorem kids1 {m : Nat} {H : Nat → Option Obj} {e : Ex} {u : Value} (hl : e.kids.length = 1) (hk : ∀ (i : Nat) (y : Ex) (v : Value),[u][i]? = some v → e.kids[i]? = some y → PRep m H v y) : ∃ y,e.kids = [y] ∧ PRep m H u y := by
  match he : e.kids,hl with
  | [y],_ => exact ⟨y,rfl,hk 0 y u rfl (by rw [he]; rfl)⟩
theorem kids2' {m : Nat} {H : Nat → Option Obj} {e : Ex} {u v : Value} (hl : e.kids.length = 2) (hk : ∀ (i : Nat) (y : Ex) (x : Value),[u,v][i]? = some x → e.kids[i]? = some y → PRep m H x y) : ∃ y z,e.kids = [y,z] ∧ PRep m H u y ∧ PRep m H v z := by
  match he : e.kids,hl with
  | [y,z],_ => exact ⟨y,z,rfl,hk 0 y u rfl (by rw [he]; rfl),hk 1 z v rfl (by rw [he]; rfl)⟩
theorem fic_any {C : TC} {P : Ex → List (List UInt8 × Et) → Sto → Option (Sto × Nat)} (hP : PAC C P) (e : Ex) : FIC C (fun e nb σ => findT P C.ge e nb σ) e := by
  intro v m σ nb σ' c H ca d nv vs w hp hr h
  simp only [] at hr
  cases m with
  | zero => exact absurd hp id
  | succ m =>
  obtain ⟨b,us,rfl,hn,hl,hk⟩ := hp
  unfold findT at hr
  rcases hn with ⟨h0,t,h1,h2,h3,h4⟩ | ⟨h0,t,h1,h2,h3,h4⟩ | ⟨h0,t,u,h1,h2,rfl,h4⟩ | ⟨h0,u,v,y,h1,h2,h4⟩ | ⟨h0,t,u,v,h1,h2,h3,h4⟩ | ⟨h0,us,u,gv,h1,h2,h3,h4,h5,h6⟩ | ⟨h0,u,v,h1,rfl,h4⟩ | ⟨h0,u,v,h1,rfl,h4⟩
  · rw [if_pos h0,h1] at hr
    rw [h0]
    exact find_name h4 hr h
  · rw [h0,if_neg (by decide),if_neg (by decide),if_neg (by decide),if_neg (by decide),if_pos rfl] at hr
    rw [h0]
    exact find_int hr h
  · obtain ⟨y,hy,hp⟩ := kids1 h2 hk
    rw [h0,if_neg (by decide),if_pos rfl,h1,hy] at hr
    rw [h0]
    exact find_fun hP h4 hp hr h
  · rw [h0,if_neg (by decide),if_neg (by decide),if_neg (by decide),if_neg (by decide),if_neg (by decide)] at hr
    cases hr
  · rw [h0,if_neg (by decide),if_neg (by decide),if_neg (by decide),if_neg (by decide),if_neg (by decide)] at hr
    cases hr
  · rw [h0,if_neg (by decide),if_neg (by decide),if_neg (by decide),if_neg (by decide),if_neg (by decide)] at hr
    cases hr
  · obtain ⟨y,z,hy,hp1,hp2⟩ := kids2' h1 hk
    rw [h0,if_neg (by decide),if_neg (by decide),if_pos rfl,hy] at hr
    rw [h0]
    exact find_apply hP h4 hp1 hp2 hr h
  · obtain ⟨y,z,hy,hp1,hp2⟩ := kids2' h1 hk
    rw [h0,if_neg (by decide),if_neg (by decide),if_neg (by decide),if_pos rfl,hy] at hr
    rw [h0]
    exact find_pair hP h4 hp1 hp2 hr h
theorem part_any {C : TC} : ∀ f,PAC C (partT C.ge f)
  | 0 => fun _ _ _ _ _ _ _ _ _ _ _ _ _ _ hr _ => by cases hr
  | f + 1 => part_t (fun e => fic_any (part_any f) e)
def ncB : Nat → Et → Bool
  | 0,_ => false
  | f + 1,t => decide (t.kind ≠ oCell) && t.kids.all (ncB f)
theorem er_nc {H : Nat → Option Obj} {ca : List Nat} : ∀ (f m : Nat) (v : Value) (t : Et),ncB f t = true → ERep 0 H ca m v t → ERep 0 H [] m v t
  | 0,_,_,_,h,_ => by cases h
  | f + 1,0,_,_,_,h => absurd h id
  | f + 1,m + 1,v,t,hn,h => by
    simp only [ncB,Bool.and_eq_true,decide_eq_true_eq,List.all_eq_true] at hn
    obtain ⟨h0,hk⟩ := hn
    obtain ⟨b,h⟩ := h
    refine ⟨b,?_⟩
    rcases h with ⟨h1,_⟩ | h | h | ⟨h1,hlo,a,u,h2,h3,h4,h5⟩ | ⟨h1,hlo,a,a2,u,z,h2,h3,h4,h5,h6⟩ | ⟨h1,hlo,a,a2,u,z,h2,h3,h4,h5,h6⟩
    · exact absurd h1 h0
    · exact Or.inr (Or.inl h)
    · exact Or.inr (Or.inr (Or.inl h))
    · exact Or.inr (Or.inr (Or.inr (Or.inl ⟨h1,hlo,a,u,h2,h3,h4,er_nc f m u a (hk a (by rw [h2]; simp)) h5⟩)))
    · exact Or.inr (Or.inr (Or.inr (Or.inr (Or.inl ⟨h1,hlo,a,a2,u,z,h2,h3,h4,er_nc f m u a (hk a (by rw [h2]; simp)) h5,er_nc f m z a2 (hk a2 (by rw [h2]; simp)) h6⟩))))
    · exact Or.inr (Or.inr (Or.inr (Or.inr (Or.inr ⟨h1,hlo,a,a2,u,z,h2,h3,h4,er_nc f m u a (hk a (by rw [h2]; simp)) h5,er_nc f m z a2 (hk a2 (by rw [h2]; simp)) h6⟩))))
theorem TSv.start {H : Nat → Option Obj} {w : World} {fuel : Int} {each : Value} {mb : Nat} {ge : List (List UInt8 × Et)} (hz : Fz H w) (hge : GE H [] w mb ge) :
    TSv ⟨w.heap.size,.int .i64 fuel,each,mb,w.heap.size,ge,[]⟩ H [] ⟨[],[]⟩ (fun _ => 0) [] (.slice none 0 0) [] (w.alloc (.cells #[.int .i64 0,.int .i64 fuel,each,.map (some mb),.slice none 0 0] 171)) := by
  have g : w.grownBy (w.alloc (.cells #[.int .i64 0,.int .i64 fuel,each,.map (some mb),.slice none 0 0] 171)) none := World.grownBy_alloc _ _ _
  have hlt : mb < w.heap.size := by
    obtain ⟨gv,h1,_⟩ := hge
    exact h1.lt
  refine ⟨⟨CSd.nil (hz.alloc _),?_,hz.none (Nat.le_refl _),by simp⟩,⟨rfl,World.ownsRow_nil _ _ _ _,(fun i p q e _ => by cases e),(fun k hk => by cases hk),Nat.zero_le _⟩,hge.step (R := fun _ => False) (MX.refl _ _ w) (Gb.new g) id,hlt,⟨Nat.le_refl _,by simp⟩,(fun a ha => by cases ha),(fun g hg => by cases hg),fun g hg => by cases hg⟩
  unfold TB TC.r
  exact heap_alloc_new _ _
end Go.Proofs.YtcdijppegfcoaabGreatDoor
