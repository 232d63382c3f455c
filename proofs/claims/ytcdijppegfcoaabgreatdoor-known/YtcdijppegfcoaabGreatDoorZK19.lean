import Derived.Test.YtcdijppegfcoaabGreatDoorZK18
set_option maxRecDepth 100000
set_option maxHeartbeats 2000000
namespace Go.Proofs.YtcdijppegfcoaabGreatDoor
open Go.RowKit
section
variable {C : TC} {H H' : Nat → Option Obj} {ca ca' : List Nat} {σ σ' : Sto} {d d' : Nat → Nat} {nb : List (List UInt8 × Et)} {nv : Value} {vs : List NE} {w w' : World}
theorem or_arrow {c1 c2 x y p : Nat} (e1 : ca[c1]? = some x) (e2 : ca[c2]? = some y) (hp : H p = some (.cells #[CI x,CI y] 211 (0,0))) : ORep H ca (some ⟨kFun,[],0,[cT c1,cT c2]⟩) (.iface 209 (.pointer (some ⟨p,0,none⟩))) :=
  Or.inr ⟨_,rfl,(show kFun ≠ [] by decide),(show kFun ≠ oCell by decide),(fun k hk => by simp at hk; rcases hk with rfl | rfl <;> rfl),⟨p,Or.inr (Or.inr (Or.inr (Or.inr (Or.inr ⟨rfl,Nat.zero_le _,cT c1,cT c2,_,_,rfl,rfl,hp,er_cell e1,er_cell e2⟩))))⟩⟩
theorem or_pair {c1 c2 x y p : Nat} (e1 : ca[c1]? = some x) (e2 : ca[c2]? = some y) (hp : H p = some (.cells #[CI x,CI y] 319 (0,0))) : ORep H ca (some ⟨oPair,[],0,[cT c1,cT c2]⟩) (.iface 291 (.pointer (some ⟨p,0,none⟩))) :=
  Or.inr ⟨_,rfl,(show oPair ≠ [] by decide),(show oPair ≠ oCell by decide),(fun k hk => by simp at hk; rcases hk with rfl | rfl <;> rfl),⟨p,Or.inr (Or.inr (Or.inr (Or.inr (Or.inl ⟨rfl,Nat.zero_le _,cT c1,cT c2,_,_,rfl,rfl,hp,er_cell e1,er_cell e2⟩))))⟩⟩
theorem or_int {p : Nat} (hp : H p = some (.cells #[.string (B kInt)] 277 (0,0))) : ORep H ca (some ⟨kInt,[],0,[]⟩) (.iface 275 (.pointer (some ⟨p,0,none⟩))) :=
  Or.inr ⟨_,rfl,by decide,by decide,(fun k hk => by cases hk),⟨p,Or.inr (Or.inr (Or.inl ⟨Or.inl rfl,rfl,rfl,hp⟩))⟩⟩
theorem TSv.box (h : TSv C H ca σ d nb nv vs w) (cs : Array Value) (T : TypeId) : TSv C (onto1 H w.heap.size (.cells cs T (0,0))) ca σ d nb nv vs (w.alloc (.cells cs T)) ∧ MX H (onto1 H w.heap.size (.cells cs T (0,0))) ca ca w := by
  have hz : H w.heap.size = none := h.ms.cs.fz.none (Nat.le_refl _)
  have x : MX H (onto1 H w.heap.size (.cells cs T (0,0))) ca ca w := ⟨onto1_ext hz,onto1_new (fun k o e => Or.inl e) (Nat.le_refl _),List.prefix_refl _,fun _ h => Or.inl h⟩
  have g : w.grownBy (w.alloc (.cells cs T)) none := World.grownBy_alloc _ _ _
  exact ⟨h.step ((h.ms.grown g).more (heap_alloc_new _ _) hz (fun hm => by have := InAs.lt h.ms.cs hm; omega) (by have := h.ms.bk.lt; omega)) x (Gb.new g),x⟩
theorem TSv.made {nd : Et} {v : Value} {c : Nat} {cs : Array Value} {T : TypeId} (h : TSv C H ca σ d nb nv vs w) (ho : ORep (onto1 H w.heap.size (.cells cs T (0,0))) ca (some nd) v) (hr : ofT (some nd) σ = some (σ',c)) :
    Calls Tryz.prog 160 #[CP C.tb,v] (w.alloc (.cells cs T)) (TSP C H ca σ' c nb w) := by
  have g : w.grownBy (w.alloc (.cells cs T)) none := World.grownBy_alloc _ _ _
  obtain ⟨t1,x1⟩ := h.box cs T
  refine (t1.of ho hr).mono ?_
  rintro e w' ⟨a,rfl,e1,t2,x2,g2⟩
  exact ⟨_,_,d,a,nv,vs,rfl,e1,t2,x1.trans x2 g.size,(Gb.new g).tr g2⟩
end
theorem xA_Name_Name (b : Nat) (w : World) : (Instr.typeAssert (.iface 157 (.pointer (some ⟨b,0,none⟩))) 101 157 true).run Tryz.prog w = .ok (.tuple #[.pointer (some ⟨b,0,none⟩),.bool true]) w := by kernel_rfl
theorem xA_Fun_Name (b : Nat) (w : World) : (Instr.typeAssert (.iface 178 (.pointer (some ⟨b,0,none⟩))) 101 157 true).run Tryz.prog w = .ok (.tuple #[.pointer none,.bool false]) w := by kernel_rfl
theorem xA_Fun_Fun (b : Nat) (w : World) : (Instr.typeAssert (.iface 178 (.pointer (some ⟨b,0,none⟩))) 101 178 true).run Tryz.prog w = .ok (.tuple #[.pointer (some ⟨b,0,none⟩),.bool true]) w := by kernel_rfl
theorem xA_If_Name (b : Nat) (w : World) : (Instr.typeAssert (.iface 181 (.pointer (some ⟨b,0,none⟩))) 101 157 true).run Tryz.prog w = .ok (.tuple #[.pointer none,.bool false]) w := by kernel_rfl
theorem xA_If_Fun (b : Nat) (w : World) : (Instr.typeAssert (.iface 181 (.pointer (some ⟨b,0,none⟩))) 101 178 true).run Tryz.prog w = .ok (.tuple #[.pointer none,.bool false]) w := by kernel_rfl
theorem xA_If_If (b : Nat) (w : World) : (Instr.typeAssert (.iface 181 (.pointer (some ⟨b,0,none⟩))) 101 181 true).run Tryz.prog w = .ok (.tuple #[.pointer (some ⟨b,0,none⟩),.bool true]) w := by kernel_rfl
theorem xA_Let_Name (b : Nat) (w : World) : (Instr.typeAssert (.iface 184 (.pointer (some ⟨b,0,none⟩))) 101 157 true).run Tryz.prog w = .ok (.tuple #[.pointer none,.bool false]) w := by kernel_rfl
theorem xA_Let_Fun (b : Nat) (w : World) : (Instr.typeAssert (.iface 184 (.pointer (some ⟨b,0,none⟩))) 101 178 true).run Tryz.prog w = .ok (.tuple #[.pointer none,.bool false]) w := by kernel_rfl
theorem xA_Let_If (b : Nat) (w : World) : (Instr.typeAssert (.iface 184 (.pointer (some ⟨b,0,none⟩))) 101 181 true).run Tryz.prog w = .ok (.tuple #[.pointer none,.bool false]) w := by kernel_rfl
theorem xA_Let_Let (b : Nat) (w : World) : (Instr.typeAssert (.iface 184 (.pointer (some ⟨b,0,none⟩))) 101 184 true).run Tryz.prog w = .ok (.tuple #[.pointer (some ⟨b,0,none⟩),.bool true]) w := by kernel_rfl
theorem xA_LetRec_Name (b : Nat) (w : World) : (Instr.typeAssert (.iface 190 (.pointer (some ⟨b,0,none⟩))) 101 157 true).run Tryz.prog w = .ok (.tuple #[.pointer none,.bool false]) w := by kernel_rfl
theorem xA_LetRec_Fun (b : Nat) (w : World) : (Instr.typeAssert (.iface 190 (.pointer (some ⟨b,0,none⟩))) 101 178 true).run Tryz.prog w = .ok (.tuple #[.pointer none,.bool false]) w := by kernel_rfl
theorem xA_LetRec_If (b : Nat) (w : World) : (Instr.typeAssert (.iface 190 (.pointer (some ⟨b,0,none⟩))) 101 181 true).run Tryz.prog w = .ok (.tuple #[.pointer none,.bool false]) w := by kernel_rfl
theorem xA_LetRec_Let (b : Nat) (w : World) : (Instr.typeAssert (.iface 190 (.pointer (some ⟨b,0,none⟩))) 101 184 true).run Tryz.prog w = .ok (.tuple #[.pointer none,.bool false]) w := by kernel_rfl
theorem xA_LetRec_LetRec (b : Nat) (w : World) : (Instr.typeAssert (.iface 190 (.pointer (some ⟨b,0,none⟩))) 101 190 true).run Tryz.prog w = .ok (.tuple #[.pointer (some ⟨b,0,none⟩),.bool true]) w := by kernel_rfl
theorem xA_Apply_Name (b : Nat) (w : World) : (Instr.typeAssert (.iface 195 (.pointer (some ⟨b,0,none⟩))) 101 157 true).run Tryz.prog w = .ok (.tuple #[.pointer none,.bool false]) w := by kernel_rfl
theorem xA_Apply_Fun (b : Nat) (w : World) : (Instr.typeAssert (.iface 195 (.pointer (some ⟨b,0,none⟩))) 101 178 true).run Tryz.prog w = .ok (.tuple #[.pointer none,.bool false]) w := by kernel_rfl
theorem xA_Apply_If (b : Nat) (w : World) : (Instr.typeAssert (.iface 195 (.pointer (some ⟨b,0,none⟩))) 101 181 true).run Tryz.prog w = .ok (.tuple #[.pointer none,.bool false]) w := by kernel_rfl
theorem xA_Apply_Let (b : Nat) (w : World) : (Instr.typeAssert (.iface 195 (.pointer (some ⟨b,0,none⟩))) 101 184 true).run Tryz.prog w = .ok (.tuple #[.pointer none,.bool false]) w := by kernel_rfl
theorem xA_Apply_LetRec (b : Nat) (w : World) : (Instr.typeAssert (.iface 195 (.pointer (some ⟨b,0,none⟩))) 101 190 true).run Tryz.prog w = .ok (.tuple #[.pointer none,.bool false]) w := by kernel_rfl
theorem xA_Apply_Apply (b : Nat) (w : World) : (Instr.typeAssert (.iface 195 (.pointer (some ⟨b,0,none⟩))) 101 195 true).run Tryz.prog w = .ok (.tuple #[.pointer (some ⟨b,0,none⟩),.bool true]) w := by kernel_rfl
theorem xA_Pair_Name (b : Nat) (w : World) : (Instr.typeAssert (.iface 198 (.pointer (some ⟨b,0,none⟩))) 101 157 true).run Tryz.prog w = .ok (.tuple #[.pointer none,.bool false]) w := by kernel_rfl
theorem xA_Pair_Fun (b : Nat) (w : World) : (Instr.typeAssert (.iface 198 (.pointer (some ⟨b,0,none⟩))) 101 178 true).run Tryz.prog w = .ok (.tuple #[.pointer none,.bool false]) w := by kernel_rfl
theorem xA_Pair_If (b : Nat) (w : World) : (Instr.typeAssert (.iface 198 (.pointer (some ⟨b,0,none⟩))) 101 181 true).run Tryz.prog w = .ok (.tuple #[.pointer none,.bool false]) w := by kernel_rfl
theorem xA_Pair_Let (b : Nat) (w : World) : (Instr.typeAssert (.iface 198 (.pointer (some ⟨b,0,none⟩))) 101 184 true).run Tryz.prog w = .ok (.tuple #[.pointer none,.bool false]) w := by kernel_rfl
theorem xA_Pair_LetRec (b : Nat) (w : World) : (Instr.typeAssert (.iface 198 (.pointer (some ⟨b,0,none⟩))) 101 190 true).run Tryz.prog w = .ok (.tuple #[.pointer none,.bool false]) w := by kernel_rfl
theorem xA_Pair_Apply (b : Nat) (w : World) : (Instr.typeAssert (.iface 198 (.pointer (some ⟨b,0,none⟩))) 101 195 true).run Tryz.prog w = .ok (.tuple #[.pointer none,.bool false]) w := by kernel_rfl
theorem xA_Pair_Pair (b : Nat) (w : World) : (Instr.typeAssert (.iface 198 (.pointer (some ⟨b,0,none⟩))) 101 198 true).run Tryz.prog w = .ok (.tuple #[.pointer (some ⟨b,0,none⟩),.bool true]) w := by kernel_rfl
theorem find_name {C : TC} {nm : List UInt8} {dep pos : Value} {b : Nat} {σ : Sto} {nb : List (List UInt8 × Et)} {σ' : Sto} {c : Nat} {H : Nat → Option Obj} {ca : List Nat} {d : Nat → Nat} {nv : Value} {vs : List NE} {w : World}
    (hb : H b = some (.cells #[dep,.string (B nm),pos] 163 (0,0))) (hr : nameT C.ge nm nb σ = some (σ',c)) (h : TSv C H ca σ d nb nv vs w) :
    Calls Tryz.prog 120 #[CP C.tb,.iface 157 (.pointer (some ⟨b,0,none⟩))] w (TSP C H ca σ' c nb w) := by
  unfold nameT at hr
  split at hr
  case isFalse => cases hr
  rename_i hl
  cases i1 : lookT nb C.ge nm with
  | none => rw [i1] at hr; cases hr
  | some t =>
  rw [i1] at hr
  simp only [] at hr
  cases i2 : instS 400 t σ [] with
  | none => rw [i2] at hr; cases hr
  | some r2 =>
  obtain ⟨σ1,g1,c1⟩ := r2
  rw [i2] at hr
  cases hr
  have CS := hid (scheme_t h.drew hl i1)
  have hbw := h.ms.cs.fz _ _ hb
  have k1 := blk_c hbw 1 rfl
  have hbl := lt_of_block hbw
  have Q := hid (And.intro h i2)
  have a0 := xA_Name_Name b
  clear hb i1 i2 h hbw hl
  unfold CP at *
  go_enter Tryz.func120,Tryz.ntmps120
  go_wp2_with fail
  go_region_with (first
    | (go_at_call 153; refine CS.out.mono ?_; rintro e w1 ⟨v1,rfl,er1,gr1⟩; have CI := hid (Instance_any er1 Q.out.2 (Q.out.1.drew.grown gr1).ms); have Q1 := hid gr1; obtain ⟨T1,b1,_,rfl⟩ := er_val er1; clear gr1 er1; unfold CP at CI)
    | (go_at_call 152; refine CI.out.mono ?_; rintro e w2 ⟨H2,ca2,d2,x,rfl,ex,m2,mx,g2⟩; have Q2 := hid (show TSP C H ca σ' c nb w (.returned (CP x)) w2 from ⟨H2,ca2,d2,x,nv,vs,rfl,ex,(Q.out.1.drew.grown Q1.out).step m2 mx g2,mx.low Q1.out.size,(Gb.new Q1.out).drewL.tr ((Q.out.1.drew.grown Q1.out).gbase g2)⟩); clear ex m2 mx g2; unfold CP at *))
  all_goals go_wp2
  all_goals go_ret
  all_goals exact Q2.out
theorem find_int {C : TC} {b : Nat} {σ : Sto} {nb : List (List UInt8 × Et)} {σ' : Sto} {c : Nat} {H : Nat → Option Obj} {ca : List Nat} {d : Nat → Nat} {nv : Value} {vs : List NE} {w : World}
    (hr : ofT (some ⟨kInt,[],0,[]⟩) σ = some (σ',c)) (h : TSv C H ca σ d nb nv vs w) :
    Calls Tryz.prog 120 #[CP C.tb,.iface 175 (.pointer (some ⟨b,0,none⟩))] w (TSP C H ca σ' c nb w) := by
  have a1 := nA_Name b
  have a2 := nA_Fun b
  have a3 := nA_If b
  have a4 := nA_Let b
  have a5 := nA_LetRec b
  have a6 := nA_Apply b
  have a7 := nA_Pair b
  have CM := hid (h.made (cs := #[.string (B kInt)]) (T := 277) (or_int onto1_at) hr)
  clear hr h
  unfold CP kInt at *
  go_enter Tryz.func120,Tryz.ntmps120
  go_wp2_with fail
  refine CM.out.mono ?_
  rintro e w9 h9
  have H9 := hid h9
  obtain ⟨_,_,_,x9,_,_,rfl,_⟩ := h9
  clear CM
  unfold CP at *
  go_wp2
  go_ret
  exact H9.out
theorem kids1 {m : Nat} {H : Nat → Option Obj} {e : Ex} {u : Value} (hl : e.kids.length = 1) (hk : ∀ (i : Nat) (y : Ex) (v : Value),[u][i]? = some v → e.kids[i]? = some y → PRep m H v y) : ∃ y,e.kids = [y] ∧ PRep m H u y := by
  match he : e.kids,hl with
  | [y],_ => exact ⟨y,rfl,hk 0 y u rfl (by rw [he]; rfl)⟩
theorem kids2' {m : Nat} {H : Nat → Option Obj} {e : Ex} {u v : Value} (hl : e.kids.length = 2) (hk : ∀ (i : Nat) (y : Ex) (x : Value),[u,v][i]? = some x → e.kids[i]? = some y → PRep m H x y) : ∃ y z,e.kids = [y,z] ∧ PRep m H u y ∧ PRep m H v z := by
  match he : e.kids,hl with
  | [y,z],_ => exact ⟨y,z,rfl,hk 0 y u rfl (by rw [he]; rfl),hk 1 z v rfl (by rw [he]; rfl)⟩
def ncB : Nat → Et → Bool
  | 0,_ => false
  | f + 1,t => decide (t.kind ≠ oCell) && t.kids.all (ncB f)
theorem er_nc {H : Nat → Option Obj} {ca : List Nat} : ∀ (f m : Nat) (v : Value) (t : Et),ncB f t = true → ERep 0 H ca m v t → ERep 0 H [] m v t
  | 0,_,_,_,h,_ => by cases h
  | f + 1,0,_,_,_,h => absurd h id
  | f + 1,m + 1,v,t,hn,h => by
    simp only [ncB,Bool.and_eq_true,decide_eq_true_eq,List.all_eq_true] at hn
    obtain ⟨h0,hk⟩ := hn
    obtain ⟨b,h⟩ := h
    refine ⟨b,?_⟩
    rcases h with ⟨h1,_⟩ | h | h | ⟨h1,hlo,a,u,h2,h3,h4,h5⟩ | ⟨h1,hlo,a,a2,u,z,h2,h3,h4,h5,h6⟩ | ⟨h1,hlo,a,a2,u,z,h2,h3,h4,h5,h6⟩
    · exact absurd h1 h0
    · exact Or.inr (Or.inl h)
    · exact Or.inr (Or.inr (Or.inl h))
    · exact Or.inr (Or.inr (Or.inr (Or.inl ⟨h1,hlo,a,u,h2,h3,h4,er_nc f m u a (hk a (by rw [h2]; simp)) h5⟩)))
    · exact Or.inr (Or.inr (Or.inr (Or.inr (Or.inl ⟨h1,hlo,a,a2,u,z,h2,h3,h4,er_nc f m u a (hk a (by rw [h2]; simp)) h5,er_nc f m z a2 (hk a2 (by rw [h2]; simp)) h6⟩))))
    · exact Or.inr (Or.inr (Or.inr (Or.inr (Or.inr ⟨h1,hlo,a,a2,u,z,h2,h3,h4,er_nc f m u a (hk a (by rw [h2]; simp)) h5,er_nc f m z a2 (hk a2 (by rw [h2]; simp)) h6⟩))))
theorem TSv.start {H : Nat → Option Obj} {w : World} {fuel : Int} {each : Value} {mb : Nat} {ge : List (List UInt8 × Et)} (hz : Fz H w) (hge : GE H [] w mb ge) :
    TSv ⟨w.heap.size,.int .i64 fuel,each,mb,w.heap.size,ge,[]⟩ H [] ⟨[],[]⟩ (fun _ => 0) [] (.slice none 0 0) [] (w.alloc (.cells #[.int .i64 0,.int .i64 fuel,each,.map (some mb),.slice none 0 0] 171)) := by
  have g : w.grownBy (w.alloc (.cells #[.int .i64 0,.int .i64 fuel,each,.map (some mb),.slice none 0 0] 171)) none := World.grownBy_alloc _ _ _
  have hlt : mb < w.heap.size := by
    obtain ⟨gv,h1,_⟩ := hge
    exact h1.lt
  refine ⟨⟨CSd.nil (hz.alloc _),?_,hz.none (Nat.le_refl _),by simp⟩,⟨rfl,World.ownsRow_nil _ _ _ _,(fun i p q e _ => by cases e),(fun k hk => by cases hk),Nat.zero_le _⟩,hge.step (R := fun _ => False) (MX.refl _ _ w) (Gb.new g) id,hlt,⟨Nat.le_refl _,by simp⟩,(fun a ha => by cases ha),(fun g hg => by cases hg),fun g hg => by cases hg⟩
  unfold TB TC.r
  exact heap_alloc_new _ _
theorem index_s (w : World) (gn cp : Nat) (l : List (List UInt8)) (n : List UInt8) (hl : l.length ≤ 1000000) (hrow : ∀ (j : Nat) (x : List UInt8),l[j]? = some x → w.cell? ⟨gn,j,none⟩ = some (.string (B x))) :
    Calls Tryz.prog 180 #[.slice (some ⟨gn,0,none⟩) l.length cp,.string (B n)] w fun e w' => w' = w ∧ ∃ r : Int,e = .returned (.int .i64 r) ∧ decide (0 ≤ r) = decide (n ∈ l) := by
  have HROW := hid hrow
  clear hrow
  go_enter Tryz.func180,Tryz.ntmps180
  go_wp2_with fail
  go_loopg [8] (l.length + 1) (fun gh i wi => ∃ j : Nat,j ≤ l.length ∧ i = .int .i64 j ∧ gh = l.length - j + 1 ∧ wi = w ∧ Hid (n ∉ l.take j))
  case atStart => exact ⟨0,by omega,rfl,by omega,rfl,hid (by simp)⟩
  case round =>
    obtain ⟨j,hj,rfl,hgj,rfl,HN⟩ := hrel
    by_cases hjl : j < l.length
    · obtain ⟨x,hx⟩ : ∃ x,l[j]? = some x := ⟨l[j],List.getElem?_eq_getElem hjl⟩
      have hcell := HROW.out j x hx
      have HX := hid hx
      clear hx
      by_cases hA : x = n
      · subst hA
        have h1 : ((B x).toList == (B x).toList) = true := beq_self_eq_true _
        go_wp2
        go_ret
        exact ⟨rfl,_,rfl,by rw [decide_eq_true (List.mem_of_getElem? HX.out),decide_eq_true (by omega)]⟩
      · have h1 : ((B n).toList == (B x).toList) = false := by rw [toList_B,toList_B]; exact beq_eq_false_iff_ne.2 (Ne.symm hA)
        have HN2 := hid (show n ∉ l.take (j + 1) from fun hm => by
          rw [List.take_add_one,HX.out] at hm
          rcases List.mem_append.1 hm with hm | hm
          · exact HN.out hm
          · simp at hm; exact hA hm.symm)
        clear hA
        go_wp2
        go_roundg (l.length - (j + 1) + 1)
        case measure => omega
        case rel => exact ⟨j + 1,by omega,by go_num,rfl,rfl,HN2⟩
    · have hje : j = l.length := by omega
      subst hje
      have HN2 := hid (show n ∉ l by have := HN.out; rwa [List.take_length] at this)
      clear HN
      go_wp2
      go_ret
      exact ⟨rfl,_,rfl,by rw [decide_eq_false HN2.out]; rfl⟩
theorem contains_s (w : World) (gn cp : Nat) (l : List (List UInt8)) (n : List UInt8) (hl : l.length ≤ 1000000) (hrow : ∀ (j : Nat) (x : List UInt8),l[j]? = some x → w.cell? ⟨gn,j,none⟩ = some (.string (B x))) :
    Calls Tryz.prog 149 #[.slice (some ⟨gn,0,none⟩) l.length cp,.string (B n)] w fun e w' => w' = w ∧ e = .returned (.bool (decide (n ∈ l))) := by
  have CI := hid (index_s w gn cp l n hl hrow)
  clear hrow
  go_enter Tryz.func149,Tryz.ntmps149
  go_wp2_with fail
  refine CI.out.mono ?_
  rintro e w' ⟨rfl,r,rfl,hr⟩
  have HR := hid hr
  clear hr CI
  go_wp2
  go_ret
  exact ⟨rfl,by rw [HR.out]; rfl⟩
def GE2 (H : Nat → Option Obj) (w : World) (mb : Nat) (ge : List (List UInt8 × Et)) : Prop :=
  ∃ gv : List (List UInt8 × Value),GM kS (fun v => .agg #[v]) 9 w mb gv ∧ ∀ nm,(getL gv nm = none ∧ getL ge nm = none) ∨ ∃ v t,getL gv nm = some v ∧ getL ge nm = some t ∧ ER H [] v t
theorem GE2.ge {H : Nat → Option Obj} {w : World} {mb : Nat} {ge : List (List UInt8 × Et)} (h : GE2 H w mb ge) : GE H [] w mb ge := by
  obtain ⟨gv,h1,h2⟩ := h
  refine ⟨gv,h1,fun nm t e => ?_⟩
  rcases h2 nm with ⟨_,h3⟩ | ⟨v,t',h3,h4,h5⟩
  · rw [h3] at e; cases e
  · rw [h4] at e; cases e; exact ⟨v,h3,h5⟩
theorem GE2.grown {H : Nat → Option Obj} {w w' : World} {mb : Nat} {ge : List (List UInt8 × Et)} (h : GE2 H w mb ge) (g : w.grownBy w' none) : GE2 H w' mb ge := by
  obtain ⟨gv,h1,h2⟩ := h
  exact ⟨gv,h1.gb (R := fun _ => False) (Gb.new g) id,h2⟩
def KF (mb : Nat) (w : World) : List (List (List UInt8)) → Value → Prop
  | [],v => ∃ b,v = .func (.func 72) #[] #[.pointer (some ⟨b,0,none⟩)] ∧ w.heap[b]? = some (.cells #[.map (some mb)] 104 (0,0))
  | ns :: l,v => ∃ bn bk g cap u cs,v = .func (.func 148) #[] #[.pointer (some ⟨bn,0,none⟩),.pointer (some ⟨bk,0,none⟩)] ∧ w.heap[bn]? = some (.cells #[.slice (some ⟨g,0,none⟩) ns.length cap] 26 (0,0)) ∧ w.heap[g]? = some (.cells cs 9 (0,0)) ∧ (∀ (j : Nat) x,ns[j]? = some x → cs[j]? = some (.string (B x))) ∧ w.heap[bk]? = some (.cells #[u] 29 (0,0)) ∧ ns.length ≤ 1000 ∧ KF mb w l u
theorem KF.grown {mb : Nat} {w w' : World} (g : w.grownBy w' none) : ∀ {l : List (List (List UInt8))} {v : Value},KF mb w l v → KF mb w' l v
  | [],_,⟨b,h1,h2⟩ => ⟨b,h1,(g.block b (lt_of_block h2) (by simp)).trans h2⟩
  | _ :: _,_,⟨bn,bk,gg,cap,u,cs,h1,h2,h3,h4,h5,h6,h7⟩ => ⟨bn,bk,gg,cap,u,cs,h1,(g.block _ (lt_of_block h2) (by simp)).trans h2,(g.block _ (lt_of_block h3) (by simp)).trans h3,h4,(g.block _ (lt_of_block h5) (by simp)).trans h5,h6,KF.grown g h7⟩
def kn (ge : List (List UInt8 × Et)) (l : List (List (List UInt8))) (nm : List UInt8) : Bool := l.any (fun ns => decide (nm ∈ ns)) || (getL ge nm).isSome
def KCall (v : Value) (nm : List UInt8) (w : World) (q : Bool) : Prop := match v with
  | .func (.func k) #[] cap => Calls Tryz.prog k (#[.string (B nm)] ++ cap) w fun e w' => e = .returned (.bool q) ∧ w.grownBy w' none
  | _ => False
theorem known0 {H : Nat → Option Obj} {mb b : Nat} {ge : List (List UInt8 × Et)} {nm : List UInt8} {w : World} (hn : nm.length ≤ 300) (hb : w.heap[b]? = some (.cells #[.map (some mb)] 104 (0,0))) (h : GE2 H w mb ge) :
    Calls Tryz.prog 72 #[.string (B nm),.pointer (some ⟨b,0,none⟩)] w fun e w' => e = .returned (.bool (getL ge nm).isSome) ∧ w.grownBy w' none := by
  obtain ⟨gv,h1,h2⟩ := h
  have c0 := blk_c hb 0 rfl
  have hlk := GM.look h1 strLaw Tryz.underlying104 (zeroScheme w) (kS_key hn)
  rcases h2 nm with ⟨e1,e2⟩ | ⟨v,t,e1,e2,e3⟩
  · rw [e1] at hlk
    rw [e2]
    simp only [Option.map_none,Option.getD_none,Option.isSome_none] at hlk ⊢
    clear h1 h2
    go_enter Tryz.func72,Tryz.ntmps72
    go_wp2
    go_ret
    exact ⟨rfl,World.grownBy_alloc _ _ _⟩
  · rw [e1] at hlk
    rw [e2]
    obtain ⟨T0,b0,_,rfl⟩ := er_val e3
    simp only [Option.map_some,Option.getD_some,Option.isSome_some] at hlk ⊢
    clear h1 h2 e3
    go_enter Tryz.func72,Tryz.ntmps72
    go_wp2
    go_ret
    exact ⟨rfl,World.grownBy_alloc _ _ _⟩
theorem known1a {bn bk gg cap b2 : Nat} {q : Bool} {ns : List (List UInt8)} {cs : Array Value} {nm : List UInt8} {w : World} (h2 : w.heap[bn]? = some (.cells #[.slice (some ⟨gg,0,none⟩) ns.length cap] 26 (0,0))) (h3 : w.heap[gg]? = some (.cells cs 9 (0,0))) (h4 : ∀ (j : Nat) x,ns[j]? = some x → cs[j]? = some (.string (B x))) (h6 : ns.length ≤ 1000)
    (h5 : w.heap[bk]? = some (.cells #[.func (.func 72) #[] #[.pointer (some ⟨b2,0,none⟩)]] 29 (0,0))) (ih : Calls Tryz.prog 72 #[.string (B nm),.pointer (some ⟨b2,0,none⟩)] w fun e w' => e = .returned (.bool q) ∧ w.grownBy w' none) :
    Calls Tryz.prog 148 #[.string (B nm),.pointer (some ⟨bn,0,none⟩),.pointer (some ⟨bk,0,none⟩)] w fun e w' => e = .returned (.bool (decide (nm ∈ ns) || q)) ∧ w.grownBy w' none := by
  have c2 := blk_c h2 0 rfl
  have c5 := blk_c h5 0 rfl
  have CC := hid (contains_s w gg cap ns nm (by omega) (fun j x hx => blk_c h3 j (h4 j x hx)))
  have IH := hid ih
  clear h2 h3 h4 h5 ih
  by_cases hm : nm ∈ ns
  · rw [decide_eq_true hm] at CC ⊢
    clear hm
    go_enter Tryz.func148,Tryz.ntmps148
    go_wp2_with fail
    refine CC.out.mono ?_
    rintro e w' ⟨rfl,rfl⟩
    clear CC
    go_wp2
    go_ret
    exact ⟨rfl,(Gb.refl _ _).none⟩
  · rw [decide_eq_false hm] at CC ⊢
    clear hm
    go_enter Tryz.func148,Tryz.ntmps148
    go_wp2_with fail
    refine CC.out.mono ?_
    rintro e w' ⟨rfl,rfl⟩
    clear CC
    go_wp2_with fail
    refine IH.out.mono ?_
    rintro e w2 ⟨rfl,g2⟩
    have G2 := hid g2
    clear g2
    go_wp2
    go_ret
    exact ⟨by simp,G2.out⟩
theorem known1b {bn bk gg cap b2 b3 : Nat} {q : Bool} {ns : List (List UInt8)} {cs : Array Value} {nm : List UInt8} {w : World} (h2 : w.heap[bn]? = some (.cells #[.slice (some ⟨gg,0,none⟩) ns.length cap] 26 (0,0))) (h3 : w.heap[gg]? = some (.cells cs 9 (0,0))) (h4 : ∀ (j : Nat) x,ns[j]? = some x → cs[j]? = some (.string (B x))) (h6 : ns.length ≤ 1000)
    (h5 : w.heap[bk]? = some (.cells #[.func (.func 148) #[] #[.pointer (some ⟨b2,0,none⟩),.pointer (some ⟨b3,0,none⟩)]] 29 (0,0))) (ih : Calls Tryz.prog 148 #[.string (B nm),.pointer (some ⟨b2,0,none⟩),.pointer (some ⟨b3,0,none⟩)] w fun e w' => e = .returned (.bool q) ∧ w.grownBy w' none) :
    Calls Tryz.prog 148 #[.string (B nm),.pointer (some ⟨bn,0,none⟩),.pointer (some ⟨bk,0,none⟩)] w fun e w' => e = .returned (.bool (decide (nm ∈ ns) || q)) ∧ w.grownBy w' none := by
  have c2 := blk_c h2 0 rfl
  have c5 := blk_c h5 0 rfl
  have CC := hid (contains_s w gg cap ns nm (by omega) (fun j x hx => blk_c h3 j (h4 j x hx)))
  have IH := hid ih
  clear h2 h3 h4 h5 ih
  by_cases hm : nm ∈ ns
  · rw [decide_eq_true hm] at CC ⊢
    clear hm
    go_enter Tryz.func148,Tryz.ntmps148
    go_wp2_with fail
    refine CC.out.mono ?_
    rintro e w' ⟨rfl,rfl⟩
    clear CC
    go_wp2
    go_ret
    exact ⟨rfl,(Gb.refl _ _).none⟩
  · rw [decide_eq_false hm] at CC ⊢
    clear hm
    go_enter Tryz.func148,Tryz.ntmps148
    go_wp2_with fail
    refine CC.out.mono ?_
    rintro e w' ⟨rfl,rfl⟩
    clear CC
    go_wp2_with fail
    refine IH.out.mono ?_
    rintro e w2 ⟨rfl,g2⟩
    have G2 := hid g2
    clear g2
    go_wp2
    go_ret
    exact ⟨by simp,G2.out⟩
theorem known_any {H : Nat → Option Obj} {mb : Nat} {ge : List (List UInt8 × Et)} {nm : List UInt8} {w : World} (hn : nm.length ≤ 300) (hg : GE2 H w mb ge) : ∀ (l : List (List (List UInt8))) (v : Value),KF mb w l v → KCall v nm w (kn ge l nm)
  | [],v,⟨b,h1,h2⟩ => by
    subst h1
    exact known0 hn h2 hg
  | ns :: l,v,⟨bn,bk,gg,cap,u,cs,h1,h2,h3,h4,h5,h6,h7⟩ => by
    subst h1
    have ih := known_any hn hg l u h7
    have e : kn ge (ns :: l) nm = (decide (nm ∈ ns) || kn ge l nm) := by simp [kn,Bool.or_assoc]
    rw [e]
    cases l with
    | nil =>
      obtain ⟨b2,rfl,_⟩ := h7
      exact known1a h2 h3 h4 h6 h5 ih
    | cons ns2 l =>
      obtain ⟨b2,b3,_,_,_,_,rfl,_⟩ := h7
      exact known1b h2 h3 h4 h6 h5 ih
theorem KF.form {mb : Nat} {w : World} : ∀ {l : List (List (List UInt8))} {v : Value},KF mb w l v → (∃ b,v = .func (.func 72) #[] #[.pointer (some ⟨b,0,none⟩)]) ∨ ∃ b b2,v = .func (.func 148) #[] #[.pointer (some ⟨b,0,none⟩),.pointer (some ⟨b2,0,none⟩)]
  | [],_,⟨b,h1,_⟩ => Or.inl ⟨b,h1⟩
  | _ :: _,_,⟨bn,bk,_,_,_,_,h1,_⟩ => Or.inr ⟨bn,bk,h1⟩
theorem and_any {mb gg cap : Nat} {l : List (List (List UInt8))} {v : Value} {ns : List (List UInt8)} {cs : Array Value} {w : World} (h : KF mb w l v) (h3 : w.heap[gg]? = some (.cells cs 9 (0,0))) (h4 : ∀ (j : Nat) x,ns[j]? = some x → cs[j]? = some (.string (B x))) (h6 : ns.length ≤ 1000) :
    Calls Tryz.prog 116 #[v,.slice (some ⟨gg,0,none⟩) ns.length cap] w fun e w' => ∃ b b2,e = .returned (.func (.func 148) #[] #[.pointer (some ⟨b,0,none⟩),.pointer (some ⟨b2,0,none⟩)]) ∧ KF mb w' (ns :: l) (.func (.func 148) #[] #[.pointer (some ⟨b,0,none⟩),.pointer (some ⟨b2,0,none⟩)]) ∧ w.grownBy w' none := by
  have hmf : ∀ (fn : Fn) (first cap : Array Value) (w : World),(Instr.makeFunc fn first cap).run Tryz.prog w = .ok (.func fn first cap) w := fun _ _ _ _ => rfl
  have g1 : w.grownBy ((w.alloc (.cells #[v] 29)).alloc (.cells #[.slice (some ⟨gg,0,none⟩) ns.length cap] 26)) none := (World.grownBy_alloc _ _ _).trans (World.grownBy_alloc _ _ _)
  have n1 : ((w.alloc (.cells #[v] 29)).alloc (.cells #[.slice (some ⟨gg,0,none⟩) ns.length cap] 26)).heap[w.heap.size]? = some (.cells #[v] 29 (0,0)) := by
    rw [Below.heap_alloc _ _ _ (by simp)]; exact heap_alloc_new _ _
  have n2 : ((w.alloc (.cells #[v] 29)).alloc (.cells #[.slice (some ⟨gg,0,none⟩) ns.length cap] 26)).heap[w.heap.size + 1]? = some (.cells #[.slice (some ⟨gg,0,none⟩) ns.length cap] 26 (0,0)) := heap_alloc_at _ _ _ (by simp)
  have Q := hid (show KF mb ((w.alloc (.cells #[v] 29)).alloc (.cells #[.slice (some ⟨gg,0,none⟩) ns.length cap] 26)) (ns :: l) (.func (.func 148) #[] #[.pointer (some ⟨w.heap.size + 1,0,none⟩),.pointer (some ⟨w.heap.size,0,none⟩)]) from ⟨w.heap.size + 1,w.heap.size,gg,cap,v,cs,rfl,n2,(g1.block _ (lt_of_block h3) (by simp)).trans h3,h4,n1,h6,h.grown g1⟩)
  have G := hid g1
  have hf := h.form
  clear h h3 h4 n1 n2 g1
  rcases hf with ⟨b,rfl⟩ | ⟨b,b2,rfl⟩
  all_goals
    go_enter Tryz.func116,Tryz.ntmps116
    go_wp2
    go_ret
    exact ⟨_,_,rfl,Q.out,G.out⟩
theorem ptr_ne (w : World) : (binOp .neq 157 (.pointer none) (.pointer none)).run Tryz.prog w = .ok (.bool false) w := by kernel_rfl
end Go.Proofs.YtcdijppegfcoaabGreatDoor
