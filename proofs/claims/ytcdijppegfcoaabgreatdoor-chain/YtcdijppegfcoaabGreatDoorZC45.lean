import Derived.Test.YtcdijppegfcoaabGreatDoorZC43
import Derived.Test.YtcdijppegfcoaabGreatDoorZC44
import Derived.Test.YtcdijppegfcoaabGreatDoorZC40
import Derived.Test.YtcdijppegfcoaabGreatDoorZC41
import Derived.Test.YtcdijppegfcoaabGreatDoorZC42
import Derived.Test.YtcdijppegfcoaabGreatDoorZC31
import Derived.Test.YtcdijppegfcoaabGreatDoorZC35
import Derived.Test.YtcdijppegfcoaabGreatDoorZC37
import Derived.Test.YtcdijppegfcoaabGreatDoorZC33
import Derived.Maps.RangeWalk
import Derived.Laws.IdiomRangeMap
import Derived.Deep.LoopGhost
import Derived.WalkKit
import Derived.Maps.Ext
set_option maxRecDepth 100000
set_option maxHeartbeats 4000000
namespace Go.Proofs.YtcdijppegfcoaabGreatDoor
open Go.RowKit
theorem une_If {H : Nat → Option Obj} {mb b m : Nat} {ge : List (List UInt8 × Et)} {l : List (List (List UInt8))} {kv dep u1 u2 u3 : Value} {e1 e2 e3 : Ex} {r s t : UR} {P : Ex → List (List (List UInt8)) → Option UR} (hP : UNE H mb ge P) {w : World} (hb : H b = some (.cells #[dep,u1,u2,u3] 183 (0,0))) (hp1 : PRep m H u1 e1) (hp2 : PRep m H u2 e2) (hp3 : PRep m H u3 e3) (h1 : P e1 l = some r) (h2 : P e2 l = some s) (h3 : P e3 l = some t) (hz : Fz H w) (hg : GE2 H w mb ge) (hk : KF mb w l kv) :
    Calls Tryz.prog 71 #[.iface 181 (.pointer (some ⟨b,0,none⟩)),kv] w (UNP1 H (orU r (orU s t)) w) := by
  rcases hk.form with ⟨q1,rfl⟩ | ⟨q1,q2,rfl⟩
  · exact une_If0 hP hb hp1 hp2 hp3 h1 h2 h3 hz hg hk
  · exact une_If1 hP hb hp1 hp2 hp3 h1 h2 h3 hz hg hk
theorem une_Rec {H : Nat → Option Obj} {b : Nat} {r : UR} {kv : Value} {w : World} (hk : (∃ b,kv = .func (.func 72) #[] #[.pointer (some ⟨b,0,none⟩)]) ∨ ∃ b b2,kv = .func (.func 148) #[] #[.pointer (some ⟨b,0,none⟩),.pointer (some ⟨b2,0,none⟩)]) (hc : Calls Tryz.prog 118 #[.pointer (some ⟨b,0,none⟩),kv] w (UNP1 H r w)) :
    Calls Tryz.prog 71 #[.iface 190 (.pointer (some ⟨b,0,none⟩)),kv] w (UNP1 H r w) := by
  have CU := hid hc
  have a0 := xA_LetRec_Name b
  have a1 := xA_LetRec_Fun b
  have a2 := xA_LetRec_If b
  have a3 := xA_LetRec_Let b
  have a4 := xA_LetRec_LetRec b
  clear hc
  rcases hk with ⟨q1,rfl⟩ | ⟨q1,q2,rfl⟩
  all_goals
    go_enter Tryz.func71,Tryz.ntmps71
    go_wp2_with fail
    refine CU.out.mono ?_
    rintro e w1 ⟨x,rfl,ux,g1⟩
    have G1 := hid (And.intro ux g1)
    clear ux g1 CU
    go_wp2
    go_ret
    exact ⟨x,rfl,G1.out.1,G1.out.2⟩
theorem row_bindU {H : Nat → Option Obj} {g : Nat} {cur : Array Value} {ns : List (List UInt8)} {us : List Value} {w : World} (hz : Fz H w) (h1 : H g = some (.cells cur 187 (0,0))) (hl : us.length = ns.length) (h2 : cur.toList.take (ns.length * 2) = bindCells ns us) {j : Nat} {n : List UInt8} {u : Value} (e1 : ns[j]? = some n) (e2 : us[j]? = some u) : w.cell? ⟨g,j * 2,none⟩ = some (.string (B n)) ∧ w.cell? ⟨g,j * 2 + 1,none⟩ = some u := by
  have hj := (List.getElem?_eq_some_iff.1 e1).1
  obtain ⟨q1,q2⟩ := bindCells_get ns us j n u hl e1 e2
  rw [← h2,List.getElem?_take,if_pos (by omega)] at q1 q2
  have hgb := hz _ _ h1
  exact ⟨blk_c hgb _ (by simpa using q1),blk_c hgb _ (by simpa using q2)⟩
theorem une_step {H : Nat → Option Obj} {mb : Nat} {ge : List (List UInt8 × Et)} {P : Ex → List (List (List UInt8)) → Option UR} (hP : UNE H mb ge P) : UNE H mb ge (fun e l => unF P (unR P) ge e l) := by
  intro e v m l kv r w hp hr hz hg hk
  simp only [] at hr
  cases m with
  | zero => exact absurd hp id
  | succ m =>
  obtain ⟨b,us,rfl,hn,hl,hkid⟩ := hp
  unfold unF at hr
  rcases hn with ⟨h0,t,h1,h2,h3,h4⟩ | ⟨h0,t,h1,h2,h3,h4⟩ | ⟨h0,t,u,h1,h2,rfl,h4⟩ | ⟨h0,u,v,y,h1,rfl,h4⟩ | ⟨h0,t,u,v,h1,h2,rfl,h4⟩ | ⟨h0,us',u,gv,h1,h2,h3,h4,h5,h6⟩ | ⟨h0,u,v,h1,rfl,h4⟩ | ⟨h0,u,v,h1,rfl,h4⟩
  · rw [if_pos h0,h1] at hr
    simp only at hr
    split at hr
    · rename_i hn9
      cases hr
      rw [h0]
      exact une_name h4 hn9 hz hg hk
    · cases hr
  · rw [h0,if_neg (by decide),if_neg (by decide),if_neg (by decide),if_neg (by decide),if_neg (by decide),if_neg (by decide),if_neg (by decide),if_pos rfl] at hr
    cases hr
    rw [h0]
    refine (unbound_num b kv w).mono ?_
    rintro e w' ⟨rfl,rfl⟩
    exact ⟨none,rfl,rfl,(Gb.refl _ _).none⟩
  · obtain ⟨y,hy,hp⟩ := kids1 h2 hkid
    rw [h0,if_neg (by decide),if_pos rfl,h1,hy] at hr
    rw [h0]
    exact une_fun hP h4 hp hr hz hg hk
  · obtain ⟨y1,y2,y3,hy,hp1,hp2,hp3⟩ : ∃ y1 y2 y3,e.kids = [y1,y2,y3] ∧ PRep m H u y1 ∧ PRep m H v y2 ∧ PRep m H y y3 := by
      match hk9 : e.kids,h1 with
      | [y1,y2,y3],_ => exact ⟨y1,y2,y3,rfl,hkid 0 y1 u rfl (by rw [hk9]; rfl),hkid 1 y2 v rfl (by rw [hk9]; rfl),hkid 2 y3 y rfl (by rw [hk9]; rfl)⟩
    rw [h0,if_neg (by decide),if_neg (by decide),if_pos rfl,hy] at hr
    simp only at hr
    split at hr
    · rename_i r1 r2 r3 q1 q2 q3
      cases hr
      rw [h0]
      exact une_If hP h4 hp1 hp2 hp3 q1 q2 q3 hz hg hk
    · cases hr
  · obtain ⟨y,z,hy,hp1,hp2⟩ := kids2' h2 hkid
    rw [h0,if_neg (by decide),if_neg (by decide),if_neg (by decide),if_pos rfl,h1,hy] at hr
    simp only at hr
    split at hr
    · rename_i r1 r2 q1 q2
      cases hr
      rw [h0]
      exact une_Let hP h4 hp1 hp2 q1 q2 hz hg hk
    · cases hr
  · rw [h0,if_neg (by decide),if_neg (by decide),if_neg (by decide),if_neg (by decide),if_pos rfl] at hr
    split at hr
    case isFalse => cases hr
    rename_i hn9
    obtain ⟨gB,capB,cur,rfl,hB1,hB2⟩ := h5
    subst h4
    have hdl : e.kids.dropLast.length = e.names.length := by rw [List.length_dropLast,h3]; rfl
    obtain ⟨eb,heb⟩ : ∃ eb,e.kids = e.kids.dropLast ++ [eb] := by
      have h9 : e.kids ≠ [] := fun h => by rw [h] at h3; simp at h3
      exact ⟨e.kids.getLast h9,(List.dropLast_concat_getLast h9).symm⟩
    have hpB : PRep m H u eb := hkid e.names.length eb u (by rw [List.getElem?_append_right (by omega),h2]; simp) (by rw [heb,List.getElem?_append_right (by omega),hdl]; simp)
    have his : ∀ (i : Nat) (u : Value) (y : Ex),us'[i]? = some u → e.kids.dropLast[i]? = some y → PRep m H u y := fun i x y e1 e2 => hkid i y x (by rw [List.getElem?_append_left ((List.getElem?_eq_some_iff.1 e1).1)]; exact e1) (by rw [heb,List.getElem?_append_left ((List.getElem?_eq_some_iff.1 e2).1)]; exact e2)
    have hga : GAt w gB e.names us' := ⟨h2,lt_of_block (hz _ _ hB1),fun i nm x e1 e2 => by
      have hi := (List.getElem?_eq_some_iff.1 e1).1
      obtain ⟨y,hy⟩ : ∃ y,e.kids.dropLast[i]? = some y := ⟨_,List.getElem?_eq_getElem (by omega)⟩
      obtain ⟨T,b9,rfl⟩ := (his i x y e2 hy).val
      obtain ⟨c1,c2⟩ := row_bindU hz hB1 h2 hB2 e1 e2
      exact ⟨c1,c2,rfl⟩⟩
    rw [heb] at hr
    rw [h0]
    exact une_Rec hk.form (group_un hP h6 hga hdl his hpB h1 hn9 hr hz hg hk)
  · obtain ⟨y,z,hy,hp1,hp2⟩ := kids2' h1 hkid
    rw [h0,if_neg (by decide),if_neg (by decide),if_neg (by decide),if_neg (by decide),if_neg (by decide),if_pos rfl,hy] at hr
    simp only at hr
    split at hr
    · rename_i r1 r2 q1 q2
      cases hr
      rw [h0]
      exact une_Apply hP h4 hp1 hp2 q1 q2 hz hg hk
    · cases hr
  · obtain ⟨y,z,hy,hp1,hp2⟩ := kids2' h1 hkid
    rw [h0,if_neg (by decide),if_neg (by decide),if_neg (by decide),if_neg (by decide),if_neg (by decide),if_neg (by decide),if_pos rfl,hy] at hr
    simp only at hr
    split at hr
    · rename_i r1 r2 q1 q2
      cases hr
      rw [h0]
      exact une_Pair hP h4 hp1 hp2 q1 q2 hz hg hk
    · cases hr
theorem une_any {H : Nat → Option Obj} {mb : Nat} {ge : List (List UInt8 × Et)} : ∀ f,UNE H mb ge (unT ge f)
  | 0 => fun _ _ _ _ _ _ _ _ hr _ _ _ => by cases hr
  | f + 1 => une_step (une_any f)
theorem PRep.typ {W : TypeId} {H H' : Nat → Option Obj} (hW : W = 36) (hE : ∀ (k : Nat) (cs : Array Value) (T : TypeId) (fz : Nat × Nat),H k = some (.cells cs T fz) → T ≠ W → H' k = some (.cells cs T fz)) : ∀ (n : Nat) (v : Value) (x : Ex),PRep n H v x → PRep n H' v x
  | 0,_,_,h => h
  | n + 1,v,x,h => by
    obtain ⟨b,vs,h1,h2,h3,h4⟩ := h
    refine ⟨b,vs,h1,?_,h3,fun i y u h5 h6 => PRep.typ hW hE n u y (h4 i y u h5 h6)⟩
    subst hW
    rcases h2 with ⟨h0,t,h1,h2,h3,q⟩ | ⟨h0,t,h1,h2,h3,q⟩ | ⟨h0,t,u,h1,h2,h3,q⟩ | ⟨h0,u,v,y,h1,h2,q⟩ | ⟨h0,t,u,v,h1,h2,h3,q⟩ | ⟨h0,us,u,gv,h1,h2,h3,h4,⟨g,cap,cur,r1,r2,r3⟩,q⟩ | ⟨h0,u,v,h1,h2,q⟩ | ⟨h0,u,v,h1,h2,q⟩
    · exact Or.inl ⟨h0,t,h1,h2,h3,hE _ _ _ _ q (by decide)⟩
    · exact Or.inr (Or.inl ⟨h0,t,h1,h2,h3,hE _ _ _ _ q (by decide)⟩)
    · exact Or.inr (Or.inr (Or.inl ⟨h0,t,u,h1,h2,h3,hE _ _ _ _ q (by decide)⟩))
    · exact Or.inr (Or.inr (Or.inr (Or.inl ⟨h0,u,v,y,h1,h2,hE _ _ _ _ q (by decide)⟩)))
    · exact Or.inr (Or.inr (Or.inr (Or.inr (Or.inl ⟨h0,t,u,v,h1,h2,h3,hE _ _ _ _ q (by decide)⟩))))
    · exact Or.inr (Or.inr (Or.inr (Or.inr (Or.inr (Or.inl ⟨h0,us,u,gv,h1,h2,h3,h4,⟨g,cap,cur,r1,hE _ _ _ _ r2 (by decide),r3⟩,hE _ _ _ _ q (by decide)⟩)))))
    · exact Or.inr (Or.inr (Or.inr (Or.inr (Or.inr (Or.inr (Or.inl ⟨h0,u,v,h1,h2,hE _ _ _ _ q (by decide)⟩))))))
    · exact Or.inr (Or.inr (Or.inr (Or.inr (Or.inr (Or.inr (Or.inr ⟨h0,u,v,h1,h2,hE _ _ _ _ q (by decide)⟩))))))
def lessH (H : Nat → Option Obj) (q : Nat) (k : Nat) : Option Obj := if k = q then none else H k
theorem lessH_at {H : Nat → Option Obj} {q : Nat} : lessH H q q = none := by simp [lessH]
theorem lessH_fz {H : Nat → Option Obj} {q : Nat} {w : World} (h : Fz H w) : Fz (lessH H q) w := fun k o e => by
  unfold lessH at e
  split at e
  · cases e
  · exact h k o e
theorem lessH_rep {H : Nat → Option Obj} {q m : Nat} {v rv : Value} {x : Ex} {w : World} (h : Fz H w) (hb : w.heap[q]? = some (watB rv)) (hp : PRep m H v x) : PRep m (lessH H q) v x :=
  PRep.typ (W := 36) rfl (fun k cs T fz e hT => by
    unfold lessH
    rw [if_neg (fun e2 => ?_)]
    · exact e
    · have := h k _ e
      rw [e2,hb] at this
      unfold watB at this
      injection this with q
      injection q with _ q _
      exact hT q.symm) m v x hp
theorem GE2.nil {H H' : Nat → Option Obj} {w : World} {mb : Nat} (h : GE2 H w mb []) : GE2 H' w mb [] := by
  obtain ⟨gv,h1,h2⟩ := h
  refine ⟨gv,h1,fun nm => Or.inl ⟨?_,rfl⟩⟩
  rcases h2 nm with ⟨q,_⟩ | ⟨v,t,_,q,_⟩
  · exact q
  · cases q
theorem envok_nil : EnvOk [] [] [] := ⟨(fun k hk => by cases hk),fun _ _ => rfl⟩
theorem mk_map00 (W : World) : (Instr.makeMap 104 (some (.int .i64 ((([] : List (Option (List UInt8))).filter Option.isSome).length : Nat)))).run Tryz.prog W = .ok (.map (some W.heap.size)) (W.alloc (.map #[] 0)) := by kernel_rfl
theorem watchw_1 {s : List UInt8} {c : WCt} {most stop z : Nat} {L : List (List (List UInt8) × List (List UInt8))} {q : Nat} {x : Ex} (hs : s.length ≤ 300) (hx : exK s = some x) (hok : unT [] 60 x [] = some none) (p1 : recW [] most stop 60 x = some (L,.inl q)) (hf1 : 1 ≤ most) (hf2 : most ≤ 12) {mb : Nat} {w : World} (F : FM w mb [] []) (ad : Nat → Addr) (cs : Nat → Array Value) (ts : Nat → TypeId) (S : SW w ad cs ts) (hgl : GLb z ad w) (hzw : z ≤ c.wb) (hws : WS c stop w.heap.size [] [] w) :
    Calls Tryz.prog 27 #[.string (B s),.map (some mb),.int .i64 (most : Int),c.f] w fun e w' => (∃ base K,w.heap.size ≤ base ∧ WS c stop base K L w') ∧ Gb (fun k => k = c.wb) w w' ∧ e = .returned (.tuple #[.string (B []),errV (ad q)]) := by
  have hm1 : (1 : Int) ≤ (most : Int) := by omega
  have hm2 : (most : Int) ≤ 12 := by omega
  have hwl : c.wb < w.heap.size := hws.lo.1
  have HGL := hid (And.intro hgl hws)
  have HR := hid (read_x hs hx w ad cs ts S)
  have HS := hid (fun (W : World) (gW : w.grownBy W none) => schemes_ok [] [] [] W mb (F.kept gW (by simp)) List.nodup_nil (fun v hv => absurd hv (Nat.not_lt_zero _)) rfl (by decide) envok_nil (mk_map00 W) ad cs ts (S.grown gW))
  have HK := hid (And.intro hok p1)
  clear S hx F hgl hws hok p1
  go_enter Tryz.func27,Tryz.ntmps27
  go_wp2_with fail
  refine HR.out.mono ?_
  rintro e w1 ⟨g1,v,H1,m,rfl,z1,hp⟩
  have G1 := hid (And.intro g1 (And.intro z1 hp))
  obtain ⟨T0,b0,rfl⟩ := hp.val
  clear g1 z1 hp HR
  go_wp2_with fail
  refine (HS.out _ G1.out.1).mono ?_
  rintro e w2 ⟨g2,b2,H2,rfl,z2,ge2⟩
  have z12 := G1.out.2.1.grown g2
  have CK := hid (allKnown_e (une_any 60) G1.out.2.2 HK.out.1 (fun y h => by cases h) z12 (ge2.nil (H' := H1)))
  have hb2 : b2 ≠ c.wb := fun e => by
    obtain ⟨gv,q1,_⟩ := ge2
    obtain ⟨es,cl,q2⟩ := q1.isMap
    obtain ⟨rv,rows,q3,_⟩ := HGL.out.2.blk
    have q4 := (Gb.new (R := fun _ => False) (G1.out.1.trans g2)).at q3 id
    rw [e,q4] at q2
    unfold watB at q2
    cases q2
  have G2 := hid (And.intro (G1.out.1.trans g2) (And.intro z12 (And.intro G1.out.2.2 (ge2.nil (H' := lessH H1 c.wb)))))
  clear g2 z2 ge2 z12 HS G1
  go_wp2_with fail
  refine CK.out.mono ?_
  rintro e w3 ⟨g3,rfl⟩
  have gA := G2.out.1.trans g3
  obtain ⟨rv,rows,hbw,_⟩ := HGL.out.2.blk
  have ws3 := (HGL.out.2.off (Gb.new (R := fun _ => False) gA) (fun k e => e.elim)).high gA.size
  have CO := hid (ofw_1 (most := most) (stop := stop) (c := c) (L := L) (f := 60) (ge := []) (z := z) (ad := ad) (lessH_rep (G2.out.2.1.grown g3) ((Gb.new (R := fun _ => False) gA).at hbw id) G2.out.2.2.1) (lessH_fz (G2.out.2.1.grown g3)) (G2.out.2.2.2.grown g3).ge (by omega) (HGL.out.1.at (Gb.new (R := fun _ => False) gA) (fun k e => e.elim)) ws3 lessH_at hb2 hzw HK.out.2)
  have G3 := hid gA
  clear g3 G2 CK gA hbw ws3
  unfold WCt.f at CO ⊢
  go_wp2_with fail
  refine CO.out.mono ?_
  rintro e w4 ⟨⟨base,K,hbs,ws4⟩,g4,rfl⟩
  have g5 : w4.grownBy (w4.alloc (.cells #[.nilIface] 109)) none := World.grownBy_alloc _ _ _
  have G4 := hid (show (∃ base K,w.heap.size ≤ base ∧ WS c stop base K L (w4.alloc (.cells #[.nilIface] 109))) ∧ Gb (fun k => k = c.wb) w (w4.alloc (.cells #[.nilIface] 109)) from ⟨⟨base,K,Nat.le_trans G3.out.size hbs,ws4.off (Gb.new (R := fun _ => False) g5) (fun k e => e.elim)⟩,((Gb.new (R := fun k => k = c.wb) G3.out).tr g4).tr (Gb.new g5)⟩)
  clear g5
  clear g4 ws4 CO G3
  unfold errV
  go_wp2
  go_ret2
  exact ⟨G4.out.1,G4.out.2,rfl⟩
theorem watchw_0 {s : List UInt8} {c : WCt} {most stop z : Nat} {L : List (List (List UInt8) × List (List UInt8))} {σ : Sto} {cc : Nat} {t : Et} {s' : Ds} {x : Ex} (hs : s.length ≤ 300) (hx : exK s = some x) (hok : unT [] 60 x [] = some none) (p1 : recW [] most stop 60 x = some (L,.inr (σ,cc))) (p2 : generalU σ [] 60 cc = some t) (p3 : ncB 60 t = true) (p4 : draftS ⟨[],[]⟩ 1 130 t (ds0 []) = some s') (hf1 : 1 ≤ most) (hf2 : most ≤ 12) {mb : Nat} {w : World} (F : FM w mb [] []) (ad : Nat → Addr) (cs : Nat → Array Value) (ts : Nat → TypeId) (S : SW w ad cs ts) (hgl : GLb z ad w) (hzw : z ≤ c.wb) (hws : WS c stop w.heap.size [] [] w) :
    Calls Tryz.prog 27 #[.string (B s),.map (some mb),.int .i64 (most : Int),c.f] w fun e w' => (∃ base K,w.heap.size ≤ base ∧ WS c stop base K L w') ∧ Gb (fun k => k = c.wb) w w' ∧ e = .returned (.tuple #[.string (B s'.out),.nilIface]) := by
  have hm1 : (1 : Int) ≤ (most : Int) := by omega
  have hm2 : (most : Int) ≤ 12 := by omega
  have hwl : c.wb < w.heap.size := hws.lo.1
  have HGL := hid (And.intro hgl hws)
  have HR := hid (read_x hs hx w ad cs ts S)
  have HS := hid (fun (W : World) (gW : w.grownBy W none) => schemes_ok [] [] [] W mb (F.kept gW (by simp)) List.nodup_nil (fun v hv => absurd hv (Nat.not_lt_zero _)) rfl (by decide) envok_nil (mk_map00 W) ad cs ts (S.grown gW))
  have HK := hid (And.intro hok (And.intro p1 (And.intro p2 (And.intro p3 p4))))
  clear S hx F hgl hws hok p1 p2 p3 p4
  go_enter Tryz.func27,Tryz.ntmps27
  go_wp2_with fail
  refine HR.out.mono ?_
  rintro e w1 ⟨g1,v,H1,m,rfl,z1,hp⟩
  have G1 := hid (And.intro g1 (And.intro z1 hp))
  obtain ⟨T0,b0,rfl⟩ := hp.val
  clear g1 z1 hp HR
  go_wp2_with fail
  refine (HS.out _ G1.out.1).mono ?_
  rintro e w2 ⟨g2,b2,H2,rfl,z2,ge2⟩
  have z12 := G1.out.2.1.grown g2
  have CK := hid (allKnown_e (une_any 60) G1.out.2.2 HK.out.1 (fun y h => by cases h) z12 (ge2.nil (H' := H1)))
  have hb2 : b2 ≠ c.wb := fun e => by
    obtain ⟨gv,q1,_⟩ := ge2
    obtain ⟨es,cl,q2⟩ := q1.isMap
    obtain ⟨rv,rows,q3,_⟩ := HGL.out.2.blk
    have q4 := (Gb.new (R := fun _ => False) (G1.out.1.trans g2)).at q3 id
    rw [e,q4] at q2
    unfold watB at q2
    cases q2
  have G2 := hid (And.intro (G1.out.1.trans g2) (And.intro z12 (And.intro G1.out.2.2 (ge2.nil (H' := lessH H1 c.wb)))))
  clear g2 z2 ge2 z12 HS G1
  go_wp2_with fail
  refine CK.out.mono ?_
  rintro e w3 ⟨g3,rfl⟩
  have gA := G2.out.1.trans g3
  obtain ⟨rv,rows,hbw,_⟩ := HGL.out.2.blk
  have ws3 := (HGL.out.2.off (Gb.new (R := fun _ => False) gA) (fun k e => e.elim)).high gA.size
  have CO := hid (ofw_0 (most := most) (stop := stop) (c := c) (L := L) (f := 60) (ge := []) (z := z) (ad := ad) (lessH_rep (G2.out.2.1.grown g3) ((Gb.new (R := fun _ => False) gA).at hbw id) G2.out.2.2.1) (lessH_fz (G2.out.2.1.grown g3)) (G2.out.2.2.2.grown g3).ge (by omega) (HGL.out.1.at (Gb.new (R := fun _ => False) gA) (fun k e => e.elim)) ws3 lessH_at hb2 hzw HK.out.2.1 HK.out.2.2.1 HK.out.2.2.2.1)
  have G3 := hid gA
  clear g3 G2 CK gA hbw ws3
  unfold WCt.f at CO ⊢
  go_wp2_with fail
  refine CO.out.mono ?_
  rintro e w4 ⟨⟨base,K,hbs,ws4⟩,g4,u,H4,rfl,er4,z4⟩
  have g5 : w4.grownBy (w4.alloc (.cells #[u] 109)) none := World.grownBy_alloc _ _ _
  have CT := hid (one_any er4 HK.out.2.2.2.2 (z4.grown g5))
  have G4 := hid (And.intro g4 (And.intro hbs (And.intro ws4 g5)))
  obtain ⟨T4,b4,_,rfl⟩ := er_val er4
  clear g4 g5 er4 z4 CO ws4
  go_wp2_with fail
  refine CT.out.mono ?_
  rintro e w5 ⟨rfl,g5⟩
  have gZ := G4.out.2.2.2.trans g5
  have G5 := hid (show (∃ base K,w.heap.size ≤ base ∧ WS c stop base K L w5) ∧ Gb (fun k => k = c.wb) w w5 from ⟨⟨base,K,Nat.le_trans G3.out.size hbs,G4.out.2.2.1.off (Gb.new (R := fun _ => False) gZ) (fun k e => e.elim)⟩,((Gb.new (R := fun k => k = c.wb) G3.out).tr G4.out.1).tr (Gb.new gZ)⟩)
  clear g5 CT G4 gZ
  go_wp2
  go_ret2
  exact ⟨G5.out.1,G5.out.2,rfl⟩
end Go.Proofs.YtcdijppegfcoaabGreatDoor
namespace Go.Proofs.YtcdijppegfcoaabGreatDoor
open Go.RowKit Go.Maps Go.WideMaps
def SRow (w : World) (v : Value) (l : List (List UInt8)) : Prop :=
  ∃ ao cp,v = .slice ao l.length cp ∧ ∀ j,j < l.length → ∃ nb,ao = some ⟨nb,0,none⟩ ∧ nb < w.heap.size ∧ w.cell? ⟨nb,j,none⟩ = some (.string (B (l.getD j [])))
theorem SRow.nil (w : World) : SRow w (.slice none 0 0) [] := ⟨none,0,rfl,fun j hj => absurd hj (by simp)⟩
def upS (ts : List (List UInt8)) (n j : Nat) : List (Option (List UInt8)) := (ts.take j).map some ++ List.replicate (n - j) none
theorem upS_len {ts : List (List UInt8)} {n j : Nat} (h : ts.length = n) (hj : j ≤ n) : (upS ts n j).length = n := by
  simp [upS]; omega
theorem upS_at {ts : List (List UInt8)} {n j : Nat} (h : ts.length = n) (hj : j < n) : (upS ts n j).getD j none = none := by
  have e : (List.replicate (n - j) (none : Option (List UInt8)))[0]? = some none := by rw [List.getElem?_replicate]; rw [if_pos (by omega)]
  unfold upS
  rw [List.getD_eq_getElem?_getD,List.getElem?_append_right (by simp; omega)]
  simp only [List.length_map,List.length_take]
  rw [show j - min j ts.length = 0 by omega,e]
  rfl
theorem upS_step {ts : List (List UInt8)} {n j : Nat} (h : ts.length = n) (hj : j < n) : (upS ts n j).set j (some (ts.getD j [])) = upS ts n (j + 1) := by
  have e1 : ts[j]? = some (ts.getD j []) := by rw [List.getD_eq_getElem?_getD,List.getElem?_eq_getElem (by omega)]; rfl
  unfold upS
  rw [List.set_append,if_neg (by simp; omega),List.take_add_one,e1]
  simp only [List.length_map,List.length_take]
  rw [show j - min j ts.length = 0 by omega,show n - j = (n - (j + 1)) + 1 by omega,List.replicate_succ]
  simp
theorem mk_env (w : World) : (Instr.makeMap 60 none).run Tryz.prog w = .ok (.map (some w.heap.size)) (w.alloc (.map #[] 0)) := by kernel_rfl
theorem env_q (ns ts : List (List UInt8)) (w : World) (vn vt : Value) (hn : SRow w vn ns) (ht : SRow w vt ts) (hl : ts.length = ns.length) (hL : ns.length ≤ 1000) (hd : ns.Nodup) (hnl : ∀ i,i < ns.length → (ns.getD i []).length ≤ 300) (htl : ∀ i,i < ts.length → (ts.getD i []).length ≤ 1000000) :
    Calls Tryz.prog 26 #[vn,vt] w fun e w' => w.grownBy w' none ∧ e = .returned (.map (some w.heap.size)) ∧ FM w' w.heap.size ns (ts.map some) := by
  obtain ⟨an,cn,rfl,hn⟩ := hn
  obtain ⟨at',ct,rfl,ht⟩ := ht
  have HN := hid hn
  have HT := hid ht
  have HD := hid (And.intro hd (And.intro hnl htl))
  have F0 := hid (FM.new w ns ns.length)
  have u0 : upS ts ns.length 0 = List.replicate ns.length none := by simp [upS]
  rw [← u0] at F0
  clear hn ht hd hnl htl u0
  rw [hl]
  have hmk := mk_env w
  go_enter Tryz.func26,Tryz.ntmps26
  go_wp2_with fail
  have hws0 : w.heap.size < (w.alloc (.map #[] 0)).heap.size := by simp
  go_loopg [10] (ns.length + 1) (fun gh i wi => ∃ j : Nat,j ≤ ns.length ∧ i = .int .i64 j ∧ gh = ns.length - j + 1 ∧ Hid (FM wi w.heap.size ns (upS ts ns.length j)) ∧ Hid ((w.alloc (.map #[] 0)).grownBy wi (some w.heap.size)))
  case atStart => exact ⟨0,by omega,rfl,by omega,F0,hid (World.grownBy.refl _ _)⟩
  case round =>
    obtain ⟨j,hj,rfl,hgj,HF,HG⟩ := hrel
    by_cases hjl : j < ns.length
    · obtain ⟨nb,rfl,hnb,hc1⟩ := HN.out j hjl
      obtain ⟨tb,rfl,htb,hc2⟩ := HT.out j (by omega)
      obtain ⟨nm,hnm⟩ : ∃ nm,nm = ns.getD j [] := ⟨_,rfl⟩
      obtain ⟨tx,htx⟩ : ∃ tx,tx = ts.getD j [] := ⟨_,rfl⟩
      have d1 : wr.cell? ⟨nb,j,none⟩ = some (.string (B nm)) := by
        rw [World.cell?_of_block (a := ⟨nb,j,none⟩) (HG.out.block nb (by simp; omega) (by simp; omega)),World.cell?_of_block (a := ⟨nb,j,none⟩) (Below.heap_alloc _ _ _ hnb),hc1,hnm]
      have d2 : wr.cell? ⟨tb,j,none⟩ = some (.string (B tx)) := by
        rw [World.cell?_of_block (a := ⟨tb,j,none⟩) (HG.out.block tb (by simp; omega) (by simp; omega)),World.cell?_of_block (a := ⟨tb,j,none⟩) (Below.heap_alloc _ _ _ htb),hc2,htx]
      obtain ⟨w2,hup,hF2,hg2⟩ := FM.store (w := wr.drew) (FM.same HF.out rfl) (upS_len hl hj) hL HD.out.1 hjl (HD.out.2.1 j hjl) (upS_at hl hjl) (HD.out.2.2 j (by omega))
      rw [upS_step hl hjl] at hF2
      rw [← hnm,← htx] at hup
      have H2 := hid (And.intro hF2 ((grown_drew HG.out).trans hg2))
      have hj2 : ((j : Nat) : Int) < ((ns.length : Nat) : Int) := by omega
      clear hF2 hg2 hc1 hc2 hnm htx
      go_wp2_with fail
      go_region
      go_wp2_with fail
      go_roundg (ns.length - (j + 1) + 1)
      case measure => omega
      case rel => exact ⟨j + 1,by omega,by go_num,rfl,hid H2.out.1,hid H2.out.2⟩
    · have hje : j = ns.length := by omega
      subst hje
      have e1 : upS ts ns.length ns.length = ts.map some := by
        unfold upS
        rw [← hl,List.take_length,Nat.sub_self]
        simp
      have HR := hid (show w.grownBy wr none ∧ FM wr w.heap.size ns (ts.map some) from ⟨⟨HG.out.os,HG.out.tape,HG.out.output,by have := HG.out.size; simp at this; omega,fun k hk _ => by
        rw [HG.out.block k (by simp; omega) (by simp; omega),Below.heap_alloc _ _ _ hk]⟩,e1 ▸ HF.out⟩)
      clear HF HG e1
      go_wp2
      go_ret
      exact ⟨HR.out.1,rfl,HR.out.2⟩
theorem typed_neq (a b : ByteArray) : ∃ r,∀ w : World,(binOp .neq 68 (.agg #[.string a]) (.agg #[.string b])).run Tryz.prog w = .ok (.bool r) w := by
  by_cases h : a.toList = b.toList
  · exact ⟨false,fun w => by simp [go_sem,h]⟩
  · exact ⟨true,fun w => by simp [go_sem,h]⟩
theorem equal_q (b1 b2 : Nat) (m1 m2 : List (List UInt8)) (g1 g2 : List (Option (List UInt8))) (w : World) (F1 : FM w b1 m1 g1) (F2 : FM w b2 m2 g2) :
    Calls Tryz.prog 31 #[.map (some b1),.map (some b2)] w fun e w' => (∃ r,e = .returned (.bool r)) ∧ w.grownBy w' none := by
  obtain ⟨D1,h1,-⟩ := F1
  obtain ⟨D2,h2,-⟩ := F2
  generalize (g1.filter Option.isSome).length = n1 at h1
  generalize (g2.filter Option.isSome).length = n2 at h2
  have l1 := fun ty => h1.len (t := 60) Tryz.underlying60 ty
  have l2 := fun ty => h2.len (t := 60) Tryz.underlying60 ty
  have hb2 := h2.lt
  by_cases hsz : Maps.size D1 = Maps.size D2
  · go_enter Tryz.func31,Tryz.ntmps31
    go_wp2_with (first
      | (at_range; refine wpList_range_own _ rfl _ 60 rfl 9 68 keyLaw Tryz.underlying60 tyR b1 n1 _ rfl h1 ?_; intro w0 hrg0 hg0 hs0)
      | go_in)
    go_frame
    go_loopw [16] (fun _ wr => ∃ (left : Lit → Bool) (cnt : Nat),wr.ranges Tryz.prog 9 tyR b1 w.heap.size n1 D1 left cnt ∧ wr.ownsMap Tryz.prog 9 tyR b2 n2 D2 ∧ w.grownBy wr none)
      (fun _ wr => wr.rangeLeft b1 w.heap.size)
    case atStart => exact ⟨_,_,hrg0,h2.kept hg0 (by simp),hg0⟩
    case round =>
      obtain ⟨left,cnt,hrg,h2r,hgw⟩ := hrel
      go_wp2_with (first
        | (at_next; refine wpList_next_ranges _ rfl _ rfl 9 keyLaw tyR id id (fun key _ _ => ⟨key,rfl⟩) (fun v _ _ => ⟨v,rfl⟩) b1 w.heap.size n1 _ _ _ rfl hrg ?_ ?_)
        | go_in)
      · intro _ hl0
        go_wp2
        go_ret
        exact ⟨⟨_,rfl⟩,hgw⟩
      · intro x c kl yd yp w1 cnt1 hkey hlx hv hat hrg1 hlt hg1 hs1 hen
        have hgw1 : w.grownBy w1 none := hgw.andThen hg1 (fun j hj => by cases hj; exact Or.inl (Nat.le_refl _))
        have h2w1 := h2r.kept hg1 (fun e => by have := Option.some.inj e; omega)
        obtain ⟨sv,rfl,_⟩ := tyR_inv hv
        have hgA : w1.grownBy (w1.alloc (.cells #[.string sv] 68)) none := World.grownBy_alloc _ _ _
        obtain ⟨u,ps,hr,hu⟩ := (h2w1.kept hgA (by simp)).look_ok keyLaw Tryz.underlying60 (zeroTyped _) (tyR_mk (t := []) (by simp)) hkey
        obtain ⟨su,rfl,_⟩ := tyR_inv hu
        obtain ⟨r,hneq⟩ := typed_neq sv su
        have hgB : (w1.alloc (.cells #[.string sv] 68)).grownBy ((w1.alloc (.cells #[.string sv] 68)).alloc (.cells #[.string su] 68)) none := World.grownBy_alloc _ _ _
        have HE := hid (And.intro (hrg1.kept (hgA.trans hgB) (by simp) (by simp)) (And.intro (h2w1.kept (hgA.trans hgB) (by simp)) (hgw1.trans (hgA.trans hgB))))
        have HM := hid (And.intro hlt hrg)
        clear hat hrg1 h2w1 hgw1 hgA hgB hu hrg h2r hgw hrg0 hg0 h1 h2 hlt
        cases hh : Maps.has D2 kl
        · rw [hh] at hr
          go_wp2
          go_ret
          exact ⟨⟨_,rfl⟩,HE.out.2.2⟩
        · rw [hh] at hr
          cases r
          · go_wp2_with fail
            go_roundw
            case rel => exact ⟨_,cnt1,HE.out⟩
            case measure => rw [HE.out.1.left_eq,HM.out.2.left_eq]; exact HM.out.1
          · go_wp2
            go_ret
            exact ⟨⟨_,rfl⟩,HE.out.2.2⟩
  · have hne : ¬ ((Maps.size D1 : Int) = (Maps.size D2 : Int)) := fun e => hsz (by exact_mod_cast e)
    go_enter Tryz.func31,Tryz.ntmps31
    go_wp2
    go_ret
    exact ⟨⟨_,rfl⟩,World.grownBy.refl _ _⟩
theorem FM.gn {w w' : World} {mb : Nat} {ns : List (List UInt8)} {g : List (Option (List UInt8))} (h : FM w mb ns g) (hg : Gn w w') : FM w' mb ns g := h.same (hg.block mb h.lt)
end Go.Proofs.YtcdijppegfcoaabGreatDoor
