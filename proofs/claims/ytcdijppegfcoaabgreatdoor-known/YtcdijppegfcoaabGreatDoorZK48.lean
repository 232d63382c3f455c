import Derived.Test.YtcdijppegfcoaabGreatDoorZK46
import Derived.Test.YtcdijppegfcoaabGreatDoorZK47
import Derived.Test.YtcdijppegfcoaabGreatDoorZK43
import Derived.Test.YtcdijppegfcoaabGreatDoorZK44
import Derived.Test.YtcdijppegfcoaabGreatDoorZK45
import Derived.Test.YtcdijppegfcoaabGreatDoorZK38
import Derived.Test.YtcdijppegfcoaabGreatDoorZK40
import Derived.Test.YtcdijppegfcoaabGreatDoorZK26
set_option maxRecDepth 100000
set_option maxHeartbeats 4000000
namespace Go.Proofs.YtcdijppegfcoaabGreatDoor
open Go.RowKit
theorem une_If {H : Nat → Option Obj} {mb b m : Nat} {ge : List (List UInt8 × Et)} {l : List (List (List UInt8))} {kv dep u1 u2 u3 : Value} {e1 e2 e3 : Ex} {r s t : UR} {P : Ex → List (List (List UInt8)) → Option UR} (hP : UNE H mb ge P) {w : World} (hb : H b = some (.cells #[dep,u1,u2,u3] 183 (0,0))) (hp1 : PRep m H u1 e1) (hp2 : PRep m H u2 e2) (hp3 : PRep m H u3 e3) (h1 : P e1 l = some r) (h2 : P e2 l = some s) (h3 : P e3 l = some t) (hz : Fz H w) (hg : GE2 H w mb ge) (hk : KF mb w l kv) :
    Calls Tryz.prog 71 #[.iface 181 (.pointer (some ⟨b,0,none⟩)),kv] w (UNP1 H (orU r (orU s t)) w) := by
  rcases hk.form with ⟨q1,rfl⟩ | ⟨q1,q2,rfl⟩
  · exact une_If0 hP hb hp1 hp2 hp3 h1 h2 h3 hz hg hk
  · exact une_If1 hP hb hp1 hp2 hp3 h1 h2 h3 hz hg hk
theorem une_Rec {H : Nat → Option Obj} {b : Nat} {r : UR} {kv : Value} {w : World} (hk : (∃ b,kv = .func (.func 72) #[] #[.pointer (some ⟨b,0,none⟩)]) ∨ ∃ b b2,kv = .func (.func 148) #[] #[.pointer (some ⟨b,0,none⟩),.pointer (some ⟨b2,0,none⟩)]) (hc : Calls Tryz.prog 118 #[.pointer (some ⟨b,0,none⟩),kv] w (UNP1 H r w)) :
    Calls Tryz.prog 71 #[.iface 190 (.pointer (some ⟨b,0,none⟩)),kv] w (UNP1 H r w) := by
  have CU := hid hc
  have a0 := xA_LetRec_Name b
  have a1 := xA_LetRec_Fun b
  have a2 := xA_LetRec_If b
  have a3 := xA_LetRec_Let b
  have a4 := xA_LetRec_LetRec b
  clear hc
  rcases hk with ⟨q1,rfl⟩ | ⟨q1,q2,rfl⟩
  all_goals
    go_enter Tryz.func71,Tryz.ntmps71
    go_wp2_with fail
    refine CU.out.mono ?_
    rintro e w1 ⟨x,rfl,ux,g1⟩
    have G1 := hid (And.intro ux g1)
    clear ux g1 CU
    go_wp2
    go_ret
    exact ⟨x,rfl,G1.out.1,G1.out.2⟩
theorem row_bindU {H : Nat → Option Obj} {g : Nat} {cur : Array Value} {ns : List (List UInt8)} {us : List Value} {w : World} (hz : Fz H w) (h1 : H g = some (.cells cur 187 (0,0))) (hl : us.length = ns.length) (h2 : cur.toList.take (ns.length * 2) = bindCells ns us) {j : Nat} {n : List UInt8} {u : Value} (e1 : ns[j]? = some n) (e2 : us[j]? = some u) : w.cell? ⟨g,j * 2,none⟩ = some (.string (B n)) ∧ w.cell? ⟨g,j * 2 + 1,none⟩ = some u := by
  have hj := (List.getElem?_eq_some_iff.1 e1).1
  obtain ⟨q1,q2⟩ := bindCells_get ns us j n u hl e1 e2
  rw [← h2,List.getElem?_take,if_pos (by omega)] at q1 q2
  have hgb := hz _ _ h1
  exact ⟨blk_c hgb _ (by simpa using q1),blk_c hgb _ (by simpa using q2)⟩
theorem une_step {H : Nat → Option Obj} {mb : Nat} {ge : List (List UInt8 × Et)} {P : Ex → List (List (List UInt8)) → Option UR} (hP : UNE H mb ge P) : UNE H mb ge (fun e l => unF P (unR P) ge e l) := by
  intro e v m l kv r w hp hr hz hg hk
  simp only [] at hr
  cases m with
  | zero => exact absurd hp id
  | succ m =>
  obtain ⟨b,us,rfl,hn,hl,hkid⟩ := hp
  unfold unF at hr
  rcases hn with ⟨h0,t,h1,h2,h3,h4⟩ | ⟨h0,t,h1,h2,h3,h4⟩ | ⟨h0,t,u,h1,h2,rfl,h4⟩ | ⟨h0,u,v,y,h1,rfl,h4⟩ | ⟨h0,t,u,v,h1,h2,rfl,h4⟩ | ⟨h0,us',u,gv,h1,h2,h3,h4,h5,h6⟩ | ⟨h0,u,v,h1,rfl,h4⟩ | ⟨h0,u,v,h1,rfl,h4⟩
  · rw [if_pos h0,h1] at hr
    simp only at hr
    split at hr
    · rename_i hn9
      cases hr
      rw [h0]
      exact une_name h4 hn9 hz hg hk
    · cases hr
  · rw [h0,if_neg (by decide),if_neg (by decide),if_neg (by decide),if_neg (by decide),if_neg (by decide),if_neg (by decide),if_neg (by decide),if_pos rfl] at hr
    cases hr
    rw [h0]
    refine (unbound_num b kv w).mono ?_
    rintro e w' ⟨rfl,rfl⟩
    exact ⟨none,rfl,rfl,(Gb.refl _ _).none⟩
  · obtain ⟨y,hy,hp⟩ := kids1 h2 hkid
    rw [h0,if_neg (by decide),if_pos rfl,h1,hy] at hr
    rw [h0]
    exact une_fun hP h4 hp hr hz hg hk
  · obtain ⟨y1,y2,y3,hy,hp1,hp2,hp3⟩ : ∃ y1 y2 y3,e.kids = [y1,y2,y3] ∧ PRep m H u y1 ∧ PRep m H v y2 ∧ PRep m H y y3 := by
      match hk9 : e.kids,h1 with
      | [y1,y2,y3],_ => exact ⟨y1,y2,y3,rfl,hkid 0 y1 u rfl (by rw [hk9]; rfl),hkid 1 y2 v rfl (by rw [hk9]; rfl),hkid 2 y3 y rfl (by rw [hk9]; rfl)⟩
    rw [h0,if_neg (by decide),if_neg (by decide),if_pos rfl,hy] at hr
    simp only at hr
    split at hr
    · rename_i r1 r2 r3 q1 q2 q3
      cases hr
      rw [h0]
      exact une_If hP h4 hp1 hp2 hp3 q1 q2 q3 hz hg hk
    · cases hr
  · obtain ⟨y,z,hy,hp1,hp2⟩ := kids2' h2 hkid
    rw [h0,if_neg (by decide),if_neg (by decide),if_neg (by decide),if_pos rfl,h1,hy] at hr
    simp only at hr
    split at hr
    · rename_i r1 r2 q1 q2
      cases hr
      rw [h0]
      exact une_Let hP h4 hp1 hp2 q1 q2 hz hg hk
    · cases hr
  · rw [h0,if_neg (by decide),if_neg (by decide),if_neg (by decide),if_neg (by decide),if_pos rfl] at hr
    split at hr
    case isFalse => cases hr
    rename_i hn9
    obtain ⟨gB,capB,cur,rfl,hB1,hB2⟩ := h5
    subst h4
    have hdl : e.kids.dropLast.length = e.names.length := by rw [List.length_dropLast,h3]; rfl
    obtain ⟨eb,heb⟩ : ∃ eb,e.kids = e.kids.dropLast ++ [eb] := by
      have h9 : e.kids ≠ [] := fun h => by rw [h] at h3; simp at h3
      exact ⟨e.kids.getLast h9,(List.dropLast_concat_getLast h9).symm⟩
    have hpB : PRep m H u eb := hkid e.names.length eb u (by rw [List.getElem?_append_right (by omega),h2]; simp) (by rw [heb,List.getElem?_append_right (by omega),hdl]; simp)
    have his : ∀ (i : Nat) (u : Value) (y : Ex),us'[i]? = some u → e.kids.dropLast[i]? = some y → PRep m H u y := fun i x y e1 e2 => hkid i y x (by rw [List.getElem?_append_left ((List.getElem?_eq_some_iff.1 e1).1)]; exact e1) (by rw [heb,List.getElem?_append_left ((List.getElem?_eq_some_iff.1 e2).1)]; exact e2)
    have hga : GAt w gB e.names us' := ⟨h2,lt_of_block (hz _ _ hB1),fun i nm x e1 e2 => by
      have hi := (List.getElem?_eq_some_iff.1 e1).1
      obtain ⟨y,hy⟩ : ∃ y,e.kids.dropLast[i]? = some y := ⟨_,List.getElem?_eq_getElem (by omega)⟩
      obtain ⟨T,b9,rfl⟩ := (his i x y e2 hy).val
      obtain ⟨c1,c2⟩ := row_bindU hz hB1 h2 hB2 e1 e2
      exact ⟨c1,c2,rfl⟩⟩
    rw [heb] at hr
    rw [h0]
    exact une_Rec hk.form (group_un hP h6 hga hdl his hpB h1 hn9 hr hz hg hk)
  · obtain ⟨y,z,hy,hp1,hp2⟩ := kids2' h1 hkid
    rw [h0,if_neg (by decide),if_neg (by decide),if_neg (by decide),if_neg (by decide),if_neg (by decide),if_pos rfl,hy] at hr
    simp only at hr
    split at hr
    · rename_i r1 r2 q1 q2
      cases hr
      rw [h0]
      exact une_Apply hP h4 hp1 hp2 q1 q2 hz hg hk
    · cases hr
  · obtain ⟨y,z,hy,hp1,hp2⟩ := kids2' h1 hkid
    rw [h0,if_neg (by decide),if_neg (by decide),if_neg (by decide),if_neg (by decide),if_neg (by decide),if_neg (by decide),if_pos rfl,hy] at hr
    simp only at hr
    split at hr
    · rename_i r1 r2 q1 q2
      cases hr
      rw [h0]
      exact une_Pair hP h4 hp1 hp2 q1 q2 hz hg hk
    · cases hr
theorem une_any {H : Nat → Option Obj} {mb : Nat} {ge : List (List UInt8 × Et)} : ∀ f,UNE H mb ge (unT ge f)
  | 0 => fun _ _ _ _ _ _ _ _ hr _ _ _ => by cases hr
  | f + 1 => une_step (une_any f)
theorem names_a (w : World) : Calls Tryz.prog 33 #[] w fun e w' => ∃ b,e = .returned (.slice (some ⟨b,0,none⟩) 10 10) ∧ SRow w' (.slice (some ⟨b,0,none⟩) 10 10) envN ∧ w.grownBy w' none := by
  refine (names_k w).mono ?_
  rintro e w' ⟨rfl,rfl⟩
  exact ⟨_,rfl,SRow.ten (heap_alloc_new _ _),World.grownBy_alloc _ _ _⟩
theorem types_a (w : World) : Calls Tryz.prog 34 #[] w fun e w' => ∃ b,e = .returned (.slice (some ⟨b,0,none⟩) 10 10) ∧ SRow w' (.slice (some ⟨b,0,none⟩) 10 10) envT ∧ w.grownBy w' none := by
  refine (types_k w).mono ?_
  rintro e w' ⟨rfl,rfl⟩
  exact ⟨_,rfl,SRow.ten (heap_alloc_new _ _),World.grownBy_alloc _ _ _⟩
theorem kinfer_g {s tx : List UInt8} {a b c d : Int} {nm : List UInt8} {w : World} (CI : ∀ vn vt W,w.grownBy W none → SRow W vn envN → SRow W vt envT → Calls Tryz.prog 20 #[.string (B s),vn,vt,.int .i64 6] W fun e w' => Gn W w' ∧ ∃ r,e = .returned (.tuple #[.string (B tx),f5 a b (B nm) c d,.bool r])) :
    Calls Tryz.prog 16 #[.string (B s)] w fun e w' => Gn w w' ∧ e = .returned (.tuple #[.string (B tx),f5 a b (B nm) c d]) := by
  have HC := hid CI
  clear CI
  go_enter Tryz.func16,Tryz.ntmps16
  go_wp2_with fail
  refine (names_a _).mono ?_
  rintro e w1 ⟨b1,rfl,r1,g1⟩
  have n1 : w1.heap[w.heap.size]? = some (.cells #[.int .i64 0,.int .i64 0,.string (B []),.int .i64 0,.int .i64 0] 23 (0,0)) := (g1.block _ (by simp) (by simp)).trans (heap_alloc_new _ _)
  have Q1 := hid (And.intro r1 (And.intro ((World.grownBy_alloc w _ none).trans g1) n1))
  clear r1 g1 n1
  go_wp2_with fail
  refine (types_a _).mono ?_
  rintro e w2 ⟨b2,rfl,r2,g2⟩
  have CI := hid (HC.out _ _ w2 (Q1.out.2.1.trans g2) (Q1.out.1.gn (Gn.of g2)) r2)
  have Q2 := hid (And.intro (Q1.out.2.1.trans g2) ((g2.block _ (lt_of_block Q1.out.2.2) (by simp)).trans Q1.out.2.2))
  clear r2 g2 Q1 HC
  go_wp2_with fail
  refine CI.out.mono ?_
  rintro e w3 ⟨g3,r,rfl⟩
  have n3 : w3.heap[w.heap.size]? = some (.cells #[.int .i64 0,.int .i64 0,.string (B []),.int .i64 0,.int .i64 0] 23 (0,0)) := (g3.block _ (lt_of_block Q2.out.2)).trans Q2.out.2
  have l3 := lt_of_block n3
  have Q3 := hid (And.intro ((Gn.of Q2.out.1).trans g3) n3)
  obtain ⟨⟨q0,q1,q2,q3,q4⟩,f0,f1,f2,f3,f4⟩ := five_c n3
  clear g3 CI Q2 n3
  unfold f5 at *
  go_wp2_with fail
  have n4 : (w3.alloc (.cells #[.int .i64 a,.int .i64 b,.string (B nm),.int .i64 c,.int .i64 d] 23)).heap[w.heap.size]? = some (.cells #[.int .i64 0,.int .i64 0,.string (B []),.int .i64 0,.int .i64 0] 23 (0,0)) := by
    rw [Below.heap_alloc _ _ _ l3]; exact Q3.out.2
  have n5 : (w3.alloc (.cells #[.int .i64 a,.int .i64 b,.string (B nm),.int .i64 c,.int .i64 d] 23)).heap[w3.heap.size]? = some (.cells #[.int .i64 a,.int .i64 b,.string (B nm),.int .i64 c,.int .i64 d] 23 (0,0)) := heap_alloc_new _ _
  have G4 := hid (Q3.out.1.trans (Gn.of (World.grownBy_alloc w3 (.cells #[.int .i64 a,.int .i64 b,.string (B nm),.int .i64 c,.int .i64 d] 23) none)))
  clear q0 q1 q2 q3 q4 f0 f1 f2 f3 f4
  have hne : w.heap.size ≠ w3.heap.size := by omega
  generalize w3.alloc (.cells #[.int .i64 a,.int .i64 b,.string (B nm),.int .i64 c,.int .i64 d] 23) = W4 at *
  generalize w3.heap.size = bb at *
  obtain ⟨⟨q0,q1,q2,q3,q4⟩,f0,f1,f2,f3,f4⟩ := five_c n4
  obtain ⟨⟨p0,p1,p2,p3,p4⟩,_⟩ := five_c n5
  clear n4 n5 Q3
  go_region
  all_goals go_wp2
  all_goals
    refine bodyPost_ret (v := .tuple #[.string (B tx),f5 a b (B nm) c d]) (by simp [results,Tryz.results16,go_sem,q0,q1,q2,q3,q4]; rfl) rfl ?_
    exact ⟨(G4.out.set5 (Nat.le_refl _) _ _ _ _ _).drew,rfl⟩
def outT (r : Sum (Sum (List UInt8 × Nat) Nat) (List UInt8)) : List UInt8 := match r with
  | .inr tx => tx
  | .inl _ => []
def outA (r : Sum (Sum (List UInt8 × Nat) Nat) (List UInt8)) : Int := match r with
  | .inr _ => 0
  | .inl (.inl _) => 4
  | .inl (.inr q) => errNo q
def outB (r : Sum (Sum (List UInt8 × Nat) Nat) (List UInt8)) : Int := match r with
  | .inl (.inl y) => (y.2 : Int)
  | _ => 0
def outN (r : Sum (Sum (List UInt8 × Nat) Nat) (List UInt8)) : List UInt8 := match r with
  | .inl (.inl y) => y.1
  | _ => []
def outOk (r : Sum (Sum (List UInt8 × Nat) Nat) (List UInt8)) : Prop := match r with
  | .inr _ => True
  | .inl (.inl y) => y.1.length ≤ 300
  | .inl (.inr q) => q < 8
theorem knK_out {s : List UInt8} {r : Sum (Sum (List UInt8 × Nat) Nat) (List UInt8)} (h : knK s r = true) : s.length ≤ 300 ∧ ∃ x,exK s = some x ∧ outK envG 6 x = some r := by
  unfold knK at h
  simp only [Bool.and_eq_true,decide_eq_true_eq] at h
  refine ⟨h.1,?_⟩
  cases e : exK s with
  | none => rw [e] at h; simp at h
  | some x => rw [e] at h; simp at h; exact ⟨x,rfl,h.2⟩
theorem watch_k {s : List UInt8} {r : Sum (Sum (List UInt8 × Nat) Nat) (List UInt8)} {x : Ex} (hs : s.length ≤ 300) (hx : exK s = some x) (hr : outK envG 6 x = some r) (ho : outOk r) {mb : Nat} {w : World} (F : FM w mb envN (envT.map some)) (ad : Nat → Addr) (cs : Nat → Array Value) (ts : Nat → TypeId) (S : SW w ad cs ts) (htab : Lib.TabIs Tryz.prog w "internal/strconv.uint64pow10" .u64 Lib.pow10Tab) :
    Calls Tryz.prog 27 #[.string (B s),.map (some mb),.int .i64 6,.nilFunc] w fun e w' => w.grownBy w' none ∧ ∃ v,e = .returned (.tuple #[.string (B (outT r)),v]) ∧ (v = .nilIface ∨ ∃ p q,v = .iface p (.pointer (some q))) ∧ Calls Tryz.prog 22 #[v] w' fun e w'' => e = .returned (f5 (outA r) (outB r) (B (outN r)) 0 0) ∧ Gn w' w'' := by
  have hall : ∀ v,v < envN.length → ((envT.map some).getD v none).isSome = true := fun v hv => by rw [envT_some v hv]; rfl
  unfold outK at hr
  cases hu : unT envG 60 x [] with
  | none => rw [hu] at hr; cases hr
  | some u =>
  rw [hu] at hr
  cases u with
  | some y =>
    cases hr
    exact (watch_e2 (most := 6) hs hx (fun _ _ => une_any 60) hu ho (by decide) (by decide) F env_nodup hall rfl (by decide) env_ok mk_map10 ad cs ts S htab).mono fun e w' ⟨g,b,he,hb,_⟩ =>
      ⟨g,_,he,Or.inr ⟨_,_,rfl⟩,(fault_unb w' ad cs ts (S.grown g) b _ _ hb).mono fun e w'' h => ⟨h.1,Gn.of h.2⟩⟩
  | none =>
  simp only at hr
  cases hp : partE envG 6 60 x [] ⟨[],[]⟩ with
  | none => rw [hp] at hr; cases hr
  | some z =>
  rw [hp] at hr
  cases z with
  | inl q =>
    cases hr
    exact (watch_e1 (most := 6) hs hx (fun _ _ => une_any 60) hu hp (by decide) (by decide) F env_nodup hall rfl (by decide) env_ok mk_map10 ad cs ts S htab).mono fun e w' ⟨g,he⟩ =>
      ⟨g,_,he,Or.inr ⟨_,_,rfl⟩,fault_err w' ad cs ts (S.grown g) q ho⟩
  | inr z =>
  simp only at hr
  cases hg : generalU z.1 [] 60 z.2 with
  | none => rw [hg] at hr; cases hr
  | some t =>
  rw [hg] at hr
  simp only at hr
  split at hr
  case isFalse => cases hr
  rename_i hn
  cases hd : draftS ⟨[],[]⟩ 1 130 t (ds0 []) with
  | none => rw [hd] at hr; cases hr
  | some s' =>
  rw [hd] at hr
  cases hr
  exact (watch_e0 (most := 6) hs hx (fun _ _ => une_any 60) hu hp hg hn hd (by decide) (by decide) F env_nodup hall rfl (by decide) env_ok mk_map10 ad cs ts S htab).mono fun e w' ⟨g,he⟩ =>
    ⟨g,_,he,Or.inl rfl,(fault_nil w').mono fun e w'' h => ⟨h.1,Gn.of h.2⟩⟩
theorem kinfer_k {s : List UInt8} {r : Sum (Sum (List UInt8 × Nat) Nat) (List UInt8)} (h : knK s r = true) (ho : outOk r) (w : World) (ad : Nat → Addr) (cs : Nat → Array Value) (ts : Nat → TypeId) (S : SW w ad cs ts) (htab : Lib.TabIs Tryz.prog w "internal/strconv.uint64pow10" .u64 Lib.pow10Tab) :
    Calls Tryz.prog 16 #[.string (B s)] w fun e w' => Gn w w' ∧ e = .returned (.tuple #[.string (B (outT r)),f5 (outA r) (outB r) (B (outN r)) 0 0]) := by
  obtain ⟨hs,x,hx,hr⟩ := knK_out h
  have tabG : ∀ W,w.grownBy W none → Lib.TabIs Tryz.prog W "internal/strconv.uint64pow10" .u64 Lib.pow10Tab := fun W g => (GLb.up (GLb.of S htab) g).tab
  exact kinfer_g fun vn vt W gW r1 r2 => pinfer (B s) 6 envN envT vn vt (outT r) (outA r) (outB r) (B (outN r)) 0 0 W r1 r2 rfl (by decide) env_nodup (fun i hi => envN_le i hi) (fun i hi => Nat.le_trans (envT_le i hi) (by decide)) fun W2 mb gW2 hF =>
    (infer_w (B s) mb 6 W2 (B (outT r)) _ (watch_k hs hx hr ho hF ad cs ts (S.grown (gW.trans gW2)) (tabG _ (gW.trans gW2))))
def shX (s t : List UInt8) : Bool := decide (s.length ≤ 300) && match exK s with
  | none => false
  | some x => decide (exText 60 x = t)
theorem show_x {s t : List UInt8} (h : shX s t = true) (w : World) (ad : Nat → Addr) (cs : Nat → Array Value) (ts : Nat → TypeId) (S : SW w ad cs ts) :
    Calls Tryz.prog 15 #[.string (B s)] w fun e w' => Gn w w' ∧ e = .returned (.tuple #[.string (B t),fv 0 0]) := by
  have hz : (B s).size = s.length := size_B s
  unfold shX at h
  simp only [Bool.and_eq_true,decide_eq_true_eq] at h
  obtain ⟨hs,h⟩ := h
  obtain ⟨x,s1,hx,hni⟩ := exp_have (B s) (by omega)
  unfold exK at h
  rw [← hz,hx] at h
  simp only at h
  split at h
  · cases h
  · rename_i y hy
    split at hy
    · rename_i hc
      cases hy
      simp only [Bool.and_eq_true,decide_eq_true_eq] at hc h
      obtain ⟨⟨a1,a2⟩,a3⟩ := hc
      refine (pshow_p (B s) (by omega) w _ x s1 hx hni ad cs ts S).mono ?_
      rintro e w' ⟨g,ho⟩
      refine ⟨g,?_⟩
      rcases ho with ⟨hb,_⟩ | ⟨_,hall⟩
      · omega
      · rcases hall 60 (shapeB_ok 60 x a2) with ⟨hd,_⟩ | ⟨_,rfl⟩
        · omega
        · rw [h]
    · cases hy
theorem ks_0 : shX [49] [49] = true := by kernel_rfl
theorem ks_1 : shX [116,114,117,101] [116,114,117,101] = true := by kernel_rfl
theorem ks_2 : shX [102,117,110,32,120,45,62,120] [102,117,110,32,120,32,45,62,32,120] = true := by kernel_rfl
theorem ks_3 : shX [40,102,117,110,32,120,32,45,62,32,120,41,32,49] [40,102,117,110,32,120,32,45,62,32,120,41,32,49] = true := by kernel_rfl
theorem ks_4 : shX [102,117,110,32,120,32,45,62,32,102,117,110,32,121,32,45,62,32,120] [102,117,110,32,120,32,45,62,32,102,117,110,32,121,32,45,62,32,120] = true := by kernel_rfl
theorem ks_5 : shX [102,117,110,32,102,32,45,62,32,102,117,110,32,103,32,45,62,32,102,117,110,32,120,32,45,62,32,102,32,40,103,32,120,41] [102,117,110,32,102,32,45,62,32,102,117,110,32,103,32,45,62,32,102,117,110,32,120,32,45,62,32,102,32,40,103,32,120,41] = true := by kernel_rfl
theorem ks_6 : shX [102,117,110,32,120,32,45,62,32,120,32,120] [102,117,110,32,120,32,45,62,32,120,32,120] = true := by kernel_rfl
theorem ks_7 : shX [49,32,50] [49,32,50] = true := by kernel_rfl
theorem ks_8 : shX [40,49,44,40,116,114,117,101,41,41] [40,49,44,32,116,114,117,101,41] = true := by kernel_rfl
theorem ks_9 : shX [105,102,32,116,114,117,101,32,116,104,101,110,32,49,32,101,108,115,101,32,116,114,117,101] [105,102,32,116,114,117,101,32,116,104,101,110,32,49,32,101,108,115,101,32,116,114,117,101] = true := by kernel_rfl
theorem ks_10 : shX [105,102,32,49,32,116,104,101,110,32,49,32,101,108,115,101,32,49] [105,102,32,49,32,116,104,101,110,32,49,32,101,108,115,101,32,49] = true := by kernel_rfl
theorem ks_11 : shX [102,117,110,32,98,32,45,62,32,105,102,32,98,32,116,104,101,110,32,102,115,116,32,101,108,115,101,32,115,110,100] [102,117,110,32,98,32,45,62,32,105,102,32,98,32,116,104,101,110,32,102,115,116,32,101,108,115,101,32,115,110,100] = true := by kernel_rfl
theorem ks_12 : shX [108,101,116,32,105,32,61,32,102,117,110,32,120,32,45,62,32,120,32,105,110,32,40,105,32,49,44,32,105,32,116,114,117,101,41] [108,101,116,32,105,32,61,32,102,117,110,32,120,32,45,62,32,120,32,105,110,32,40,105,32,49,44,32,105,32,116,114,117,101,41] = true := by kernel_rfl
theorem ks_13 : shX [40,102,117,110,32,105,32,45,62,32,40,105,32,49,44,32,105,32,116,114,117,101,41,41,32,40,102,117,110,32,120,32,45,62,32,120,41] [40,102,117,110,32,105,32,45,62,32,40,105,32,49,44,32,105,32,116,114,117,101,41,41,32,40,102,117,110,32,120,32,45,62,32,120,41] = true := by kernel_rfl
theorem ks_14 : shX [102,117,110,32,120,32,45,62,32,108,101,116,32,121,32,61,32,120,32,105,110,32,40,121,44,32,121,41] [102,117,110,32,120,32,45,62,32,108,101,116,32,121,32,61,32,120,32,105,110,32,40,121,44,32,121,41] = true := by kernel_rfl
theorem ks_15 : shX [102,117,110,32,120,32,45,62,32,108,101,116,32,121,32,61,32,102,117,110,32,122,32,45,62,32,120,32,105,110,32,121] [102,117,110,32,120,32,45,62,32,108,101,116,32,121,32,61,32,102,117,110,32,122,32,45,62,32,120,32,105,110,32,121] = true := by kernel_rfl
theorem ks_16 : shX [99,111,110,115,32,49,32,40,99,111,110,115,32,116,114,117,101,32,110,105,108,41] [99,111,110,115,32,49,32,40,99,111,110,115,32,116,114,117,101,32,110,105,108,41] = true := by kernel_rfl
theorem ks_17 : shX [102,117,110,32,120,32,45,62,32,99,111,110,115,32,40,120,44,32,110,105,108,41,32,110,105,108] [102,117,110,32,120,32,45,62,32,99,111,110,115,32,40,120,44,32,110,105,108,41,32,110,105,108] = true := by kernel_rfl
theorem ks_18 : shX [108,101,116,32,114,101,99,32,109,97,112,32,61,32,102,117,110,32,102,32,45,62,32,102,117,110,32,108,32,45,62,32,105,102,32,101,109,112,116,121,32,108,32,116,104,101,110,32,110,105,108,32,101,108,115,101,32,99,111,110,115,32,40,102,32,40,104,100,32,108,41,41,32,40,109,97,112,32,102,32,40,116,108,32,108,41,41,32,105,110,32,109,97,112] [108,101,116,32,114,101,99,32,109,97,112,32,61,32,102,117,110,32,102,32,45,62,32,102,117,110,32,108,32,45,62,32,105,102,32,101,109,112,116,121,32,108,32,116,104,101,110,32,110,105,108,32,101,108,115,101,32,99,111,110,115,32,40,102,32,40,104,100,32,108,41,41,32,40,109,97,112,32,102,32,40,116,108,32,108,41,41,32,105,110,32,109,97,112] = true := by kernel_rfl
theorem ks_19 : shX [108,101,116,32,114,101,99,32,102,32,61,32,102,117,110,32,120,32,45,62,32,105,102,32,116,114,117,101,32,116,104,101,110,32,120,32,101,108,115,101,32,102,115,116,32,40,102,32,40,120,44,32,120,41,41,32,105,110,32,102] [108,101,116,32,114,101,99,32,102,32,61,32,102,117,110,32,120,32,45,62,32,105,102,32,116,114,117,101,32,116,104,101,110,32,120,32,101,108,115,101,32,102,115,116,32,40,102,32,40,120,44,32,120,41,41,32,105,110,32,102] = true := by kernel_rfl
theorem ks_20 : shX [108,101,116,32,114,101,99,32,102,32,61,32,102,117,110,32,120,32,45,62,32,102,32,40,120,44,32,49,41,32,105,110,32,102] [108,101,116,32,114,101,99,32,102,32,61,32,102,117,110,32,120,32,45,62,32,102,32,40,120,44,32,49,41,32,105,110,32,102] = true := by kernel_rfl
theorem ks_21 : shX [108,101,116,32,114,101,99,32,102,32,61,32,102,117,110,32,120,32,45,62,32,49,32,97,110,100,32,103,32,61,32,102,117,110,32,121,32,45,62,32,40,102,32,121,44,32,102,32,116,114,117,101,41,32,105,110,32,103] [108,101,116,32,114,101,99,32,102,32,61,32,102,117,110,32,120,32,45,62,32,49,32,97,110,100,32,103,32,61,32,102,117,110,32,121,32,45,62,32,40,102,32,121,44,32,102,32,116,114,117,101,41,32,105,110,32,103] = true := by kernel_rfl
theorem ks_22 : shX [108,101,116,32,114,101,99,32,102,32,61,32,102,117,110,32,120,32,45,62,32,102,32,105,110,32,102] [108,101,116,32,114,101,99,32,102,32,61,32,102,117,110,32,120,32,45,62,32,102,32,105,110,32,102] = true := by kernel_rfl
theorem ks_23 : shX [108,101,116,32,114,101,99,32,102,32,61,32,102,117,110,32,120,32,45,62,32,103,32,40,120,44,32,120,41,32,97,110,100,32,103,32,61,32,102,117,110,32,121,32,45,62,32,102,32,121,32,105,110,32,103] [108,101,116,32,114,101,99,32,102,32,61,32,102,117,110,32,120,32,45,62,32,103,32,40,120,44,32,120,41,32,97,110,100,32,103,32,61,32,102,117,110,32,121,32,45,62,32,102,32,121,32,105,110,32,103] = true := by kernel_rfl
theorem ks_24 : shX [102,117,110,32,121,32,45,62,32,108,101,116,32,114,101,99,32,102,32,61,32,102,117,110,32,120,32,45,62,32,105,102,32,116,114,117,101,32,116,104,101,110,32,121,32,101,108,115,101,32,102,32,40,97,100,100,32,121,32,120,41,32,105,110,32,102] [102,117,110,32,121,32,45,62,32,108,101,116,32,114,101,99,32,102,32,61,32,102,117,110,32,120,32,45,62,32,105,102,32,116,114,117,101,32,116,104,101,110,32,121,32,101,108,115,101,32,102,32,40,97,100,100,32,121,32,120,41,32,105,110,32,102] = true := by kernel_rfl
theorem ks_25 : shX [108,101,116,32,114,101,99,32,120,32,61,32,120,32,105,110,32,120] [108,101,116,32,114,101,99,32,120,32,61,32,120,32,105,110,32,120] = true := by kernel_rfl
theorem ks_26 : shX [108,101,116,32,100,32,61,32,102,117,110,32,120,32,45,62,32,40,120,44,32,120,41,32,105,110,32,100,32,40,100,32,40,100,32,40,100,32,40,100,32,49,41,41,41,41] [108,101,116,32,100,32,61,32,102,117,110,32,120,32,45,62,32,40,120,44,32,120,41,32,105,110,32,100,32,40,100,32,40,100,32,40,100,32,40,100,32,49,41,41,41,41] = true := by kernel_rfl
theorem ks_27 : shX [108,101,116,32,100,32,61,32,102,117,110,32,120,32,45,62,32,40,120,44,32,120,41,32,105,110,32,100,32,40,100,32,40,100,32,40,100,32,40,100,32,40,100,32,49,41,41,41,41,41] [108,101,116,32,100,32,61,32,102,117,110,32,120,32,45,62,32,40,120,44,32,120,41,32,105,110,32,100,32,40,100,32,40,100,32,40,100,32,40,100,32,40,100,32,49,41,41,41,41,41] = true := by kernel_rfl
theorem ks_28 : shX [108,101,116,32,100,32,61,32,102,117,110,32,120,32,45,62,32,40,120,44,32,120,41,32,105,110,32,40,102,117,110,32,120,32,45,62,32,49,41,32,40,100,32,40,100,32,40,100,32,40,100,32,40,100,32,40,100,32,49,41,41,41,41,41,41] [108,101,116,32,100,32,61,32,102,117,110,32,120,32,45,62,32,40,120,44,32,120,41,32,105,110,32,40,102,117,110,32,120,32,45,62,32,49,41,32,40,100,32,40,100,32,40,100,32,40,100,32,40,100,32,40,100,32,49,41,41,41,41,41,41] = true := by kernel_rfl
theorem ks_29 : shX [102,117,110,32,121,32,45,62,32,102,117,110,32,122,32,45,62,32,108,101,116,32,114,101,99,32,102,32,61,32,121,32,97,110,100,32,103,32,61,32,122,32,105,110,32,40,102,44,32,103,41] [102,117,110,32,121,32,45,62,32,102,117,110,32,122,32,45,62,32,108,101,116,32,114,101,99,32,102,32,61,32,121,32,97,110,100,32,103,32,61,32,122,32,105,110,32,40,102,44,32,103,41] = true := by kernel_rfl
theorem ks_30 : shX [108,101,116,32,102,32,61,32,102,117,110,32,120,32,45,62,32,120,32,105,110,32,108,101,116,32,120,32,61,32,102,32,105,110,32,120] [108,101,116,32,102,32,61,32,102,117,110,32,120,32,45,62,32,120,32,105,110,32,108,101,116,32,120,32,61,32,102,32,105,110,32,120] = true := by kernel_rfl
theorem ks_31 : shX [102,117,110,32,102,115,116,32,45,62,32,102,115,116,32,49] [102,117,110,32,102,115,116,32,45,62,32,102,115,116,32,49] = true := by kernel_rfl
theorem ks_32 : shX [40,108,101,116,32,120,32,61,32,49,32,105,110,32,120,41,32,50] [40,108,101,116,32,120,32,61,32,49,32,105,110,32,120,41,32,50] = true := by kernel_rfl
theorem ks_33 : shX [102,117,110,32,97,32,45,62,32,40,105,102,32,97,32,116,104,101,110,32,49,32,101,108,115,101,32,50,44,32,102,117,110,32,97,32,45,62,32,97,41] [102,117,110,32,97,32,45,62,32,40,105,102,32,97,32,116,104,101,110,32,49,32,101,108,115,101,32,50,44,32,102,117,110,32,97,32,45,62,32,97,41] = true := by kernel_rfl
theorem ks_34 : shX [102] [102] = true := by kernel_rfl
theorem ks_35 : shX [108,101,116,32,120,32,61,32,120,32,105,110,32,49] [108,101,116,32,120,32,61,32,120,32,105,110,32,49] = true := by kernel_rfl
def desp (l : List UInt8) : List UInt8 := l.filter (fun c => c != 32)
theorem desp_no {l : List UInt8} {j : Nat} {c : UInt8} (hc : l[j]? = some c) (h : c ≠ 32) : desp (l.take (j + 1)) = desp (l.take j) ++ [c] := by
  unfold desp
  rw [List.take_add_one,hc,List.filter_append]
  simp [h]
theorem desp_yes {l : List UInt8} {j : Nat} (hc : l[j]? = some 32) : desp (l.take (j + 1)) = desp (l.take j) := by
  unfold desp
  rw [List.take_add_one,hc,List.filter_append]
  simp
theorem desp_len (l : List UInt8) : (desp l).length ≤ l.length := List.length_filter_le _ _
theorem byte_k {l : List UInt8} {j : Nat} {c : UInt8} (hc : l[j]? = some c) (h : j < (B l).size) : (B l)[j] = c := by
  have h2 := (List.getElem?_eq_some_iff.1 hc).2
  rw [← h2]
  rfl
theorem cut_oneK {l : List UInt8} {j : Nat} {c : UInt8} (hc : l[j]? = some c) : (B l).extract j (j + 1) = B [c] := by
  have h1 := (List.getElem?_eq_some_iff.1 hc).1
  have hs : j < (B l).size := by rw [size_B]; exact h1
  rw [ext_cut,cut_one _ _ hs,byte_k hc hs]
theorem despaced_p (l : List UInt8) (hl : l.length ≤ 100000) (w : World) : Calls Tryz.prog 17 #[.string (B l)] w fun e w' => e = .returned (.string (B (desp l))) ∧ w' = w := by
  have hsz : (B l).size = l.length := size_B l
  go_enter Tryz.func17,Tryz.ntmps17
  go_wp2_with fail
  go_loopg [3,4] (l.length + 1) (fun gh x i wi => ∃ j : Nat,j ≤ l.length ∧ x = .string (B (desp (l.take j))) ∧ i = .int .i64 j ∧ gh = l.length - j + 1 ∧ wi = w)
  case atStart => exact ⟨0,by omega,rfl,rfl,by omega,rfl⟩
  case round =>
    obtain ⟨j,hj,rfl,rfl,hgj,rfl⟩ := hrel
    by_cases hjl : j < l.length
    · obtain ⟨c,hc⟩ : ∃ c,l[j]? = some c := ⟨l[j],List.getElem?_eq_getElem (by omega)⟩
      have hjs : j < (B l).size := by rw [hsz]; omega
      have hba := byte_k hc hjs
      have hjl' : (j : Int) < (l.length : Int) := by omega
      have hz1 : (B (desp (l.take j))).size ≤ 100000 := by
        rw [size_B]
        have := desp_len (l.take j)
        have := List.length_take_le j l
        omega
      by_cases h32 : c = 32
      · subst h32
        have E := hid (desp_yes hc)
        clear hc
        go_wp2_with fail
        go_roundg (l.length - (j + 1) + 1)
        case measure => omega
        case rel => exact ⟨j + 1,by omega,by rw [E.out],by go_num,rfl,rfl⟩
      · have E := hid (desp_no hc h32)
        have hcut := cut_oneK hc
        have happ : B (desp (l.take j)) ++ B [c] = B (desp (l.take (j + 1))) := by rw [append_B,E.out]
        have hz2 : (B [c]).size = 1 := size_B _
        have hn32 : ¬ c.toNat = 32 := fun h => h32 (UInt8.toNat_inj.1 (by rw [h]; rfl))
        clear hc
        go_wp2_with fail
        go_roundg (l.length - (j + 1) + 1)
        case measure => omega
        case rel => exact ⟨j + 1,by omega,rfl,by go_num,rfl,rfl⟩
    · have hje : j = l.length := by omega
      subst hje
      have E := hid (show desp (l.take l.length) = desp l by rw [List.take_length])
      rw [E.out]
      clear hj hgj hjl
      go_wp2
      go_ret
      exact ⟨rfl,rfl⟩
theorem pick_36 (c : Int) (h1 : -9223372036854775808 ≤ c) (h2 : c ≤ 9223372036854775807) : ∃ n : Nat,n < 36 ∧ ∀ w,Calls Tryz.prog 11 #[.int .i64 c,.int .i64 36] w fun e w' => e = .returned (.int .i64 n) ∧ w' = w := by
  by_cases hc : c < 0
  · obtain ⟨m,hm⟩ : ∃ m : Nat,-(c + 1) = (m : Int) := ⟨(-(c + 1)).toNat,by omega⟩
    have E1 := hid (show (m : Int) % 36 = ((m % 36 : Nat) : Int) by omega)
    refine ⟨m % 36,Nat.mod_lt _ (by omega),fun w => ?_⟩
    obtain ⟨z,hz⟩ : ∃ z,z = m % 36 := ⟨_,rfl⟩
    rw [← hz] at E1 ⊢
    clear hz
    go_enter Tryz.func11,Tryz.ntmps11
    go_wp2
    rw [E1.out]
    go_ret
    exact ⟨rfl,rfl⟩
  · obtain ⟨m,hm⟩ : ∃ m : Nat,c = (m : Int) := ⟨c.toNat,by omega⟩
    have E1 := hid (show (m : Int) % 36 = ((m % 36 : Nat) : Int) by omega)
    refine ⟨m % 36,Nat.mod_lt _ (by omega),fun w => ?_⟩
    obtain ⟨z,hz⟩ : ∃ z,z = m % 36 := ⟨_,rfl⟩
    rw [← hz] at E1 ⊢
    clear hz
    go_enter Tryz.func11,Tryz.ntmps11
    go_wp2
    rw [E1.out]
    go_ret
    exact ⟨rfl,rfl⟩
def lotV : List (List UInt8 × List UInt8 × List UInt8 × Int) := [([49],[49],[105,110,116],0),([116,114,117,101],[116,114,117,101],[98,111,111,108],0),([102,117,110,32,120,45,62,120],[102,117,110,32,120,32,45,62,32,120],[97,32,45,62,32,97],0),([40,102,117,110,32,120,32,45,62,32,120,41,32,49],[40,102,117,110,32,120,32,45,62,32,120,41,32,49],[105,110,116],0),([102,117,110,32,120,32,45,62,32,102,117,110,32,121,32,45,62,32,120],[102,117,110,32,120,32,45,62,32,102,117,110,32,121,32,45,62,32,120],[97,32,45,62,32,98,32,45,62,32,97],0),([102,117,110,32,102,32,45,62,32,102,117,110,32,103,32,45,62,32,102,117,110,32,120,32,45,62,32,102,32,40,103,32,120,41],[102,117,110,32,102,32,45,62,32,102,117,110,32,103,32,45,62,32,102,117,110,32,120,32,45,62,32,102,32,40,103,32,120,41],[40,97,32,45,62,32,98,41,32,45,62,32,40,99,32,45,62,32,97,41,32,45,62,32,99,32,45,62,32,98],0),([102,117,110,32,120,32,45,62,32,120,32,120],[102,117,110,32,120,32,45,62,32,120,32,120],[],7),([49,32,50],[49,32,50],[],7),([40,49,44,40,116,114,117,101,41,41],[40,49,44,32,116,114,117,101,41],[40,105,110,116,44,32,98,111,111,108,41],0),([105,102,32,116,114,117,101,32,116,104,101,110,32,49,32,101,108,115,101,32,116,114,117,101],[105,102,32,116,114,117,101,32,116,104,101,110,32,49,32,101,108,115,101,32,116,114,117,101],[],7),([105,102,32,49,32,116,104,101,110,32,49,32,101,108,115,101,32,49],[105,102,32,49,32,116,104,101,110,32,49,32,101,108,115,101,32,49],[],7),([102,117,110,32,98,32,45,62,32,105,102,32,98,32,116,104,101,110,32,102,115,116,32,101,108,115,101,32,115,110,100],[102,117,110,32,98,32,45,62,32,105,102,32,98,32,116,104,101,110,32,102,115,116,32,101,108,115,101,32,115,110,100],[98,111,111,108,32,45,62,32,40,97,44,32,97,41,32,45,62,32,97],0),([108,101,116,32,105,32,61,32,102,117,110,32,120,32,45,62,32,120,32,105,110,32,40,105,32,49,44,32,105,32,116,114,117,101,41],[108,101,116,32,105,32,61,32,102,117,110,32,120,32,45,62,32,120,32,105,110,32,40,105,32,49,44,32,105,32,116,114,117,101,41],[40,105,110,116,44,32,98,111,111,108,41],0),([40,102,117,110,32,105,32,45,62,32,40,105,32,49,44,32,105,32,116,114,117,101,41,41,32,40,102,117,110,32,120,32,45,62,32,120,41],[40,102,117,110,32,105,32,45,62,32,40,105,32,49,44,32,105,32,116,114,117,101,41,41,32,40,102,117,110,32,120,32,45,62,32,120,41],[],7),([102,117,110,32,120,32,45,62,32,108,101,116,32,121,32,61,32,120,32,105,110,32,40,121,44,32,121,41],[102,117,110,32,120,32,45,62,32,108,101,116,32,121,32,61,32,120,32,105,110,32,40,121,44,32,121,41],[97,32,45,62,32,40,97,44,32,97,41],0),([102,117,110,32,120,32,45,62,32,108,101,116,32,121,32,61,32,102,117,110,32,122,32,45,62,32,120,32,105,110,32,121],[102,117,110,32,120,32,45,62,32,108,101,116,32,121,32,61,32,102,117,110,32,122,32,45,62,32,120,32,105,110,32,121],[97,32,45,62,32,98,32,45,62,32,97],0),([99,111,110,115,32,49,32,40,99,111,110,115,32,116,114,117,101,32,110,105,108,41],[99,111,110,115,32,49,32,40,99,111,110,115,32,116,114,117,101,32,110,105,108,41],[],7),([102,117,110,32,120,32,45,62,32,99,111,110,115,32,40,120,44,32,110,105,108,41,32,110,105,108],[102,117,110,32,120,32,45,62,32,99,111,110,115,32,40,120,44,32,110,105,108,41,32,110,105,108],[97,32,45,62,32,91,40,97,44,32,91,98,93,41,93],0),([108,101,116,32,114,101,99,32,109,97,112,32,61,32,102,117,110,32,102,32,45,62,32,102,117,110,32,108,32,45,62,32,105,102,32,101,109,112,116,121,32,108,32,116,104,101,110,32,110,105,108,32,101,108,115,101,32,99,111,110,115,32,40,102,32,40,104,100,32,108,41,41,32,40,109,97,112,32,102,32,40,116,108,32,108,41,41,32,105,110,32,109,97,112],[108,101,116,32,114,101,99,32,109,97,112,32,61,32,102,117,110,32,102,32,45,62,32,102,117,110,32,108,32,45,62,32,105,102,32,101,109,112,116,121,32,108,32,116,104,101,110,32,110,105,108,32,101,108,115,101,32,99,111,110,115,32,40,102,32,40,104,100,32,108,41,41,32,40,109,97,112,32,102,32,40,116,108,32,108,41,41,32,105,110,32,109,97,112],[40,97,32,45,62,32,98,41,32,45,62,32,91,97,93,32,45,62,32,91,98,93],0),([108,101,116,32,114,101,99,32,102,32,61,32,102,117,110,32,120,32,45,62,32,105,102,32,116,114,117,101,32,116,104,101,110,32,120,32,101,108,115,101,32,102,115,116,32,40,102,32,40,120,44,32,120,41,41,32,105,110,32,102],[108,101,116,32,114,101,99,32,102,32,61,32,102,117,110,32,120,32,45,62,32,105,102,32,116,114,117,101,32,116,104,101,110,32,120,32,101,108,115,101,32,102,115,116,32,40,102,32,40,120,44,32,120,41,41,32,105,110,32,102],[97,32,45,62,32,97],0),([108,101,116,32,114,101,99,32,102,32,61,32,102,117,110,32,120,32,45,62,32,102,32,40,120,44,32,49,41,32,105,110,32,102],[108,101,116,32,114,101,99,32,102,32,61,32,102,117,110,32,120,32,45,62,32,102,32,40,120,44,32,49,41,32,105,110,32,102],[97,32,45,62,32,98],0),([108,101,116,32,114,101,99,32,102,32,61,32,102,117,110,32,120,32,45,62,32,49,32,97,110,100,32,103,32,61,32,102,117,110,32,121,32,45,62,32,40,102,32,121,44,32,102,32,116,114,117,101,41,32,105,110,32,103],[108,101,116,32,114,101,99,32,102,32,61,32,102,117,110,32,120,32,45,62,32,49,32,97,110,100,32,103,32,61,32,102,117,110,32,121,32,45,62,32,40,102,32,121,44,32,102,32,116,114,117,101,41,32,105,110,32,103],[97,32,45,62,32,40,105,110,116,44,32,105,110,116,41],0),([108,101,116,32,114,101,99,32,102,32,61,32,102,117,110,32,120,32,45,62,32,102,32,105,110,32,102],[108,101,116,32,114,101,99,32,102,32,61,32,102,117,110,32,120,32,45,62,32,102,32,105,110,32,102],[],9),([108,101,116,32,114,101,99,32,102,32,61,32,102,117,110,32,120,32,45,62,32,103,32,40,120,44,32,120,41,32,97,110,100,32,103,32,61,32,102,117,110,32,121,32,45,62,32,102,32,121,32,105,110,32,103],[108,101,116,32,114,101,99,32,102,32,61,32,102,117,110,32,120,32,45,62,32,103,32,40,120,44,32,120,41,32,97,110,100,32,103,32,61,32,102,117,110,32,121,32,45,62,32,102,32,121,32,105,110,32,103],[97,32,45,62,32,98],0),([102,117,110,32,121,32,45,62,32,108,101,116,32,114,101,99,32,102,32,61,32,102,117,110,32,120,32,45,62,32,105,102,32,116,114,117,101,32,116,104,101,110,32,121,32,101,108,115,101,32,102,32,40,97,100,100,32,121,32,120,41,32,105,110,32,102],[102,117,110,32,121,32,45,62,32,108,101,116,32,114,101,99,32,102,32,61,32,102,117,110,32,120,32,45,62,32,105,102,32,116,114,117,101,32,116,104,101,110,32,121,32,101,108,115,101,32,102,32,40,97,100,100,32,121,32,120,41,32,105,110,32,102],[105,110,116,32,45,62,32,105,110,116,32,45,62,32,105,110,116],0),([108,101,116,32,114,101,99,32,120,32,61,32,120,32,105,110,32,120],[108,101,116,32,114,101,99,32,120,32,61,32,120,32,105,110,32,120],[97],0),([108,101,116,32,100,32,61,32,102,117,110,32,120,32,45,62,32,40,120,44,32,120,41,32,105,110,32,100,32,40,100,32,40,100,32,40,100,32,40,100,32,49,41,41,41,41],[108,101,116,32,100,32,61,32,102,117,110,32,120,32,45,62,32,40,120,44,32,120,41,32,105,110,32,100,32,40,100,32,40,100,32,40,100,32,40,100,32,49,41,41,41,41],[40,40,40,40,40,32,105,110,116,44,32,105,110,116,41,44,32,40,105,110,116,44,32,105,110,116,41,41,44,32,40,40,105,110,116,44,32,105,110,116,41,44,32,40,105,110,116,44,32,105,110,116,41,41,41,44,32,40,40,40,105,110,116,44,32,105,110,116,41,44,32,40,105,110,116,44,32,105,110,116,41,41,44,32,40,40,105,110,116,44,32,105,110,116,41,44,32,40,105,110,116,44,32,105,110,116,41,41,41,41,44,32,40,40,40,40,105,110,116,44,32,105,110,116,41,44,32,40,105,110,116,44,32,105,110,116,41,41,44,32,40,40,105,110,116,44,32,105,110,116,41,44,32,40,105,110,116,44,32,105,110,116,41,41,41,44,32,40,40,40,105,110,116,44,32,105,110,116,41,44,32,40,105,110,116,44,32,105,110,116,41,41,44,32,40,40,105,110,116,44,32,105,110,116,41,44,32,40,105,110,116,44,32,105,110,116,41,41,41,41,41],0),([108,101,116,32,100,32,61,32,102,117,110,32,120,32,45,62,32,40,120,44,32,120,41,32,105,110,32,100,32,40,100,32,40,100,32,40,100,32,40,100,32,40,100,32,49,41,41,41,41,41],[108,101,116,32,100,32,61,32,102,117,110,32,120,32,45,62,32,40,120,44,32,120,41,32,105,110,32,100,32,40,100,32,40,100,32,40,100,32,40,100,32,40,100,32,49,41,41,41,41,41],[],8),([108,101,116,32,100,32,61,32,102,117,110,32,120,32,45,62,32,40,120,44,32,120,41,32,105,110,32,40,102,117,110,32,120,32,45,62,32,49,41,32,40,100,32,40,100,32,40,100,32,40,100,32,40,100,32,40,100,32,49,41,41,41,41,41,41],[108,101,116,32,100,32,61,32,102,117,110,32,120,32,45,62,32,40,120,44,32,120,41,32,105,110,32,40,102,117,110,32,120,32,45,62,32,49,41,32,40,100,32,40,100,32,40,100,32,40,100,32,40,100,32,40,100,32,49,41,41,41,41,41,41],[],8),([102,117,110,32,121,32,45,62,32,102,117,110,32,122,32,45,62,32,108,101,116,32,114,101,99,32,102,32,61,32,121,32,97,110,100,32,103,32,61,32,122,32,105,110,32,40,102,44,32,103,41],[102,117,110,32,121,32,45,62,32,102,117,110,32,122,32,45,62,32,108,101,116,32,114,101,99,32,102,32,61,32,121,32,97,110,100,32,103,32,61,32,122,32,105,110,32,40,102,44,32,103,41],[97,32,45,62,32,98,32,45,62,32,40,97,44,32,98,41],0),([108,101,116,32,102,32,61,32,102,117,110,32,120,32,45,62,32,120,32,105,110,32,108,101,116,32,120,32,61,32,102,32,105,110,32,120],[108,101,116,32,102,32,61,32,102,117,110,32,120,32,45,62,32,120,32,105,110,32,108,101,116,32,120,32,61,32,102,32,105,110,32,120],[97,32,45,62,32,97],0),([102,117,110,32,102,115,116,32,45,62,32,102,115,116,32,49],[102,117,110,32,102,115,116,32,45,62,32,102,115,116,32,49],[40,105,110,116,32,45,62,32,97,41,32,45,62,32,97],0),([40,108,101,116,32,120,32,61,32,49,32,105,110,32,120,41,32,50],[40,108,101,116,32,120,32,61,32,49,32,105,110,32,120,41,32,50],[],7),([102,117,110,32,97,32,45,62,32,40,105,102,32,97,32,116,104,101,110,32,49,32,101,108,115,101,32,50,44,32,102,117,110,32,97,32,45,62,32,97,41],[102,117,110,32,97,32,45,62,32,40,105,102,32,97,32,116,104,101,110,32,49,32,101,108,115,101,32,50,44,32,102,117,110,32,97,32,45,62,32,97,41],[98,111,111,108,32,45,62,32,40,105,110,116,44,32,97,32,45,62,32,97,41],0),([102],[102],[],0),([108,101,116,32,120,32,61,32,120,32,105,110,32,49],[108,101,116,32,120,32,61,32,120,32,105,110,32,49],[],0)]
def lotC (l : List (List UInt8 × List UInt8 × List UInt8 × Int)) : Array Value := (l.flatMap fun x => [.string (B x.1),.string (B x.2.1),.string (B x.2.2.1),.int .i64 x.2.2.2]).toArray
def lot0 : List UInt8 × List UInt8 × List UInt8 × Int := ([],[],[],0)
theorem lotL_at (l : List (List UInt8 × List UInt8 × List UInt8 × Int)) : ∀ k,k < l.length → (l.flatMap fun x => [Value.string (B x.1),.string (B x.2.1),.string (B x.2.2.1),.int .i64 x.2.2.2])[4 * k]? = some (.string (B (l.getD k lot0).1)) ∧ (l.flatMap fun x => [Value.string (B x.1),.string (B x.2.1),.string (B x.2.2.1),.int .i64 x.2.2.2])[4 * k + 1]? = some (.string (B (l.getD k lot0).2.1)) ∧ (l.flatMap fun x => [Value.string (B x.1),.string (B x.2.1),.string (B x.2.2.1),.int .i64 x.2.2.2])[4 * k + 2]? = some (.string (B (l.getD k lot0).2.2.1)) ∧ (l.flatMap fun x => [Value.string (B x.1),.string (B x.2.1),.string (B x.2.2.1),.int .i64 x.2.2.2])[4 * k + 3]? = some (.int .i64 (l.getD k lot0).2.2.2) := by
  induction l with
  | nil => intro k h; simp at h
  | cons a l ih =>
    intro k h
    cases k with
    | zero => simp
    | succ k =>
      obtain ⟨h1,h2,h3,h4⟩ := ih k (by simpa using h)
      rw [show 4 * (k + 1) = 4 * k + 4 by omega]
      simp only [List.flatMap_cons,List.cons_append,List.nil_append,List.getElem?_cons_succ,List.getD_cons_succ]
      exact ⟨h1,h2,h3,h4⟩
theorem lots_fin {w w' : World} (h : w' = w.alloc (.cells (lotC lotV) 45)) : w.grownBy w' none ∧ ∃ b,Ending.returned (.slice (some ⟨w.heap.size,0,none⟩) 36 36) = .returned (.slice (some ⟨b,0,none⟩) 36 36) ∧ w.heap.size ≤ b ∧ ∀ k,k < 36 → w'.cell? ⟨b,4 * k,none⟩ = some (.string (B (lotV.getD k lot0).1)) ∧ w'.cell? ⟨b,4 * k + 1,none⟩ = some (.string (B (lotV.getD k lot0).2.1)) ∧ w'.cell? ⟨b,4 * k + 2,none⟩ = some (.string (B (lotV.getD k lot0).2.2.1)) ∧ w'.cell? ⟨b,4 * k + 3,none⟩ = some (.int .i64 (lotV.getD k lot0).2.2.2) := by
  subst h
  refine ⟨World.grownBy_alloc _ _ _,_,rfl,Nat.le_refl _,fun k hk => ?_⟩
  have hat := lotL_at lotV k (by rw [show lotV.length = 36 from rfl]; exact hk)
  have hn := heap_alloc_new w (.cells (lotC lotV) 45)
  generalize w.alloc (.cells (lotC lotV) 45) = W1 at *
  unfold lotC at hn
  exact ⟨by simp only [World.cell?,hn]; simpa using hat.1,by simp only [World.cell?,hn]; simpa using hat.2.1,by simp only [World.cell?,hn]; simpa using hat.2.2.1,by simp only [World.cell?,hn]; simpa using hat.2.2.2⟩
theorem lots_p (w : World) : Calls Tryz.prog 14 #[] w fun e w' => w.grownBy w' none ∧ ∃ b,e = .returned (.slice (some ⟨b,0,none⟩) 36 36) ∧ w.heap.size ≤ b ∧ ∀ k,k < 36 → w'.cell? ⟨b,4 * k,none⟩ = some (.string (B (lotV.getD k lot0).1)) ∧ w'.cell? ⟨b,4 * k + 1,none⟩ = some (.string (B (lotV.getD k lot0).2.1)) ∧ w'.cell? ⟨b,4 * k + 2,none⟩ = some (.string (B (lotV.getD k lot0).2.2.1)) ∧ w'.cell? ⟨b,4 * k + 3,none⟩ = some (.int .i64 (lotV.getD k lot0).2.2.2) := by
  go_enter Tryz.func14,Tryz.ntmps14
  go_wp2
  go_ret
  exact lots_fin (by kernel_rfl)
def KC (x : List UInt8 × List UInt8 × List UInt8 × Int) : Prop := shX x.1 x.2.1 = true ∧ x.2.1.length ≤ 1000 ∧ ∃ r,knK x.1 r = true ∧ outOk r ∧
  ((x.2.2.2 ≠ 0 ∧ outT r = [] ∧ outA r = x.2.2.2) ∨
   (x.2.2.2 = 0 ∧ x.2.2.1 = [] ∧ outT r = [] ∧ outA r = 4 ∧ ∃ (c : UInt8) (i : Nat),outN r = [c] ∧ outB r = (i : Int) ∧ x.2.1[i]? = some c ∧ (i = 0 ↔ x.2.1.length = 1)) ∨
   (x.2.2.2 = 0 ∧ x.2.2.1 ≠ [] ∧ (outT r).length ≤ 1000 ∧ x.2.2.1.length ≤ 1000 ∧ outA r = 0 ∧ desp (outT r) = desp x.2.2.1))
theorem kc_0 : KC (lotV.getD 0 lot0) := ⟨ks_0,by decide,_,kn_0,trivial,Or.inr (Or.inr ⟨rfl,by decide,of_decide_eq_true (by kernel_rfl),of_decide_eq_true (by kernel_rfl),rfl,by kernel_rfl⟩)⟩
theorem kc_1 : KC (lotV.getD 1 lot0) := ⟨ks_1,by decide,_,kn_1,trivial,Or.inr (Or.inr ⟨rfl,by decide,of_decide_eq_true (by kernel_rfl),of_decide_eq_true (by kernel_rfl),rfl,by kernel_rfl⟩)⟩
theorem kc_2 : KC (lotV.getD 2 lot0) := ⟨ks_2,by decide,_,kn_2,trivial,Or.inr (Or.inr ⟨rfl,by decide,of_decide_eq_true (by kernel_rfl),of_decide_eq_true (by kernel_rfl),rfl,by kernel_rfl⟩)⟩
theorem kc_3 : KC (lotV.getD 3 lot0) := ⟨ks_3,by decide,_,kn_3,trivial,Or.inr (Or.inr ⟨rfl,by decide,of_decide_eq_true (by kernel_rfl),of_decide_eq_true (by kernel_rfl),rfl,by kernel_rfl⟩)⟩
theorem kc_4 : KC (lotV.getD 4 lot0) := ⟨ks_4,by decide,_,kn_4,trivial,Or.inr (Or.inr ⟨rfl,by decide,of_decide_eq_true (by kernel_rfl),of_decide_eq_true (by kernel_rfl),rfl,by kernel_rfl⟩)⟩
theorem kc_5 : KC (lotV.getD 5 lot0) := ⟨ks_5,by decide,_,kn_5,trivial,Or.inr (Or.inr ⟨rfl,by decide,of_decide_eq_true (by kernel_rfl),of_decide_eq_true (by kernel_rfl),rfl,by kernel_rfl⟩)⟩
theorem kc_6 : KC (lotV.getD 6 lot0) := ⟨ks_6,by decide,_,kn_6,(show _ < 8 by decide),Or.inl ⟨by decide,rfl,rfl⟩⟩
theorem kc_7 : KC (lotV.getD 7 lot0) := ⟨ks_7,by decide,_,kn_7,(show _ < 8 by decide),Or.inl ⟨by decide,rfl,rfl⟩⟩
theorem kc_8 : KC (lotV.getD 8 lot0) := ⟨ks_8,by decide,_,kn_8,trivial,Or.inr (Or.inr ⟨rfl,by decide,of_decide_eq_true (by kernel_rfl),of_decide_eq_true (by kernel_rfl),rfl,by kernel_rfl⟩)⟩
theorem kc_9 : KC (lotV.getD 9 lot0) := ⟨ks_9,by decide,_,kn_9,(show _ < 8 by decide),Or.inl ⟨by decide,rfl,rfl⟩⟩
theorem kc_10 : KC (lotV.getD 10 lot0) := ⟨ks_10,by decide,_,kn_10,(show _ < 8 by decide),Or.inl ⟨by decide,rfl,rfl⟩⟩
theorem kc_11 : KC (lotV.getD 11 lot0) := ⟨ks_11,by decide,_,kn_11,trivial,Or.inr (Or.inr ⟨rfl,by decide,of_decide_eq_true (by kernel_rfl),of_decide_eq_true (by kernel_rfl),rfl,by kernel_rfl⟩)⟩
theorem kc_12 : KC (lotV.getD 12 lot0) := ⟨ks_12,by decide,_,kn_12,trivial,Or.inr (Or.inr ⟨rfl,by decide,of_decide_eq_true (by kernel_rfl),of_decide_eq_true (by kernel_rfl),rfl,by kernel_rfl⟩)⟩
theorem kc_13 : KC (lotV.getD 13 lot0) := ⟨ks_13,by decide,_,kn_13,(show _ < 8 by decide),Or.inl ⟨by decide,rfl,rfl⟩⟩
theorem kc_14 : KC (lotV.getD 14 lot0) := ⟨ks_14,by decide,_,kn_14,trivial,Or.inr (Or.inr ⟨rfl,by decide,of_decide_eq_true (by kernel_rfl),of_decide_eq_true (by kernel_rfl),rfl,by kernel_rfl⟩)⟩
theorem kc_15 : KC (lotV.getD 15 lot0) := ⟨ks_15,by decide,_,kn_15,trivial,Or.inr (Or.inr ⟨rfl,by decide,of_decide_eq_true (by kernel_rfl),of_decide_eq_true (by kernel_rfl),rfl,by kernel_rfl⟩)⟩
theorem kc_16 : KC (lotV.getD 16 lot0) := ⟨ks_16,by decide,_,kn_16,(show _ < 8 by decide),Or.inl ⟨by decide,rfl,rfl⟩⟩
theorem kc_17 : KC (lotV.getD 17 lot0) := ⟨ks_17,by decide,_,kn_17,trivial,Or.inr (Or.inr ⟨rfl,by decide,of_decide_eq_true (by kernel_rfl),of_decide_eq_true (by kernel_rfl),rfl,by kernel_rfl⟩)⟩
theorem kc_18 : KC (lotV.getD 18 lot0) := ⟨ks_18,by decide,_,kn_18,trivial,Or.inr (Or.inr ⟨rfl,by decide,of_decide_eq_true (by kernel_rfl),of_decide_eq_true (by kernel_rfl),rfl,by kernel_rfl⟩)⟩
theorem kc_19 : KC (lotV.getD 19 lot0) := ⟨ks_19,by decide,_,kn_19,trivial,Or.inr (Or.inr ⟨rfl,by decide,of_decide_eq_true (by kernel_rfl),of_decide_eq_true (by kernel_rfl),rfl,by kernel_rfl⟩)⟩
theorem kc_20 : KC (lotV.getD 20 lot0) := ⟨ks_20,by decide,_,kn_20,trivial,Or.inr (Or.inr ⟨rfl,by decide,of_decide_eq_true (by kernel_rfl),of_decide_eq_true (by kernel_rfl),rfl,by kernel_rfl⟩)⟩
theorem kc_21 : KC (lotV.getD 21 lot0) := ⟨ks_21,by decide,_,kn_21,trivial,Or.inr (Or.inr ⟨rfl,by decide,of_decide_eq_true (by kernel_rfl),of_decide_eq_true (by kernel_rfl),rfl,by kernel_rfl⟩)⟩
theorem kc_22 : KC (lotV.getD 22 lot0) := ⟨ks_22,by decide,_,kn_22,(show _ < 8 by decide),Or.inl ⟨by decide,rfl,rfl⟩⟩
theorem kc_23 : KC (lotV.getD 23 lot0) := ⟨ks_23,by decide,_,kn_23,trivial,Or.inr (Or.inr ⟨rfl,by decide,of_decide_eq_true (by kernel_rfl),of_decide_eq_true (by kernel_rfl),rfl,by kernel_rfl⟩)⟩
theorem kc_24 : KC (lotV.getD 24 lot0) := ⟨ks_24,by decide,_,kn_24,trivial,Or.inr (Or.inr ⟨rfl,by decide,of_decide_eq_true (by kernel_rfl),of_decide_eq_true (by kernel_rfl),rfl,by kernel_rfl⟩)⟩
theorem kc_25 : KC (lotV.getD 25 lot0) := ⟨ks_25,by decide,_,kn_25,trivial,Or.inr (Or.inr ⟨rfl,by decide,of_decide_eq_true (by kernel_rfl),of_decide_eq_true (by kernel_rfl),rfl,by kernel_rfl⟩)⟩
theorem kc_26 : KC (lotV.getD 26 lot0) := ⟨ks_26,by decide,_,kn_26,trivial,Or.inr (Or.inr ⟨rfl,by decide,of_decide_eq_true (by kernel_rfl),of_decide_eq_true (by kernel_rfl),rfl,by kernel_rfl⟩)⟩
theorem kc_27 : KC (lotV.getD 27 lot0) := ⟨ks_27,by decide,_,kn_27,(show _ < 8 by decide),Or.inl ⟨by decide,rfl,rfl⟩⟩
theorem kc_28 : KC (lotV.getD 28 lot0) := ⟨ks_28,by decide,_,kn_28,(show _ < 8 by decide),Or.inl ⟨by decide,rfl,rfl⟩⟩
theorem kc_29 : KC (lotV.getD 29 lot0) := ⟨ks_29,by decide,_,kn_29,trivial,Or.inr (Or.inr ⟨rfl,by decide,of_decide_eq_true (by kernel_rfl),of_decide_eq_true (by kernel_rfl),rfl,by kernel_rfl⟩)⟩
theorem kc_30 : KC (lotV.getD 30 lot0) := ⟨ks_30,by decide,_,kn_30,trivial,Or.inr (Or.inr ⟨rfl,by decide,of_decide_eq_true (by kernel_rfl),of_decide_eq_true (by kernel_rfl),rfl,by kernel_rfl⟩)⟩
theorem kc_31 : KC (lotV.getD 31 lot0) := ⟨ks_31,by decide,_,kn_31,trivial,Or.inr (Or.inr ⟨rfl,by decide,of_decide_eq_true (by kernel_rfl),of_decide_eq_true (by kernel_rfl),rfl,by kernel_rfl⟩)⟩
theorem kc_32 : KC (lotV.getD 32 lot0) := ⟨ks_32,by decide,_,kn_32,(show _ < 8 by decide),Or.inl ⟨by decide,rfl,rfl⟩⟩
theorem kc_33 : KC (lotV.getD 33 lot0) := ⟨ks_33,by decide,_,kn_33,trivial,Or.inr (Or.inr ⟨rfl,by decide,of_decide_eq_true (by kernel_rfl),of_decide_eq_true (by kernel_rfl),rfl,by kernel_rfl⟩)⟩
theorem kc_34 : KC (lotV.getD 34 lot0) := ⟨ks_34,by decide,_,kn_34,(show _ ≤ 300 by decide),Or.inr (Or.inl ⟨rfl,rfl,rfl,rfl,102,0,rfl,rfl,rfl,by decide⟩)⟩
theorem kc_35 : KC (lotV.getD 35 lot0) := ⟨ks_35,by decide,_,kn_35,(show _ ≤ 300 by decide),Or.inr (Or.inl ⟨rfl,rfl,rfl,rfl,120,8,rfl,rfl,rfl,by decide⟩)⟩
theorem kc_all (n : Nat) (h : n < 36) : KC (lotV.getD n lot0) := by
  have : n = 0 ∨ n = 1 ∨ n = 2 ∨ n = 3 ∨ n = 4 ∨ n = 5 ∨ n = 6 ∨ n = 7 ∨ n = 8 ∨ n = 9 ∨ n = 10 ∨ n = 11 ∨ n = 12 ∨ n = 13 ∨ n = 14 ∨ n = 15 ∨ n = 16 ∨ n = 17 ∨ n = 18 ∨ n = 19 ∨ n = 20 ∨ n = 21 ∨ n = 22 ∨ n = 23 ∨ n = 24 ∨ n = 25 ∨ n = 26 ∨ n = 27 ∨ n = 28 ∨ n = 29 ∨ n = 30 ∨ n = 31 ∨ n = 32 ∨ n = 33 ∨ n = 34 ∨ n = 35 := by omega
  rcases this with rfl | rfl | rfl | rfl | rfl | rfl | rfl | rfl | rfl | rfl | rfl | rfl | rfl | rfl | rfl | rfl | rfl | rfl | rfl | rfl | rfl | rfl | rfl | rfl | rfl | rfl | rfl | rfl | rfl | rfl | rfl | rfl | rfl | rfl | rfl | rfl
  · exact kc_0
  · exact kc_1
  · exact kc_2
  · exact kc_3
  · exact kc_4
  · exact kc_5
  · exact kc_6
  · exact kc_7
  · exact kc_8
  · exact kc_9
  · exact kc_10
  · exact kc_11
  · exact kc_12
  · exact kc_13
  · exact kc_14
  · exact kc_15
  · exact kc_16
  · exact kc_17
  · exact kc_18
  · exact kc_19
  · exact kc_20
  · exact kc_21
  · exact kc_22
  · exact kc_23
  · exact kc_24
  · exact kc_25
  · exact kc_26
  · exact kc_27
  · exact kc_28
  · exact kc_29
  · exact kc_30
  · exact kc_31
  · exact kc_32
  · exact kc_33
  · exact kc_34
  · exact kc_35
theorem int_rangeN {n : Int} (h : (Lit.int .i64 n).wf = true) : -9223372036854775808 ≤ n ∧ n ≤ 9223372036854775807 := by
  simp only [Lit.wf,Bool.and_eq_true,decide_eq_true_eq] at h
  exact ⟨h.1,h.2⟩
theorem tab_gn {w w' : World} (h : Lib.TabIs Tryz.prog w "internal/strconv.uint64pow10" .u64 Lib.pow10Tab) (g : Gn w w') : Lib.TabIs Tryz.prog w' "internal/strconv.uint64pow10" .u64 Lib.pow10Tab := tab_same h (g.block _ (tab_lt h))
theorem four_c {w : World} {b : Nat} {p q r s : Value} {t : TypeId} (h : w.heap[b]? = some (.cells #[p,q,r,s] t (0,0))) : w.cell? ⟨b,0,none⟩ = some p ∧ w.cell? ⟨b,1,none⟩ = some q ∧ w.cell? ⟨b,2,none⟩ = some r ∧ w.cell? ⟨b,3,none⟩ = some s := by simp [World.cell?,h]
theorem keepK {w w' : World} {b : Nat} {o o' : Obj} (h : w.heap[b]? = some o) (g : Gn w w') : (w'.alloc o').heap[b]? = some o := (Below.heap_alloc _ _ _ (Nat.lt_of_lt_of_le (lt_of_block h) g.size)).trans ((g.block _ (lt_of_block h)).trans h)
theorem known_wh (k : Int) (n : Nat) (hn : n < 36) (hp : ∀ w,Calls Tryz.prog 11 #[.int .i64 k,.int .i64 36] w fun e w' => e = .returned (.int .i64 n) ∧ w' = w) {s tx ty : List UInt8} {wh : Int} (hrow : lotV.getD n lot0 = (s,tx,ty,wh)) (hsh : shX s tx = true) (_htl : tx.length ≤ 1000) {r : Sum (Sum (List UInt8 × Nat) Nat) (List UInt8)} (hk : knK s r = true) (ho : outOk r) (h1 : wh ≠ 0) (h2 : outT r = []) (h3 : outA r = wh) (w : World) (ad : Nat → Addr) (cs : Nat → Array Value) (ts : Nat → TypeId) (S : SW w ad cs ts) (htab : Lib.TabIs Tryz.prog w "internal/strconv.uint64pow10" .u64 Lib.pow10Tab) :
    Calls Tryz.prog 6 #[.int .i64 k] w fun e w' => e = .returned (.bool true) ∧ Gn w w' := by
  have HF := hid (lots_p w)
  have HP := hid hp
  have HS := hid S
  have HT := hid htab
  have HR := hid hrow
  have HK := hid (And.intro hsh (And.intro hk ho))
  have hn2 : (n : Int) < 36 := by omega
  have tB : (B []).toList = [] := toList_B []
  have zt : (B tx).size = tx.length := size_B tx
  have et : ((B tx).toList == (B tx).toList) = true := beq_self_eq_true _
  have H23 := hid (And.intro h2 h3)
  clear h2 h3
  clear S hp htab hrow hsh hk ho
  go_enter Tryz.func6,Tryz.ntmps6
  go_wp2_with fail
  refine HF.out.mono ?_
  rintro e w1 ⟨g1,b,rfl,hb,hat⟩
  obtain ⟨hx0,hx1,hx2,hx3⟩ := hat n hn
  rw [HR.out,Nat.mul_comm] at hx0 hx1 hx2 hx3
  have HG := hid g1
  clear g1 hb hat HF HR
  go_wp2_with fail
  refine (HP.out _).mono ?_
  rintro e w2 ⟨rfl,rfl⟩
  have G2 := hid ((Gn.of HG.out).trans (Gn.of (World.grownBy_alloc w2 (.cells #[.string (B s),.string (B tx),.string (B ty),.int .i64 wh] 45) none)))
  have S2 := hid (HS.out.gn G2.out)
  have CS := hid (show_x HK.out.1 _ ad cs ts S2.out)
  have X2 := hid (heap_alloc_new w2 (.cells #[.string (B s),.string (B tx),.string (B ty),.int .i64 wh] 45))
  have tabG := hid (fun (W : World) (g : Gn w W) => tab_gn HT.out g)
  clear HP HG HS HT
  go_wp2_with fail
  refine CS.out.mono ?_
  rintro e w3 ⟨g3,rfl⟩
  have G3 := hid ((G2.out.trans g3).trans (Gn.of (World.grownBy_alloc w3 (.cells #[.int .i64 0,.int .i64 0,.string (B []),.int .i64 0,.int .i64 0] 23) none)))
  have S3 := hid ((S2.out.gn g3).gn (Gn.of (World.grownBy_alloc w3 (.cells #[.int .i64 0,.int .i64 0,.string (B []),.int .i64 0,.int .i64 0] 23) none)))
  have CI := hid (kinfer_k HK.out.2.1 HK.out.2.2 _ ad cs ts S3.out (tabG.out _ G3.out))
  have X3 := hid (keepK (o' := (.cells #[.int .i64 0,.int .i64 0,.string (B []),.int .i64 0,.int .i64 0] 23)) X2.out g3)
  have F3 := hid (heap_alloc_new w3 (.cells #[.int .i64 0,.int .i64 0,.string (B []),.int .i64 0,.int .i64 0] 23))
  obtain ⟨q0,q1,q2,q3⟩ := four_c X3.out
  clear g3 CS S2 X2 hx0 hx1 hx2 hx3 G2 HK tabG
  unfold fv
  go_wp2_with fail
  refine CI.out.mono ?_
  rintro e w4 ⟨g4,rfl⟩
  clear q0 q1 q2 q3
  obtain ⟨fa,hfa⟩ : ∃ fa,fa = outA r := ⟨_,rfl⟩
  obtain ⟨fb,hfb⟩ : ∃ fb,fb = outB r := ⟨_,rfl⟩
  obtain ⟨fn,hfn⟩ : ∃ fn,fn = outN r := ⟨_,rfl⟩
  obtain ⟨ft,hft⟩ : ∃ ft,ft = outT r := ⟨_,rfl⟩
  rw [← hfa,← hfb,← hfn,← hft]
  have G4 := hid ((G3.out.trans g4).trans (Gn.of (World.grownBy_alloc w4 (.cells #[.int .i64 fa,.int .i64 fb,.string (B fn),.int .i64 0,.int .i64 0] 23) none)))
  have X4 := keepK (o' := (.cells #[.int .i64 fa,.int .i64 fb,.string (B fn),.int .i64 0,.int .i64 0] 23)) X3.out g4
  have F4 := keepK (o' := (.cells #[.int .i64 fa,.int .i64 fb,.string (B fn),.int .i64 0,.int .i64 0] 23)) F3.out g4
  have E4 := heap_alloc_new w4 (.cells #[.int .i64 fa,.int .i64 fb,.string (B fn),.int .i64 0,.int .i64 0] 23)
  obtain ⟨x0,x1,x2,x3⟩ := four_c X4
  obtain ⟨⟨f0,f1,f2,f3,f4⟩,_⟩ := five_c F4
  obtain ⟨⟨e0,e1,e2,e3,e4⟩,_⟩ := five_c E4
  clear g4 CI S3 X3 F3 G3 X4 F4 E4
  unfold f5
  rw [H23.out.1] at hft
  rw [H23.out.2] at hfa
  clear hfb hfn
  subst hft hfa
  go_wp2
  go_ret
  exact ⟨rfl,G4.out⟩
theorem known_un (k : Int) (n : Nat) (hn : n < 36) (hp : ∀ w,Calls Tryz.prog 11 #[.int .i64 k,.int .i64 36] w fun e w' => e = .returned (.int .i64 n) ∧ w' = w) {s tx ty : List UInt8} {wh : Int} (hrow : lotV.getD n lot0 = (s,tx,ty,wh)) (hsh : shX s tx = true) (_htl : tx.length ≤ 1000) {r : Sum (Sum (List UInt8 × Nat) Nat) (List UInt8)} (hk : knK s r = true) (ho : outOk r) (h1 : wh = 0) (hy : ty = []) (h2 : outT r = []) (h3 : outA r = 4) {c : UInt8} {i : Nat} (h4 : outN r = [c]) (h5 : outB r = (i : Int)) (h6 : tx[i]? = some c) (h7 : i = 0 ↔ tx.length = 1) (w : World) (ad : Nat → Addr) (cs : Nat → Array Value) (ts : Nat → TypeId) (S : SW w ad cs ts) (htab : Lib.TabIs Tryz.prog w "internal/strconv.uint64pow10" .u64 Lib.pow10Tab) :
    Calls Tryz.prog 6 #[.int .i64 k] w fun e w' => e = .returned (.bool true) ∧ Gn w w' := by
  have HF := hid (lots_p w)
  have HP := hid hp
  have HS := hid S
  have HT := hid htab
  have HR := hid hrow
  have HK := hid (And.intro hsh (And.intro hk ho))
  have hn2 : (n : Int) < 36 := by omega
  have tB : (B []).toList = [] := toList_B []
  have zt : (B tx).size = tx.length := size_B tx
  have et : ((B tx).toList == (B tx).toList) = true := beq_self_eq_true _
  subst h1 hy
  have H23 := hid (And.intro h2 (And.intro h3 (And.intro h4 h5)))
  have hil : i < tx.length := (List.getElem?_eq_some_iff.1 h6).1
  have hcut := cut_oneK h6
  have H7 := hid h7
  clear h2 h3 h4 h5 h6 h7
  clear S hp htab hrow hsh hk ho
  go_enter Tryz.func6,Tryz.ntmps6
  go_wp2_with fail
  refine HF.out.mono ?_
  rintro e w1 ⟨g1,b,rfl,hb,hat⟩
  obtain ⟨hx0,hx1,hx2,hx3⟩ := hat n hn
  rw [HR.out,Nat.mul_comm] at hx0 hx1 hx2 hx3
  have HG := hid g1
  clear g1 hb hat HF HR
  go_wp2_with fail
  refine (HP.out _).mono ?_
  rintro e w2 ⟨rfl,rfl⟩
  have G2 := hid ((Gn.of HG.out).trans (Gn.of (World.grownBy_alloc w2 (.cells #[.string (B s),.string (B tx),.string (B []),.int .i64 0] 45) none)))
  have S2 := hid (HS.out.gn G2.out)
  have CS := hid (show_x HK.out.1 _ ad cs ts S2.out)
  have X2 := hid (heap_alloc_new w2 (.cells #[.string (B s),.string (B tx),.string (B []),.int .i64 0] 45))
  have tabG := hid (fun (W : World) (g : Gn w W) => tab_gn HT.out g)
  clear HP HG HS HT
  go_wp2_with fail
  refine CS.out.mono ?_
  rintro e w3 ⟨g3,rfl⟩
  have G3 := hid ((G2.out.trans g3).trans (Gn.of (World.grownBy_alloc w3 (.cells #[.int .i64 0,.int .i64 0,.string (B []),.int .i64 0,.int .i64 0] 23) none)))
  have S3 := hid ((S2.out.gn g3).gn (Gn.of (World.grownBy_alloc w3 (.cells #[.int .i64 0,.int .i64 0,.string (B []),.int .i64 0,.int .i64 0] 23) none)))
  have CI := hid (kinfer_k HK.out.2.1 HK.out.2.2 _ ad cs ts S3.out (tabG.out _ G3.out))
  have X3 := hid (keepK (o' := (.cells #[.int .i64 0,.int .i64 0,.string (B []),.int .i64 0,.int .i64 0] 23)) X2.out g3)
  have F3 := hid (heap_alloc_new w3 (.cells #[.int .i64 0,.int .i64 0,.string (B []),.int .i64 0,.int .i64 0] 23))
  obtain ⟨q0,q1,q2,q3⟩ := four_c X3.out
  clear g3 CS S2 X2 hx0 hx1 hx2 hx3 G2 HK tabG
  unfold fv
  go_wp2_with fail
  refine CI.out.mono ?_
  rintro e w4 ⟨g4,rfl⟩
  clear q0 q1 q2 q3
  obtain ⟨fa,hfa⟩ : ∃ fa,fa = outA r := ⟨_,rfl⟩
  obtain ⟨fb,hfb⟩ : ∃ fb,fb = outB r := ⟨_,rfl⟩
  obtain ⟨fn,hfn⟩ : ∃ fn,fn = outN r := ⟨_,rfl⟩
  obtain ⟨ft,hft⟩ : ∃ ft,ft = outT r := ⟨_,rfl⟩
  rw [← hfa,← hfb,← hfn,← hft]
  have G4 := hid ((G3.out.trans g4).trans (Gn.of (World.grownBy_alloc w4 (.cells #[.int .i64 fa,.int .i64 fb,.string (B fn),.int .i64 0,.int .i64 0] 23) none)))
  have X4 := keepK (o' := (.cells #[.int .i64 fa,.int .i64 fb,.string (B fn),.int .i64 0,.int .i64 0] 23)) X3.out g4
  have F4 := keepK (o' := (.cells #[.int .i64 fa,.int .i64 fb,.string (B fn),.int .i64 0,.int .i64 0] 23)) F3.out g4
  have E4 := heap_alloc_new w4 (.cells #[.int .i64 fa,.int .i64 fb,.string (B fn),.int .i64 0,.int .i64 0] 23)
  obtain ⟨x0,x1,x2,x3⟩ := four_c X4
  obtain ⟨⟨f0,f1,f2,f3,f4⟩,_⟩ := five_c F4
  obtain ⟨⟨e0,e1,e2,e3,e4⟩,_⟩ := five_c E4
  clear g4 CI S3 X3 F3 G3 X4 F4 E4
  unfold f5
  rw [H23.out.1] at hft
  rw [H23.out.2.1] at hfa
  rw [H23.out.2.2.1] at hfn
  rw [H23.out.2.2.2] at hfb
  subst hft hfa hfn hfb
  have ec : ((B [c]).toList == (B [c]).toList) = true := beq_self_eq_true _
  have hil2 : (i : Int) < tx.length := by omega
  have hdd : (((i : Int) == 0) == ((tx.length : Int) == 1)) = true := by
    by_cases hi : i = 0
    · rw [hi,H7.out.1 hi]
      rfl
    · have h9 : ¬ tx.length = 1 := fun h => hi (H7.out.2 h)
      have h8 : ((i : Int) == 0) = false := by rw [beq_eq_false_iff_ne]; omega
      have h7 : ((tx.length : Int) == 1) = false := by rw [beq_eq_false_iff_ne]; omega
      rw [h8,h7]
      rfl
  go_wp2_with fail
  go_quiet (fail)
  go_wp2
  go_ret
  exact ⟨rfl,G4.out.trans ⟨rfl,rfl,Nat.le_refl _,fun _ _ => rfl⟩⟩
theorem known_ty (k : Int) (n : Nat) (hn : n < 36) (hp : ∀ w,Calls Tryz.prog 11 #[.int .i64 k,.int .i64 36] w fun e w' => e = .returned (.int .i64 n) ∧ w' = w) {s tx ty : List UInt8} {wh : Int} (hrow : lotV.getD n lot0 = (s,tx,ty,wh)) (hsh : shX s tx = true) (_htl : tx.length ≤ 1000) {r : Sum (Sum (List UInt8 × Nat) Nat) (List UInt8)} (hk : knK s r = true) (ho : outOk r) (h1 : wh = 0) (hy : ty ≠ []) (h2 : (outT r).length ≤ 1000) (h2y : ty.length ≤ 1000) (h3 : outA r = 0) (h4 : desp (outT r) = desp ty) (w : World) (ad : Nat → Addr) (cs : Nat → Array Value) (ts : Nat → TypeId) (S : SW w ad cs ts) (htab : Lib.TabIs Tryz.prog w "internal/strconv.uint64pow10" .u64 Lib.pow10Tab) :
    Calls Tryz.prog 6 #[.int .i64 k] w fun e w' => e = .returned (.bool true) ∧ Gn w w' := by
  have HF := hid (lots_p w)
  have HP := hid hp
  have HS := hid S
  have HT := hid htab
  have HR := hid hrow
  have HK := hid (And.intro hsh (And.intro hk ho))
  have hn2 : (n : Int) < 36 := by omega
  have tB : (B []).toList = [] := toList_B []
  have zt : (B tx).size = tx.length := size_B tx
  have et : ((B tx).toList == (B tx).toList) = true := beq_self_eq_true _
  subst h1
  have H23 := hid (And.intro h2 (And.intro h3 h4))
  have HD2 := hid (despaced_p ty (by omega))
  have ht0 : (B ty).toList.isEmpty = false := by rw [toList_B]; cases ty with | nil => exact absurd rfl hy | cons a l => rfl
  clear h2 h3 h4
  clear S hp htab hrow hsh hk ho
  go_enter Tryz.func6,Tryz.ntmps6
  go_wp2_with fail
  refine HF.out.mono ?_
  rintro e w1 ⟨g1,b,rfl,hb,hat⟩
  obtain ⟨hx0,hx1,hx2,hx3⟩ := hat n hn
  rw [HR.out,Nat.mul_comm] at hx0 hx1 hx2 hx3
  have HG := hid g1
  clear g1 hb hat HF HR
  go_wp2_with fail
  refine (HP.out _).mono ?_
  rintro e w2 ⟨rfl,rfl⟩
  have G2 := hid ((Gn.of HG.out).trans (Gn.of (World.grownBy_alloc w2 (.cells #[.string (B s),.string (B tx),.string (B ty),.int .i64 0] 45) none)))
  have S2 := hid (HS.out.gn G2.out)
  have CS := hid (show_x HK.out.1 _ ad cs ts S2.out)
  have X2 := hid (heap_alloc_new w2 (.cells #[.string (B s),.string (B tx),.string (B ty),.int .i64 0] 45))
  have tabG := hid (fun (W : World) (g : Gn w W) => tab_gn HT.out g)
  clear HP HG HS HT
  go_wp2_with fail
  refine CS.out.mono ?_
  rintro e w3 ⟨g3,rfl⟩
  have G3 := hid ((G2.out.trans g3).trans (Gn.of (World.grownBy_alloc w3 (.cells #[.int .i64 0,.int .i64 0,.string (B []),.int .i64 0,.int .i64 0] 23) none)))
  have S3 := hid ((S2.out.gn g3).gn (Gn.of (World.grownBy_alloc w3 (.cells #[.int .i64 0,.int .i64 0,.string (B []),.int .i64 0,.int .i64 0] 23) none)))
  have CI := hid (kinfer_k HK.out.2.1 HK.out.2.2 _ ad cs ts S3.out (tabG.out _ G3.out))
  have X3 := hid (keepK (o' := (.cells #[.int .i64 0,.int .i64 0,.string (B []),.int .i64 0,.int .i64 0] 23)) X2.out g3)
  have F3 := hid (heap_alloc_new w3 (.cells #[.int .i64 0,.int .i64 0,.string (B []),.int .i64 0,.int .i64 0] 23))
  obtain ⟨q0,q1,q2,q3⟩ := four_c X3.out
  clear g3 CS S2 X2 hx0 hx1 hx2 hx3 G2 HK tabG
  unfold fv
  go_wp2_with fail
  refine CI.out.mono ?_
  rintro e w4 ⟨g4,rfl⟩
  clear q0 q1 q2 q3
  obtain ⟨fa,hfa⟩ : ∃ fa,fa = outA r := ⟨_,rfl⟩
  obtain ⟨fb,hfb⟩ : ∃ fb,fb = outB r := ⟨_,rfl⟩
  obtain ⟨fn,hfn⟩ : ∃ fn,fn = outN r := ⟨_,rfl⟩
  obtain ⟨ft,hft⟩ : ∃ ft,ft = outT r := ⟨_,rfl⟩
  rw [← hfa,← hfb,← hfn,← hft]
  have G4 := hid ((G3.out.trans g4).trans (Gn.of (World.grownBy_alloc w4 (.cells #[.int .i64 fa,.int .i64 fb,.string (B fn),.int .i64 0,.int .i64 0] 23) none)))
  have X4 := keepK (o' := (.cells #[.int .i64 fa,.int .i64 fb,.string (B fn),.int .i64 0,.int .i64 0] 23)) X3.out g4
  have F4 := keepK (o' := (.cells #[.int .i64 fa,.int .i64 fb,.string (B fn),.int .i64 0,.int .i64 0] 23)) F3.out g4
  have E4 := heap_alloc_new w4 (.cells #[.int .i64 fa,.int .i64 fb,.string (B fn),.int .i64 0,.int .i64 0] 23)
  obtain ⟨x0,x1,x2,x3⟩ := four_c X4
  obtain ⟨⟨f0,f1,f2,f3,f4⟩,_⟩ := five_c F4
  obtain ⟨⟨e0,e1,e2,e3,e4⟩,_⟩ := five_c E4
  clear g4 CI S3 X3 F3 G3 X4 F4 E4
  unfold f5
  have h2 := H23.out.1
  have h4 := H23.out.2.2
  rw [H23.out.2.1] at hfa
  rw [← hft] at h2 h4
  have HD1 := hid (despaced_p ft (by omega))
  have H4 := hid h4
  clear hfb hfn hft h2 h4
  subst hfa
  have ed : ((B (desp ty)).toList == (B (desp ty)).toList) = true := beq_self_eq_true _
  rw [H4.out] at HD1
  have DQ1 := hid (fun (q : Nat) => Calls.quiet_of_same (w := w4.alloc (.cells #[.int .i64 0,.int .i64 fb,.string (B fn),.int .i64 0,.int .i64 0] 23)) (n := q) (HD1.out _))
  have DQ2 := hid (fun (q : Nat) => Calls.quiet_of_same (w := w4.alloc (.cells #[.int .i64 0,.int .i64 fb,.string (B fn),.int .i64 0,.int .i64 0] 23)) (n := q) (HD2.out _))
  clear HD1 HD2
  go_wp2_with fail
  go_quiet (first | (go_at_call_of 17 (B ft); exact DQ1.out _) | (go_at_call_of 17 (B ty); exact DQ2.out _))
  go_wp2
  go_ret
  exact ⟨rfl,G4.out.trans ⟨rfl,rfl,Nat.le_refl _,fun _ _ => rfl⟩⟩
theorem known_law (k : Int) (h1 : -9223372036854775808 ≤ k) (h2 : k ≤ 9223372036854775807) (w : World) (ad : Nat → Addr) (cs : Nat → Array Value) (ts : Nat → TypeId) (S : SW w ad cs ts) (htab : Lib.TabIs Tryz.prog w "internal/strconv.uint64pow10" .u64 Lib.pow10Tab) :
    Calls Tryz.prog 6 #[.int .i64 k] w fun e w' => e = .returned (.bool true) ∧ Gn w w' := by
  obtain ⟨n,hn,hp⟩ := pick_36 k h1 h2
  have hc := kc_all n hn
  obtain ⟨s,tx,ty,wh,hrow⟩ : ∃ s tx ty wh,lotV.getD n lot0 = (s,tx,ty,wh) := ⟨_,_,_,_,rfl⟩
  rw [hrow] at hc
  obtain ⟨hsh,htl,r,hk,ho,hc⟩ := hc
  rcases hc with ⟨a1,a2,a3⟩ | ⟨a1,a2,a3,a4,c,i,a5,a6,a7,a8⟩ | ⟨a1,a2,a3,a4,a5,a6⟩
  · exact known_wh k n hn hp hrow hsh htl hk ho a1 a2 a3 w ad cs ts S htab
  · exact known_un k n hn hp hrow hsh htl hk ho a1 a2 a3 a4 a5 a6 a7 a8 w ad cs ts S htab
  · exact known_ty k n hn hp hrow hsh htl hk ho a1 a2 a3 a4 a5 a6 w ad cs ts S htab
end Go.Proofs.YtcdijppegfcoaabGreatDoor
