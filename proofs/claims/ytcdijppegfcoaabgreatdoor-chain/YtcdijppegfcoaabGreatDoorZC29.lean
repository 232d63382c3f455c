import Derived.Test.YtcdijppegfcoaabGreatDoorZC07
import Derived.Deep.AppendLies
import Derived.Lib.SliceRun
import Derived.Test.YtcdijppegfcoaabGreatDoorZC02
import Derived.Deep.RegionHeld3
import Derived.Test.YtcdijppegfcoaabGreatDoorZC28
import Derived.Test.YtcdijppegfcoaabGreatDoorZC09
import Derived.Test.YtcdijppegfcoaabGreatDoorZC19
set_option maxRecDepth 100000
set_option maxHeartbeats 8000000
namespace Go.Proofs.YtcdijppegfcoaabGreatDoor
open Go.RowKit
theorem info_draftp : (Tryz.prog.info? 123).map (fun i => (i.zero,i.size,i.bytes)) = some (some (.pointer none),1,8) := by kernel_rfl
theorem info_strT : (Tryz.prog.info? 9).map (fun i => (i.zero,i.size,i.bytes)) = some (some (.string (B [])),1,16) := by kernel_rfl
theorem inOrder_i (w : World) : Calls Tryz.prog 212 #[] w fun e w' => ∃ cb mb,e = .returned (numI cb) ∧ w'.heap[cb]? = some (.cells #[.map (some mb)] 359 (0,0)) ∧ GM kI natV 3 w' mb ([] : List (Nat × Nat)) ∧ w.grownBy w' none ∧ w.heap.size ≤ mb := by
  have hmm := @run_makeMap Tryz.prog
  have hmf : ∀ (fn : Fn) (first cap : Array Value) (w : World),(Instr.makeFunc fn first cap).run Tryz.prog w = .ok (.func fn first cap) w := fun _ _ _ _ => rfl
  go_enter Tryz.func212,Tryz.ntmps212
  go_wp2
  go_ret
  have hm : GM kI natV 3 (w.alloc (.map #[] 0)) w.heap.size ([] : List (Nat × Nat)) := GM.new
  exact ⟨w.heap.size + 1,w.heap.size,rfl,heap_alloc_at _ _ _ (by simp),hm.same (Below.heap_alloc _ _ _ (by simp)),(World.grownBy_alloc _ _ _).trans (World.grownBy_alloc _ _ _),Nat.le_refl _⟩
theorem letters_i (w : World) : Calls Tryz.prog 205 #[.string (B [95])] w fun e w' => ∃ a,e = .returned (askI a) ∧ IOI w' a [] ∧ w.grownBy w' none ∧ w.heap.size ≤ a.mb := by
  have hmf : ∀ (fn : Fn) (first cap : Array Value) (w : World),(Instr.makeFunc fn first cap).run Tryz.prog w = .ok (.func fn first cap) w := fun _ _ _ _ => rfl
  have hk : (w.alloc (.cells #[.string (B [95])] 9)).heap[w.heap.size]? = some (.cells #[.string (B [95])] 9 (0,0)) := heap_alloc_at _ _ _ rfl
  have HK := hid hk
  clear hk
  go_enter Tryz.func205,Tryz.ntmps205
  go_wp2_with fail
  refine (inOrder_i _).mono ?_
  rintro e w1 ⟨cb,mb,rfl,hc,hm,g1,hmb⟩
  have Q := hid (And.intro hc (And.intro hm (And.intro g1 hmb)))
  have hs1 : w.heap.size + 1 ≤ w1.heap.size := by have := g1.size; simpa using this
  clear hc hm g1 hmb
  unfold numI
  go_wp2
  go_ret
  obtain ⟨hc,hm,g1,hmb⟩ := Q.out
  have hk1 := (g1.block w.heap.size (by simp) (by simp)).trans HK.out
  have ga := World.grownBy_alloc w1 (.cells #[numI cb] 364) none
  refine ⟨⟨w.heap.size,w1.heap.size,cb,mb⟩,rfl,⟨(ga.block w.heap.size (by omega) (by simp)).trans hk1,heap_alloc_at _ _ _ rfl,(ga.block _ (lt_of_block hc) (by simp)).trans hc,?_,fun c h => by cases h⟩,((World.grownBy_alloc _ _ _).trans g1).trans ga,?_⟩
  · exact hm.same (ga.block _ hm.lt (by simp))
  · simp at hmb
    show w.heap.size ≤ mb
    omega
def txS : List Et → List Nat → Option (List (List UInt8))
  | [],_ => some []
  | t :: ts,O => match draftS ⟨[],[]⟩ 1 130 t (ds0 O) with
    | none => none
    | some s' => match txS ts s'.O with
      | none => none
      | some l => some (s'.out :: l)
theorem txS_step {ts : List Et} {j : Nat} {O : List Nat} {l : List (List UInt8)} {t : Et} (h : txS (ts.drop j) O = some l) (ht : ts[j]? = some t) : ∃ s' l',draftS ⟨[],[]⟩ 1 130 t (ds0 O) = some s' ∧ txS (ts.drop (j + 1)) s'.O = some l' ∧ l = s'.out :: l' := by
  obtain ⟨hj,e⟩ := List.getElem?_eq_some_iff.1 ht
  rw [List.drop_eq_getElem_cons hj,e,txS] at h
  cases e1 : draftS ⟨[],[]⟩ 1 130 t (ds0 O) with
  | none => rw [e1] at h; cases h
  | some s' =>
    rw [e1] at h
    simp only at h
    cases e2 : txS (ts.drop (j + 1)) s'.O with
    | none => rw [e2] at h; cases h
    | some l' => rw [e2] at h; cases h; exact ⟨s',l',rfl,e2,rfl⟩
def NoDp (o : Obj) : Prop := ∀ cs fz,o ≠ .cells cs 123 fz
theorem noDp_map (es : Array MapEntry) (cl : Nat) : NoDp (.map es cl) := fun cs fz e => by cases e
theorem noDp_cells {cs : Array Value} {t : TypeId} {fz : Nat × Nat} (h : t ≠ 123) : NoDp (.cells cs t fz) := fun cs' fz' e => by injection e; exact h (by assumption)
theorem DR.sameD {c : Dc} {bs : Nat} {s : Ds} {w w' : World} (h : DR c bs s w) (hh : ∀ (k : Nat) (o : Obj),w.heap[k]? = some o → NoDp o → w'.heap[k]? = some o) : DR c bs s w' := by
  obtain ⟨sv,hb,ho⟩ := h.blk
  have hm : ∀ (k : Nat),(∃ es cl,w.heap[k]? = some (Obj.map es cl)) → w'.heap[k]? = w.heap[k]? := fun k ⟨es,cl,e⟩ => (hh k _ e (noDp_map es cl)).trans e.symm
  have hc : ∀ (k : Nat) (cs : Array Value) (t : TypeId) (fz : Nat × Nat),w.heap[k]? = some (Obj.cells cs t fz) → t ≠ 123 → w'.heap[k]? = w.heap[k]? := fun k cs t fz e ht => (hh k _ e (noDp_cells ht)).trans e.symm
  refine ⟨⟨sv,hh _ _ hb (noDp_cells (by decide)),ho.1,?_⟩,h.run,h.ok,h.short,h.st.same (hm _ h.st.isMap),fun a ha => ?_,fun a ha => ?_,h.ap,h.lo⟩
  · rcases ho.2 with q | ⟨gb,cap,cur,q1,q2,q3,q4⟩
    · exact Or.inl q
    · exact Or.inr ⟨gb,cap,cur,q1,q2,hh _ _ q3 (noDp_cells (by decide)),q4⟩
  · obtain ⟨i,l1,l2⟩ := h.an a ha
    obtain ⟨D,⟨es,clock,q1,q2⟩,q3⟩ := i.mp
    exact ⟨i.same (hc _ _ _ _ i.mrk (by decide)) (hc _ _ _ _ i.nf (by decide)) (hc _ _ _ _ i.blk (by decide)) (hm _ ⟨_,_,q1⟩),l1,l2⟩
  · obtain ⟨i,l1⟩ := h.ow a ha
    exact ⟨i.same (hc _ _ _ _ i.mrk (by decide)) (hc _ _ _ _ i.nf (by decide)) (hc _ _ _ _ i.blk (by decide)) (hm _ i.mp.isMap),l1⟩
theorem ownsRow_gb0 {R : Nat → Prop} {w w' : World} {base size n : Nat} {e : TypeId} {v : Value} {xs : List Value} (h : w.ownsRow base e size v n xs) (g : Gb R w w') (hn : ∀ k,v.ownBlock = some k → ¬ R k) : w'.ownsRow base e size v n xs := by
  obtain ⟨h1,h2⟩ := h
  refine ⟨h1,?_⟩
  rcases h2 with h2 | ⟨k,cap,cur,rfl,h3,h4,h5⟩
  · exact .inl h2
  · exact .inr ⟨k,cap,cur,rfl,h3,g.at h4 (hn k rfl),h5⟩
theorem row_cellC {w : World} {base g n cap : Nat} {e : TypeId} {xs : List Value} (h : w.ownsRow base e 1 (.slice (some ⟨g,0,none⟩) n cap) n xs) {k : Nat} {u : Value} (hk : xs[k]? = some u) : w.cell? ⟨g,k,none⟩ = some u ∧ g < w.heap.size := by
  have hl := h.lt g rfl
  obtain ⟨h1,h2⟩ := h
  rcases h2 with ⟨h2,_⟩ | ⟨g',cap',cur,e1,h3,h4,h5,h6,h7,h8⟩
  · cases h2
  · have eg : g = g' := by injection e1 with q; injection q with q; injection q
    subst eg
    rw [← h8] at hk
    have hkl : k < n * 1 := by
      have := (List.getElem?_eq_some_iff.1 hk).1
      rw [List.length_take] at this
      omega
    rw [List.getElem?_take_of_lt hkl] at hk
    have e2 : cur[k]? = some u := by simpa using hk
    exact ⟨by simp [World.cell?,h4,e2],hl.2⟩
theorem row_some {w : World} {base n : Nat} {e : TypeId} {k : Nat} {v : Value} {xs : List Value} (h : w.ownsRow base e k v n xs) (h0 : 0 < n) : ∃ g cap,v = .slice (some ⟨g,0,none⟩) n cap := by
  rcases h.2 with ⟨_,q⟩ | ⟨g,cap,cur,e,_⟩
  · omega
  · exact ⟨g,cap,e⟩
theorem row_base {w : World} {base b2 n : Nat} {e : TypeId} {k : Nat} {v : Value} {xs : List Value} (h : w.ownsRow base e k v n xs) (hb : b2 ≤ base) : w.ownsRow b2 e k v n xs := by
  obtain ⟨h1,h2⟩ := h
  refine ⟨h1,?_⟩
  rcases h2 with h2 | ⟨k,cap,cur,rfl,h3,h4⟩
  · exact .inl h2
  · exact .inr ⟨k,cap,cur,rfl,Nat.le_trans hb h3,h4⟩
def DOne (w0 : World) (ab : AB) (db : Nat) (out : List UInt8) (w : World) : Prop := ∃ c bs s,c.db = db ∧ c.own = some ab ∧ w0.heap.size ≤ bs ∧ DR c bs s w ∧ s.out = out
theorem DOne.len {w0 w : World} {ab : AB} {db : Nat} {out : List UInt8} (h : DOne w0 ab db out w) : w.cell? ⟨db,3,none⟩ = some (.int .i64 (out.length : Int)) ∧ out.length ≤ 100000 ∧ db < w.heap.size := by
  obtain ⟨c,bs,s,rfl,_,_,q4,rfl⟩ := h
  obtain ⟨sv,hb,_⟩ := q4.blk
  refine ⟨?_,q4.short.1,lt_of_block hb⟩
  unfold draftB at hb
  simp [World.cell?,hb]
structure DRow (H : Nat → Option Obj) (w0 : World) (ab : AB) (outs : List (List UInt8)) (O : List Nat) (dv : Value) (w : World) : Prop where
  dbs : ∃ dbs : List Nat,dbs.length = outs.length ∧ w.ownsRow w0.heap.size 123 1 dv outs.length (dbs.map CP) ∧ ∀ (i : Nat) (db : Nat) (out : List UInt8),dbs[i]? = some db → outs[i]? = some out → DOne w0 ab db out w
  own : IOI w ab O
  mlo : w0.heap.size ≤ ab.mb
  gr : w0.grownBy w none
theorem IOI.row_ne {w : World} {ab : AB} {O : List Nat} (h : IOI w ab O) {base n : Nat} {T : TypeId} {k : Nat} {v : Value} {xs : List Value} (ho : w.ownsRow base T k v n xs) : v.ownBlock ≠ some ab.mb := fun e => by
  rcases ho.2 with ⟨rfl,_⟩ | ⟨gb,cap,cur,rfl,_,q3,_⟩
  · simp [Value.ownBlock] at e
  · simp [Value.ownBlock] at e
    obtain ⟨es,cl,e2⟩ := h.mp.isMap
    rw [e,e2] at q3
    cases q3
theorem DRow.grown {H : Nat → Option Obj} {w0 w w1 : World} {ab : AB} {outs : List (List UInt8)} {O : List Nat} {dv : Value} (h : DRow H w0 ab outs O dv w) (g : w.grownBy w1 none) : DRow H w0 ab outs O dv w1 := by
  obtain ⟨dbs,ld,row,hd⟩ := h.dbs
  have gF : Gb (fun _ => False) w w1 := Gb.new g
  have hh : ∀ (k : Nat),(∃ o,w.heap[k]? = some o) → w1.heap[k]? = w.heap[k]? := fun k ⟨o,e⟩ => (gF.at e id).trans e.symm
  exact ⟨⟨dbs,ld,ownsRow_gb0 row gF (fun _ _ => id),fun i d o e1 e2 => by
    obtain ⟨c,bs,s,q1,q2,q3,q4,q5⟩ := hd i d o e1 e2
    exact ⟨c,bs,s,q1,q2,q3,q4.same (fun k o e _ => gF.at e id),q5⟩⟩,h.own.same (hh _ ⟨_,h.own.mrk⟩) (hh _ ⟨_,h.own.nf⟩) (hh _ ⟨_,h.own.blk⟩) (hh _ (by obtain ⟨es,cl,e⟩ := h.own.mp.isMap; exact ⟨_,e⟩)),h.mlo,h.gr.trans g⟩
theorem DRow.more {H : Nat → Option Obj} {w0 w w1 w2 : World} {ab a1 : AB} {outs : List (List UInt8)} {O : List Nat} {dv : Value} {db mb : Nat} {s' : Ds} (h : DRow H w0 ab outs O dv w) (g1 : w.grownBy w1 none) (hw : DW H [] ⟨[],[]⟩ (fun _ => 0) ⟨db,mb,some a1,some ab⟩ w.heap.size s' w2) (g2 : Gb (DG [] ⟨db,mb,some a1,some ab⟩ w.heap.size) w1 w2) :
    DRow H w0 ab outs s'.O dv w2 ∧ DOne w0 ab db s'.out w2 ∧ ¬ dv.ownBlock = some db := by
  obtain ⟨dbs,ld,row,hd⟩ := h.dbs
  have i2 := (hw.dr.ow ab rfl).1
  have gg : w.grownBy w2 (some ab.mb) := by
    refine ⟨g2.os.trans g1.os,g2.tape.trans g1.tape,g2.output.trans g1.output,Nat.le_trans g1.size g2.size,fun k hk hn => ?_⟩
    rw [g2.block k (Nat.lt_of_lt_of_le hk g1.size) (fun e => ?_),g1.block k hk (by simp)]
    rcases e with e | e | ⟨a,e,rfl⟩
    · cases e
    · omega
    · cases e; exact hn rfl
  have gb : Gb (fun k => k = ab.mb) w w2 := Gb.of gg (fun b e => by cases e; exact Or.inl rfl)
  have hne := h.own.row_ne row
  refine ⟨⟨⟨dbs,ld,ownsRow_gb0 row gb (fun k e1 e2 => hne (e2 ▸ e1)),fun i d o e1 e2 => ?_⟩,i2,h.mlo,?_⟩,⟨_,_,s',rfl,rfl,h.gr.size,hw.dr,rfl⟩,fun e => ?_⟩
  · obtain ⟨c,bs,s,q1,q2,q3,q4,q5⟩ := hd i d o e1 e2
    exact ⟨c,bs,_,q1,q2,q3,q4.ownL q2 i2 gg,q5⟩
  · refine ⟨gg.os.trans h.gr.os,gg.tape.trans h.gr.tape,gg.output.trans h.gr.output,Nat.le_trans h.gr.size gg.size,fun k hk _ => ?_⟩
    rw [gg.block k (Nat.lt_of_lt_of_le hk h.gr.size) (fun e => by cases e; have := h.mlo; omega),h.gr.block k hk (by simp)]
  · obtain ⟨sv,hb,_⟩ := hw.dr.blk
    have h1 := (row.lt db e).2
    have h2 := hw.dr.lo.1
    simp only at h2
    omega
theorem DRow.app {H : Nat → Option Obj} {w0 w w2 : World} {ab : AB} {outs : List (List UInt8)} {O : List Nat} {dv : Value} {db : Nat} {out : List UInt8} (h : DRow H w0 ab outs O dv w) (h1 : DOne w0 ab db out w) (g2 : w.grownBy w2 none) :
    ∃ dbs : List Nat,w2.ownsRow w0.heap.size 123 1 dv outs.length (dbs.map CP) ∧ w0.heap.size ≤ w2.heap.size ∧ ∀ g cap w3,w3.ownsRow w0.heap.size 123 1 (.slice (some ⟨g,0,none⟩) (outs.length + 1) cap) (outs.length + 1) (dbs.map CP ++ [CP db]) → w2.grownBy w3 dv.ownBlock → DRow H w0 ab (outs ++ [out]) O (.slice (some ⟨g,0,none⟩) (outs.length + 1) cap) w3 := by
  obtain ⟨dbs,ld,row,hd⟩ := h.dbs
  have gF : Gb (fun _ => False) w w2 := Gb.new g2
  have row2 := ownsRow_gb0 row gF (fun _ _ => id)
  refine ⟨dbs,row2,Nat.le_trans h.gr.size g2.size,fun g cap w3 hown hgr => ?_⟩
  have keep : ∀ (k : Nat) (o : Obj),w.heap[k]? = some o → NoDp o → w3.heap[k]? = some o := fun k o e hn => by
    have e2 := gF.at e id
    rw [hgr.block k (lt_of_block e2) (fun e3 => ?_)]
    · exact e2
    · rcases row2.2 with ⟨rfl,_⟩ | ⟨gb,cap,cur,rfl,_,q3,_⟩
      · simp [Value.ownBlock] at e3
      · simp [Value.ownBlock] at e3
        rw [← e3,e2] at q3
        exact hn _ _ (Option.some.inj q3)
  have one : ∀ {d o},DOne w0 ab d o w → DOne w0 ab d o w3 := fun ⟨c,bs,s,q1,q2,q3,q4,q5⟩ => ⟨c,bs,s,q1,q2,q3,q4.sameD keep,q5⟩
  have hh : ∀ k,(∃ o,w.heap[k]? = some o ∧ NoDp o) → w3.heap[k]? = w.heap[k]? := fun k ⟨o,e,hn⟩ => (keep k o e hn).trans e.symm
  refine ⟨⟨dbs ++ [db],by simp [ld],by rw [List.length_append,List.map_append]; exact hown,fun i d o e1 e2 => ?_⟩,h.own.same (hh _ ⟨_,h.own.mrk,noDp_cells (by decide)⟩) (hh _ ⟨_,h.own.nf,noDp_cells (by decide)⟩) (hh _ ⟨_,h.own.blk,noDp_cells (by decide)⟩) (hh _ (by obtain ⟨es,cl,e⟩ := h.own.mp.isMap; exact ⟨_,e,noDp_map es cl⟩)),h.mlo,?_⟩
  · rcases Nat.lt_or_ge i outs.length with hi | hi
    · rw [List.getElem?_append_left hi] at e2
      rw [List.getElem?_append_left (by rw [ld]; exact hi)] at e1
      exact one (hd i d o e1 e2)
    · rw [List.getElem?_append_right hi] at e2
      rw [List.getElem?_append_right (by rw [ld]; exact hi),ld] at e1
      match hj : i - outs.length with
      | 0 => rw [hj] at e1 e2; cases e1; cases e2; exact one h1
      | k + 1 => rw [hj] at e1; simp at e1
  · refine ⟨hgr.os.trans (g2.os.trans h.gr.os),hgr.tape.trans (g2.tape.trans h.gr.tape),hgr.output.trans (g2.output.trans h.gr.output),Nat.le_trans h.gr.size (Nat.le_trans g2.size hgr.size),fun k hk _ => ?_⟩
    have l1 := Nat.lt_of_lt_of_le hk h.gr.size
    rw [hgr.block k (Nat.lt_of_lt_of_le l1 g2.size) (fun e => by have := (row2.lt k e.symm).1; omega),g2.block k l1 (by simp),h.gr.block k hk (by simp)]
def sumL (l : List (List UInt8)) : Nat := (l.map List.length).sum
theorem sumL_snoc (l : List (List UInt8)) (x : List UInt8) : sumL (l ++ [x]) = sumL l + x.length := by simp [sumL]
theorem cell_b0 {w : World} {b : Nat} {cs : Array Value} {t : TypeId} (h : w.heap[b]? = some (.cells cs t (0,0))) (i : Nat) {v : Value} (hi : cs[i]? = some v) : w.cell? ⟨b,i,none⟩ = some v := by simp [World.cell?,h,hi]
theorem texts_any {H : Nat → Option Obj} {vs : List Value} {ts : List Et} {outs : List (List UInt8)} {g n cap : Nat} {w : World} (hz : Fz H w) (h0 : 0 < n) (hn : n ≤ 1000) (lv : vs.length = n) (lt : ts.length = n) (hrow : ∀ j v,vs[j]? = some v → w.cell? ⟨g,j,none⟩ = some v) (he : ∀ (j : Nat) (v : Value) (t : Et),vs[j]? = some v → ts[j]? = some t → ER H [] v t) (hts : txS ts [] = some outs) :
    Calls Tryz.prog 196 #[.slice (some ⟨g,0,none⟩) n cap,.int .i64 2147483647] w fun e w' => ∃ v,e = .returned (.tuple #[v,.bool true]) ∧ outs.length = n ∧ w'.ownsRow w.heap.size 9 1 v n (outs.map fun s => .string (B s)) ∧ w.grownBy w' none := by
  obtain ⟨i0,hi0,hz0,hz1,hz2⟩ := info_parts info_draftp
  have Q := hid (And.intro hz (And.intro lv (And.intro lt (And.intro hrow (And.intro he hts)))))
  clear hz lv lt hrow he hts
  go_enter Tryz.func196,Tryz.ntmps196
  go_wp2_with fail
  refine (letters_i _).mono ?_
  rintro e w1 ⟨ab,rfl,i1,g1,hmb⟩
  have D0 := hid (show DRow H w ab [] [] (.slice none 0 0) w1 from ⟨⟨[],rfl,World.ownsRow_nil _ _ _ _,fun i db out e => by simp at e⟩,i1,hmb,g1⟩)
  clear i1 g1 hmb
  unfold askI
  go_wp2_with fail
  go_loopg [1,7,17] (n + 1) (fun gh m dv i wi => ∃ (j : Nat) (done rest : List (List UInt8)) (O : List Nat),j ≤ n ∧ m = .int .i64 (2147483647 - (sumL done : Nat)) ∧ i = .int .i64 j ∧ gh = n - j + 1 ∧ sumL done ≤ 100000 * j ∧ done.length = j ∧ Hid (outs = done ++ rest ∧ txS (ts.drop j) O = some rest) ∧ Hid (DRow H w ab done O dv wi))
  case atStart => exact ⟨0,[],outs,[],by omega,rfl,rfl,by omega,Nat.zero_le _,rfl,hid ⟨rfl,Q.out.2.2.2.2.2⟩,D0⟩
  case round =>
    obtain ⟨j,done,rest,O,hj,rfl,rfl,hgj,hsum,hdl,HT,HD⟩ := hrel
    by_cases hjn : j < n
    · obtain ⟨v,hv⟩ : ∃ v,vs[j]? = some v := ⟨_,List.getElem?_eq_getElem (by rw [Q.out.2.1]; exact hjn)⟩
      obtain ⟨t,ht⟩ : ∃ t,ts[j]? = some t := ⟨_,List.getElem?_eq_getElem (by rw [Q.out.2.2.1]; exact hjn)⟩
      obtain ⟨s',l',hs',htx,hl'⟩ := txS_step HT.out.2 ht
      have hER := Q.out.2.2.2.2.1 j v t hv ht
      obtain ⟨Tv,bv,rfl⟩ : ∃ T b,v = .iface T (.pointer (some ⟨b,0,none⟩)) := by
        obtain ⟨m,hm⟩ := hER
        obtain ⟨T0,b,e,_⟩ := hm.arrow
        exact ⟨T0,b,e⟩
      have hc0 := Q.out.2.2.2.1 j _ hv
      have lg : g < w.heap.size := by
        rcases Nat.lt_or_ge g w.heap.size with h | h
        · exact h
        · simp [World.cell?,Array.getElem?_eq_none h] at hc0
      have hcj : wr.cell? ⟨g,j,none⟩ = some (.iface Tv (.pointer (some ⟨bv,0,none⟩))) := (Gb.new (R := fun _ => False) HD.out.gr).cell hc0 lg id
      have lgr : g < wr.heap.size := Nat.lt_of_lt_of_le lg HD.out.gr.size
      have gn : wr.grownBy (wr.alloc (.cells #[.iface Tv (.pointer (some ⟨bv,0,none⟩))] 109)).drew none := grown_drew (World.grownBy_alloc _ _ _)
      have CL := hid (letters_q (wr.alloc (.cells #[.iface Tv (.pointer (some ⟨bv,0,none⟩))] 109)).drew)
      have S2 := hid (show (wr.alloc (.cells #[.iface Tv (.pointer (some ⟨bv,0,none⟩))] 109)).drew.cell? ⟨wr.heap.size,0,none⟩ = some (.iface Tv (.pointer (some ⟨bv,0,none⟩))) from cell_b0 (w := (wr.alloc (.cells #[.iface Tv (.pointer (some ⟨bv,0,none⟩))] 109)).drew) (heap_alloc_new wr _) 0 rfl)
      have GN := hid gn
      have HS := hid (And.intro hER (And.intro hs' (And.intro htx hl')))
      have hjl : (j : Int) < n := by omega
      clear hv ht hs' htx hl' hER hc0 lg gn
      have D1 := hid (HD.out.grown GN.out)
      have hsz := hid (show ((wr.alloc (.cells #[.iface Tv (.pointer (some ⟨bv,0,none⟩))] 109)).drew).heap.size = wr.heap.size + 1 by simp [World.drew])
      have hab : ab.mb < wr.heap.size := HD.out.own.mp.lt
      have hsd := hsum
      clear HD
      go_wp2_with fail
      go_region_held3 (fun wx => wx.cell? ⟨wr.heap.size,0,none⟩ = some (.iface Tv (.pointer (some ⟨bv,0,none⟩)))) (first | exact S2.out | exact S6.out | exact S5.out | go_keep) (first
        | (go_at_call 55; refine CL.out.mono ?_; rintro e w2 ⟨a1,rfl,i1,g1,hmb⟩; have S5 := hid ((Gb.new (R := fun _ => False) g1).cell S2.out (by rw [hsz.out]; omega) id); have CD := hid (draftOf_any (H := H) (ca := []) (σ := ⟨[],[]⟩) (d := fun _ => 0) (any := some a1) (own := some ab) (bs := ((wr.alloc (.cells #[.iface Tv (.pointer (some ⟨bv,0,none⟩))] 109)).drew).heap.size) (md := 1) (O := O) (w := w2) ⟨fun e => absurd e (by decide),fun e => by cases e⟩ (fun e => absurd e (by decide)) HS.out.1 HS.out.2.1 (CSd.nil (Q.out.1.grown (D1.out.gr.trans g1))) (fun a h => by cases h) (fun k o e => Nat.lt_of_lt_of_le (Q.out.1.lt e) D1.out.gr.size) g1.size (fun a e => by cases e; exact ⟨i1,hmb⟩) (fun a e => by cases e; exact ⟨(D1.out.grown g1).own,Q.out.1.none D1.out.mlo,List.not_mem_nil⟩) (fun a b e1 e2 => by cases e1; cases e2; have := D1.out.own.mp.lt; omega)); have G1 := hid g1; unfold anyOf ownOf at CD; simp only at CD; unfold askV askI at CD; unfold askV; clear i1 g1 hmb)
        | (go_at_call 54; refine CD.out.mono ?_; rintro e w3 ⟨db,mb,rfl,r3,g3⟩; have M3 := hid (D1.out.more G1.out r3 g3); have S6 := hid (g3.cell S5.out (Nat.lt_of_lt_of_le (by rw [hsz.out]; omega) G1.out.size) (fun e => by rcases e with e | e | ⟨a,e,e2⟩; (cases e); (rw [hsz.out] at e; omega); (cases e; omega))); clear r3 g3))
      all_goals
        obtain ⟨M1,M2,M4⟩ := M3.out
        obtain ⟨cl,ll,ldb⟩ := M2.len
        have gS : w3.grownBy (w3.alloc (.cells #[CP db] 123)) none := World.grownBy_alloc _ _ _
        obtain ⟨dbs,row2,hbs,APP⟩ := M1.app M2 gS
        have AP := hid APP
        have hnews : ∀ i v,[CP db][i]? = some v → (w3.alloc (.cells #[CP db] 123)).cell? ((⟨w3.heap.size,0,none⟩ : Addr).add i) = some v := World.news_of_block (heap_alloc_new w3 _)
        have hone : ∀ v,v ∈ [CP db] → v.oneCell' = true := fun v hv => by rw [List.mem_singleton.1 hv]; rfl
        have hle : (s'.out.length : Int) ≤ 2147483647 - (sumL done : Nat) := by omega
        have E9 := hid (sumL_snoc done s'.out)
        have hdl' : done.length ≤ 1000 := by omega
        rw [hdl] at row2
        clear CL S2 S5 S6 CD G1 M3 D1 GN hsz M1 M2 M4 APP gS hab
        unfold CP at *
        go_wp2_with (at_builtin; refine wpList_append_lies _ rfl (.tmp 39) (.tmp 41) 361 rfl w.heap.size 123 i0 (.pointer none) 1 8 Tryz.underlying361 hi0 hz0 hz1 hz2 rfl (by decide) _ _ _ rfl row2 ⟨w3.heap.size,0,none⟩ 1 1 [.pointer (some ⟨db,0,none⟩)] rfl rfl hnews hone (by decide) (by unfold maxLen; omega) (by omega) hbs (w3.heap.size + 1) (by simp) ?_)
        intro g7 cap7 w7 hown7 hgrow7 hat7 _
        rw [← hdl] at hown7
        have F7 := hid (AP.out g7 cap7 w7 hown7 hgrow7)
        rw [hdl] at F7
        clear hown7 hgrow7 hat7 AP row2 hbs hnews hone
        go_wp2_with fail
        go_roundg (n - (j + 1) + 1)
        case measure => omega
        case rel => exact ⟨j + 1,done ++ [s'.out],l',s'.O,by omega,by rw [E9.out]; go_num,by go_num,rfl,by rw [E9.out]; omega,by simp [hdl],hid ⟨by rw [HT.out.1,HS.out.2.2.2,List.append_assoc]; rfl,HS.out.2.2.1⟩,F7⟩
    · have hje : j = n := by omega
      subst hje
      have hr : rest = [] := by
        have := HT.out.2
        rw [List.drop_eq_nil_of_le (by rw [Q.out.2.2.1]; exact Nat.le_refl _),txS] at this
        exact (Option.some.inj this).symm
      have hod : outs = done := by rw [HT.out.1,hr,List.append_nil]
      subst hod
      obtain ⟨W0,hW0⟩ : ∃ W0,W0 = wr := ⟨_,rfl⟩
      subst hW0
      obtain ⟨dbs,ld,row,hd⟩ := HD.out.dbs
      rw [hdl] at ld row
      obtain ⟨gd,capd,rfl⟩ := row_some row h0
      obtain ⟨k0,hk0,hy0,hy1,hy2⟩ := info_parts info_strT
      have R0 := hid (And.intro row (And.intro hd HD.out.gr))
      have T0 := hid (show W0.ownsRow W0.heap.size 9 1 (.slice none 0 0) 0 (([] : List (List UInt8)).map fun s => Value.string (B s)) ∧ W0.grownBy W0 none from ⟨World.ownsRow_nil _ _ _ _,⟨rfl,rfl,rfl,Nat.le_refl _,fun _ _ _ => rfl⟩⟩)
      clear HD D0 row hd hr HT hsum hgj hjn
      go_wp2_with fail
      go_loopg [11,46] (j + 1) (fun gh tv i wi => ∃ (k : Nat),k ≤ j ∧ i = .int .i64 k ∧ gh = j - k + 1 ∧ Hid (wi.ownsRow W0.heap.size 9 1 tv k ((outs.take k).map fun s => Value.string (B s)) ∧ W0.grownBy wi none))
      case atStart => exact ⟨0,by omega,rfl,by omega,T0⟩
      case round =>
        obtain ⟨k,hk,rfl,hgk,HK⟩ := hrel
        by_cases hkj : k < j
        · obtain ⟨db,hdb⟩ : ∃ x,dbs[k]? = some x := ⟨_,List.getElem?_eq_getElem (by rw [ld]; exact hkj)⟩
          obtain ⟨out,hout⟩ : ∃ x,outs[k]? = some x := ⟨_,List.getElem?_eq_getElem (by rw [hdl]; exact hkj)⟩
          obtain ⟨c,bs,s,rfl,_,hbs0,hdr,rfl⟩ := R0.out.2.1 k db out hdb hout
          have gF : Gb (fun _ => False) W0 wr := Gb.new HK.out.2
          obtain ⟨cc,lgd⟩ := row_cellC R0.out.1 (k := k) (u := CP c.db) (by rw [List.getElem?_map,hdb]; rfl)
          have cc2 := gF.cell cc lgd id
          have lgd2 : gd < wr.heap.size := Nat.lt_of_lt_of_le lgd gF.size
          have CT := hid (dtext_any (hdr.same (fun k o e _ => gF.at e id)))
          have HO := hid hout
          have hkl : (k : Int) < j := by omega
          clear cc hdb hout hdr hbs0 gF
          unfold CP at *
          go_wp2_with fail
          refine CT.out.mono ?_
          rintro e w3 ⟨rfl,b3⟩
          have g3 : wr.grownBy w3 none := ⟨b3.os,b3.tape,b3.output,b3.size,fun k hk _ => b3.block k hk⟩
          have gS : w3.grownBy (w3.alloc (.cells #[.string (B s.out)] 9)) none := World.grownBy_alloc _ _ _
          have row2 := ownsRow_gb0 HK.out.1 (Gb.new (R := fun _ => False) (g3.trans gS)) (fun _ _ => id)
          have hbs : W0.heap.size ≤ (w3.alloc (.cells #[.string (B s.out)] 9)).heap.size := Nat.le_trans HK.out.2.size (g3.trans gS).size
          have hnews : ∀ i v,[Value.string (B s.out)][i]? = some v → (w3.alloc (.cells #[.string (B s.out)] 9)).cell? ((⟨w3.heap.size,0,none⟩ : Addr).add i) = some v := World.news_of_block (heap_alloc_new w3 _)
          have hone : ∀ v,v ∈ [Value.string (B s.out)] → v.oneCell' = true := fun v hv => by rw [List.mem_singleton.1 hv]; rfl
          have G3 := hid (HK.out.2.trans (g3.trans gS))
          have O7 := hid (fun q (hq : u11.ownBlock = some q) => (HK.out.1.lt q hq).1)
          clear b3 g3 gS CT HK
          go_wp2_with (at_builtin; refine wpList_append_lies _ rfl (.tmp 50) (.tmp 53) 26 rfl W0.heap.size 9 k0 (.string (B [])) 1 16 Tryz.underlying26 hk0 hy0 hy1 hy2 rfl (by decide) _ _ _ rfl row2 ⟨w3.heap.size,0,none⟩ 1 1 [.string (B s.out)] rfl rfl hnews hone (by decide) (by unfold maxLen; omega) (by omega) hbs (w3.heap.size + 1) (by simp) ?_)
          intro g7 cap7 w7 hown7 hgrow7 hat7 _
          have F7 := hid (show w7.ownsRow W0.heap.size 9 1 (.slice (some ⟨g7,0,none⟩) (k + 1) cap7) (k + 1) ((outs.take (k + 1)).map fun s => Value.string (B s)) ∧ W0.grownBy w7 none from ⟨by rw [List.take_add_one,HO.out,List.map_append]; rw [← List.map_take] at hown7; exact hown7,⟨hgrow7.os.trans G3.out.os,hgrow7.tape.trans G3.out.tape,hgrow7.output.trans G3.out.output,Nat.le_trans G3.out.size hgrow7.size,fun q hq _ => by rw [hgrow7.block q (Nat.lt_of_lt_of_le hq G3.out.size) (fun e => by have := O7.out q e.symm; omega),G3.out.block q hq (by simp)]⟩⟩)
          clear hown7 hgrow7 hat7 row2 hbs hnews hone G3 O7
          go_wp2_with fail
          go_roundg (j - (k + 1) + 1)
          case measure => omega
          case rel => exact ⟨k + 1,by omega,by go_num,rfl,F7⟩
        · have hke : k = j := by omega
          subst hke
          have hout : (outs.take k).map (fun s => Value.string (B s)) = outs.map fun s => Value.string (B s) := by rw [List.take_of_length_le (by omega)]
          have hown := HK.out.1
          rw [hout] at hown
          obtain ⟨g9,cap9,rfl⟩ := row_some hown h0
          have F9 := hid (And.intro (row_base hown R0.out.2.2.size) (R0.out.2.2.trans HK.out.2))
          clear hown HK hout
          go_wp2
          refine bodyPost_ret (v := .tuple #[.slice (some ⟨g9,0,none⟩) k cap9,.bool true]) (by simp [results,Tryz.results196,go_sem]) rfl ?_
          exact ⟨_,rfl,hdl,F9.out.1,F9.out.2⟩
theorem clone_s {w : World} {base b n c : Nat} {xs : List Value} (hn : n ≤ 1000) (hn0 : 0 < n) (h1 : ∀ u,u ∈ xs → u.oneCell' = true) (h : w.ownsRow base 9 1 (.slice (some ⟨b,0,none⟩) n c) n xs) :
    Calls Tryz.prog 29 #[.slice (some ⟨b,0,none⟩) n c] w fun e w' => ∃ g cap,e = .returned (.slice (some ⟨g,0,none⟩) n cap) ∧ w'.ownsRow w.heap.size 9 1 (.slice (some ⟨g,0,none⟩) n cap) n xs ∧ w.grownBy w' none := by
  obtain ⟨k0,hk0,hy0,hy1,hy2⟩ := info_parts info_strT
  have q22 : ∀ (w : World) (a : Option Addr) (n c n' c' : Nat),(binOp .eql 26 (.slice a n c) (.slice none n' c')).run Tryz.prog w = .ok (.bool a.isNone) w := fun w a n c n' c' => Lib.run_eql_slice_nil w _ _ a n c n' c' Tryz.underlying26
  have hl : xs.length = n * 1 := h.1
  have hnews : ∀ j u,xs[j]? = some u → (w.alloc (.cells #[] 9)).cell? ((⟨b,0,none⟩ : Addr).add j) = some u := fun j u e => by
    obtain ⟨q1,q2⟩ := row_cellC h e
    have q3 : (⟨b,0,none⟩ : Addr).add j = ⟨b,j,none⟩ := by unfold Addr.add; split <;> simp_all
    rw [q3]
    exact (Gb.new (R := fun _ => False) (World.grownBy_alloc w (.cells #[] 9) none)).cell q1 q2 id
  have HN := hid (And.intro hl (And.intro hnews h1))
  clear h hl hnews h1
  go_enter Tryz.func29,Tryz.ntmps29
  go_wp2_with (at_builtin; refine wpList_append_lies _ rfl (.tmp 5) (.tmp 6) 26 rfl w.heap.size 9 k0 (.string (B [])) 1 16 Tryz.underlying26 hk0 hy0 hy1 hy2 rfl (by decide) _ 0 [] rfl (World.ownsRow_made w #[] 0 (Nat.le_refl _) (Nat.zero_le _) rfl) ⟨b,0,none⟩ n c xs rfl HN.out.1 HN.out.2.1 HN.out.2.2 hn0 (by unfold maxLen; omega) (by omega) (by simp) (w.heap.size + 1) (by simp) ?_)
  intro g7 cap7 w7 hown7 hgrow7 hat7 _
  have F7 := hid (And.intro hown7 hgrow7)
  clear hown7 hgrow7 hat7
  go_wp2
  go_ret
  refine ⟨g7,cap7,rfl,by simpa using F7.out.1,?_⟩
  have g1 := World.grownBy_alloc w (.cells #[] 9) none
  have g2 := F7.out.2
  exact ⟨g2.os.trans g1.os,g2.tape.trans g1.tape,g2.output.trans g1.output,Nat.le_trans g1.size g2.size,fun k hk _ => by rw [g2.block k (Nat.lt_of_lt_of_le hk g1.size) (fun e => by simp [Value.ownBlock] at e; omega),g1.block k hk (by simp)]⟩
structure WCt where
  wb : Nat
  ob : Nat
  mq : Nat
  fq : Nat
  sb : Nat
def WCt.f (c : WCt) : Value := .func (.func 28) #[] #[.pointer (some ⟨c.wb,0,none⟩),.pointer (some ⟨c.ob,0,none⟩),.pointer (some ⟨c.mq,0,none⟩),.pointer (some ⟨c.fq,0,none⟩),.pointer (some ⟨c.sb,0,none⟩)]
def watB (rv : Value) : Obj := .cells #[rv,.string (B []),.int .i64 0,.int .i64 0,.string (B []),.int .i64 0,.int .i64 0,.bool false,.slice none 0 0,.slice none 0 0] 36 (0,0)
def strV (l : List (List UInt8)) : List Value := l.map fun s => .string (B s)
def rdL (l : List (Value × Nat × Value)) : List Value := l.flatMap fun r => [r.1,.int .i64 (r.2.1 : Int),r.2.2]
def StrR (base : Nat) (K : List Nat) (v : Value) (l : List (List UInt8)) (w : World) : Prop := w.ownsRow base 9 1 v l.length (strV l) ∧ ∀ q,v.ownBlock = some q → q ∈ K
structure WS (c : WCt) (stop : Int) (base : Nat) (K : List Nat) (rs : List (List (List UInt8) × List (List UInt8))) (w : World) : Prop where
  blk : ∃ rv rows,w.heap[c.wb]? = some (watB rv) ∧ rows.length = rs.length ∧ w.ownsRow base 39 3 rv rs.length (rdL rows) ∧ (∀ q,rv.ownBlock = some q → q ∈ K) ∧ ∀ (i : Nat) (row : Value × Nat × Value) r,rows[i]? = some row → rs[i]? = some r → row.2.1 = i + 1 ∧ StrR base K row.1 r.1 w ∧ StrR base K row.2.2 r.2 w
  oth : w.heap[c.ob]? = some (.cells #[.string (B [])] 9 (0,0))
  stp : w.heap[c.sb]? = some (.cells #[.int .i64 stop] 3 (0,0))
  lo : c.wb < base ∧ c.ob < base ∧ c.sb < base ∧ c.ob ≠ c.wb ∧ c.sb ≠ c.wb
  kp : ∀ k,k ∈ K → base ≤ k ∧ k < w.heap.size
  few : rs.length ≤ 1000
theorem WS.same {c : WCt} {stop : Int} {base : Nat} {K : List Nat} {rs : List (List (List UInt8) × List (List UInt8))} {w w' : World} {R : Nat → Prop} (h : WS c stop base K rs w) (g : Gb R w w') (hR : ∀ k,R k → base ≤ k ∧ k ∉ K) : WS c stop base K rs w' := by
  obtain ⟨rv,rows,h1,h2,h3,h4,h5⟩ := h.blk
  have lo := h.lo
  have nl : ∀ k,k < base → ¬ R k := fun k hk e => by have := (hR k e).1; omega
  have st : ∀ {v l},StrR base K v l w → StrR base K v l w' := fun q => ⟨ownsRow_gb0 q.1 g (fun k hk e => (hR k e).2 (q.2 k hk)),q.2⟩
  exact ⟨⟨rv,rows,g.at h1 (nl _ lo.1),h2,ownsRow_gb0 h3 g (fun k hk e => (hR k e).2 (h4 k hk)),h4,fun i row r e1 e2 => ⟨(h5 i row r e1 e2).1,st (h5 i row r e1 e2).2.1,st (h5 i row r e1 e2).2.2⟩⟩,g.at h.oth (nl _ lo.2.1),g.at h.stp (nl _ lo.2.2.1),h.lo,fun k hk => ⟨(h.kp k hk).1,Nat.lt_of_lt_of_le (h.kp k hk).2 g.size⟩,h.few⟩
theorem info_round : (Tryz.prog.info? 39).map (fun i => (i.zero,i.size,i.bytes)) = some (some (.agg #[.slice none 0 0,.int .i64 0,.slice none 0 0]),3,56) := by kernel_rfl
theorem row_typ {w : World} {base base' n n' k k' : Nat} {e e' : TypeId} {v v' : Value} {xs xs' : List Value} (h : w.ownsRow base e k v n xs) (h' : w.ownsRow base' e' k' v' n' xs') (he : e ≠ e') {q : Nat} (hq : v.ownBlock = some q) : v'.ownBlock ≠ some q := fun hq' => by
  rcases h.2 with ⟨rfl,_⟩ | ⟨g,cap,cur,rfl,_,q3,_⟩
  · simp [Value.ownBlock] at hq
  · rcases h'.2 with ⟨rfl,_⟩ | ⟨g',cap',cur',rfl,_,q3',_⟩
    · simp [Value.ownBlock] at hq'
    · simp [Value.ownBlock] at hq hq'
      subst hq hq'
      rw [q3] at q3'
      injection q3' with q
      injection q with _ q _
      exact he q
theorem rdL_app (l : List (Value × Nat × Value)) (r : Value × Nat × Value) : rdL (l ++ [r]) = rdL l ++ [r.1,.int .i64 (r.2.1 : Int),r.2.2] := by simp [rdL]
theorem WS.push {c : WCt} {stop : Int} {base : Nat} {K : List Nat} {rs : List (List (List UInt8) × List (List UInt8))} {ns us : List (List UInt8)} {w W4 w7 : World} {rv : Value} {rows : List (Value × Nat × Value)} {g1 cap1 g2 cap2 g7 cap7 n : Nat} (h : WS c stop base K rs w) (a1 : w.heap[c.wb]? = some (watB rv)) (a2 : rows.length = rs.length) (a3 : w.ownsRow base 39 3 rv rs.length (rdL rows)) (a4 : ∀ q,rv.ownBlock = some q → q ∈ K) (a5 : ∀ (i : Nat) (row : Value × Nat × Value) r,rows[i]? = some row → rs[i]? = some r → row.2.1 = i + 1 ∧ StrR base K row.1 r.1 w ∧ StrR base K row.2.2 r.2 w) (hrs : rs.length < 1000) (hbw : base ≤ w.heap.size)
    (l1 : ns.length = n) (l2 : us.length = n) (g4 : w.grownBy W4 none) (r1 : W4.ownsRow w.heap.size 9 1 (.slice (some ⟨g1,0,none⟩) n cap1) n (strV ns)) (r2 : W4.ownsRow w.heap.size 9 1 (.slice (some ⟨g2,0,none⟩) n cap2) n (strV us))
    (hown : w7.ownsRow base 39 3 (.slice (some ⟨g7,0,none⟩) (rs.length + 1) cap7) (rs.length + 1) (rdL rows ++ [.slice (some ⟨g1,0,none⟩) n cap1,.int .i64 ((rs.length + 1 : Nat) : Int),.slice (some ⟨g2,0,none⟩) n cap2])) (hgr : W4.grownBy w7 rv.ownBlock) (hat : rv.ownBlock = some g7 ∨ W4.heap.size ≤ g7) :
    WS c stop base (g7 :: g1 :: g2 :: K) (rs ++ [(ns,us)]) (w7.setCell ⟨c.wb,0,none⟩ (.slice (some ⟨g7,0,none⟩) (rs.length + 1) cap7)) ∧ Gb (fun k => k = c.wb ∨ k ∈ K) w (w7.setCell ⟨c.wb,0,none⟩ (.slice (some ⟨g7,0,none⟩) (rs.length + 1) cap7)) := by
  have lo := h.lo
  have gA : Gb (fun _ => False) w W4 := Gb.new g4
  have gB : Gb (fun k => rv.ownBlock = some k) W4 w7 := Gb.of hgr (fun b e => Or.inl e)
  have a3' := ownsRow_gb0 a3 gA (fun _ _ => id)
  have hg7 : base ≤ g7 := (hown.lt g7 rfl).1
  have hw1 := (r1.lt g1 rfl)
  have hw2 := (r2.lt g2 rfl)
  have gC : Gb (fun k => k = c.wb) w7 (w7.setCell ⟨c.wb,0,none⟩ (.slice (some ⟨g7,0,none⟩) (rs.length + 1) cap7)) := (Gb.refl (fun k => k = c.wb) w7).set (b := c.wb) (Or.inl rfl) 0 _
  have nR : ∀ k,k < base → rv.ownBlock ≠ some k := fun k hk e => by have := (a3.lt k e).1; omega
  have low : ∀ {k : Nat} {o : Obj},w.heap[k]? = some o → k < base → k ≠ c.wb → (w7.setCell ⟨c.wb,0,none⟩ (.slice (some ⟨g7,0,none⟩) (rs.length + 1) cap7)).heap[k]? = some o := fun e hk hn => gC.at (gB.at (gA.at e id) (nR _ hk)) hn
  have str : ∀ {v l b},W4.ownsRow b 9 1 v l.length (strV l) → base ≤ b → (∀ q,v.ownBlock = some q → q ∈ g7 :: g1 :: g2 :: K) → StrR base (g7 :: g1 :: g2 :: K) v l (w7.setCell ⟨c.wb,0,none⟩ (.slice (some ⟨g7,0,none⟩) (rs.length + 1) cap7)) := fun q hb hk => by
    have q0 := row_base q hb
    exact ⟨ownsRow_gb0 (ownsRow_gb0 q0 gB (fun k hk e => row_typ q0 a3' (by decide) hk e)) gC (fun k hk e => by have := (q0.lt k hk).1; have := lo.1; omega),hk⟩
  have mem : ∀ {q},q ∈ K → q ∈ g7 :: g1 :: g2 :: K := fun h => List.mem_cons_of_mem _ (List.mem_cons_of_mem _ (List.mem_cons_of_mem _ h))
  have w7b : w7.heap[c.wb]? = some (watB rv) := gB.at (gA.at a1 id) (nR _ lo.1)
  refine ⟨⟨⟨.slice (some ⟨g7,0,none⟩) (rs.length + 1) cap7,rows ++ [(.slice (some ⟨g1,0,none⟩) n cap1,rs.length + 1,.slice (some ⟨g2,0,none⟩) n cap2)],?_,by simp [a2],?_,fun q hq => ?_,fun i row r e1 e2 => ?_⟩,low h.oth lo.2.1 lo.2.2.2.1,low h.stp lo.2.2.1 lo.2.2.2.2,lo,fun k hk => ?_,by simp; omega⟩,?_⟩
  · unfold watB at w7b ⊢
    simp [World.setCell,Array.getElem?_modify,w7b]
  · rw [List.length_append,rdL_app]
    exact ownsRow_gb0 hown gC (fun k hk e => by simp [Value.ownBlock] at hk; have := lo.1; omega)
  · have eq : g7 = q := by simpa [Value.ownBlock] using hq
    rw [← eq]
    exact List.mem_cons_self ..
  · rcases Nat.lt_or_ge i rs.length with hi | hi
    · rw [List.getElem?_append_left hi] at e2
      rw [List.getElem?_append_left (by rw [a2]; exact hi)] at e1
      obtain ⟨p1,p2,p3⟩ := a5 i row r e1 e2
      exact ⟨p1,str (ownsRow_gb0 p2.1 gA (fun _ _ => id)) (Nat.le_refl _) (fun q hq => mem (p2.2 q hq)),str (ownsRow_gb0 p3.1 gA (fun _ _ => id)) (Nat.le_refl _) (fun q hq => mem (p3.2 q hq))⟩
    · rw [List.getElem?_append_right hi] at e2
      rw [List.getElem?_append_right (by rw [a2]; exact hi),a2] at e1
      match hj : i - rs.length with
      | 0 =>
        rw [hj] at e1 e2
        cases e1; cases e2
        refine ⟨by show rs.length + 1 = i + 1; omega,str (b := w.heap.size) (by rw [l1]; exact r1) hbw (fun q hq => ?_),str (b := w.heap.size) (by rw [l2]; exact r2) hbw (fun q hq => ?_)⟩
        · have eq : g1 = q := by simpa [Value.ownBlock] using hq
          rw [← eq]
          exact List.mem_cons_of_mem _ (List.mem_cons_self ..)
        · have eq : g2 = q := by simpa [Value.ownBlock] using hq
          rw [← eq]
          exact List.mem_cons_of_mem _ (List.mem_cons_of_mem _ (List.mem_cons_self ..))
      | k + 1 => rw [hj] at e1; simp at e1
  · have sz : W4.heap.size ≤ (w7.setCell ⟨c.wb,0,none⟩ (.slice (some ⟨g7,0,none⟩) (rs.length + 1) cap7)).heap.size := Nat.le_trans gB.size gC.size
    have s4 := g4.size
    rcases List.mem_cons.1 hk with rfl | hk
    · exact ⟨hg7,Nat.lt_of_lt_of_le (hown.lt _ rfl).2 gC.size⟩
    · rcases List.mem_cons.1 hk with rfl | hk
      · exact ⟨by omega,by omega⟩
      · rcases List.mem_cons.1 hk with rfl | hk
        · exact ⟨by omega,by omega⟩
        · have := h.kp k hk
          exact ⟨this.1,by omega⟩
  · exact ((gA.mono fun _ e => e.elim).tr (gB.mono fun k e => Or.inr (a4 k e))).tr (gC.mono fun k e => Or.inl e)
theorem wat_c {w : World} {b : Nat} {rv : Value} (h : w.heap[b]? = some (watB rv)) : w.cell? ⟨b,0,none⟩ = some rv ∧ w.frozen? ⟨b,0,none⟩ = false := by
  unfold watB at h
  simp [World.cell?,World.frozen?,h]
def SpR (w : World) (b n : Nat) : Prop := ∃ cur,w.heap[b]? = some (.cells cur 9 (0,0)) ∧ n ≤ cur.size
theorem SpR.set {w : World} {b n : Nat} (h : SpR w b n) (k : Nat) (v : Value) : SpR (w.setCell ⟨b,k,none⟩ v) b n := by
  obtain ⟨cur,h1,h2⟩ := h
  exact ⟨cur.setIfInBounds k v,by simp [World.setCell,Array.getElem?_modify,h1],by simpa using h2⟩
theorem SpR.at {w : World} {b n : Nat} (h : SpR w b n) {k : Nat} (hk : k < n) : ∃ u,w.cell? ⟨b,k,none⟩ = some u ∧ w.frozen? ⟨b,k,none⟩ = false ∧ b < w.heap.size := by
  obtain ⟨cur,h1,h2⟩ := h
  exact ⟨cur[k]'(by omega),by simp [World.cell?,h1,Array.getElem?_eq_getElem (show k < cur.size by omega)],by simp [World.frozen?,h1],lt_of_block h1⟩
theorem SpR.gb {w w' : World} {b n : Nat} {R : Nat → Prop} (h : SpR w b n) (g : Gb R w w') (hn : ¬ R b) : SpR w' b n := by
  obtain ⟨cur,h1,h2⟩ := h
  exact ⟨cur,g.at h1 hn,h2⟩
theorem SpR.of {w : World} {base b n cap : Nat} {xs : List Value} (h : w.ownsRow base 9 1 (.slice (some ⟨b,0,none⟩) n cap) n xs) : SpR w b n := by
  rcases h.2 with ⟨h2,_⟩ | ⟨g',cap',cur,e1,h3,h4,h5,h6,h7,h8⟩
  · cases h2
  · have eg : b = g' := by injection e1 with q; injection q with q; injection q
    subst eg
    have ec : cap = cap' := by injection e1
    exact ⟨cur,h4,by omega⟩
def WEP (c : WCt) (stop : Int) (base : Nat) (K : List Nat) (rs : List (List (List UInt8) × List (List UInt8))) (w : World) (e : Ending) (w' : World) : Prop :=
  ∃ K',e = .returned (.bool (decide ((rs.length : Int) ≠ stop))) ∧ WS c stop base K' rs w' ∧ (∀ k,k ∈ K' → k ∈ K ∨ w.heap.size ≤ k) ∧ (∀ k,k ∈ K → k ∈ K')
theorem watch_one {c : WCt} {stop : Int} {base : Nat} {K : List Nat} {rs : List (List (List UInt8) × List (List UInt8))} {ns us : List (List UInt8)} {b1 b2 n cap1 cap2 base2 : Nat} {w : World} (h : WS c stop base K rs w) (hbs : base ≤ base2) (hK2 : ∀ k,k ∈ K → k < base2) (h0 : 0 < n) (hn : n ≤ 1000) (l1 : ns.length = n) (l2 : us.length = n) (hrs : rs.length < 1000)
    (r1 : w.ownsRow base2 9 1 (.slice (some ⟨b1,0,none⟩) n cap1) n (strV ns)) (r2 : w.ownsRow base2 9 1 (.slice (some ⟨b2,0,none⟩) n cap2) n (strV us)) (hne : b1 ≠ b2) :
    Calls Tryz.prog 28 #[.slice (some ⟨b1,0,none⟩) n cap1,.int .i64 ((rs.length + 1 : Nat) : Int),.slice (some ⟨b2,0,none⟩) n cap2,.pointer (some ⟨c.wb,0,none⟩),.pointer (some ⟨c.ob,0,none⟩),.pointer (some ⟨c.mq,0,none⟩),.pointer (some ⟨c.fq,0,none⟩),.pointer (some ⟨c.sb,0,none⟩)] w fun e w' =>
      WEP c stop base K (rs ++ [(ns,us)]) w e w' ∧ Gb (fun k => k = c.wb ∨ k ∈ K ∨ k = b1 ∨ k = b2) w w' := by
  obtain ⟨k0,hk0,hy0,hy1,hy2⟩ := info_parts info_round
  have Q := hid (And.intro h (And.intro hbs (And.intro hK2 (And.intro r1 r2))))
  obtain ⟨rv,rows,a1,a2,a3,a4,a5⟩ := h.blk
  obtain ⟨ao,cap0,rfl⟩ : ∃ ao cap,rv = .slice ao rs.length cap := by
    rcases a3.2 with ⟨rfl,q⟩ | ⟨g,cap,cur,e,_⟩
    · exact ⟨none,0,by rw [q]⟩
    · exact ⟨_,cap,e⟩
  have hbw : base ≤ w.heap.size := Nat.le_trans (Nat.le_trans hbs (r1.lt b1 rfl).1) (Nat.le_of_lt (r1.lt b1 rfl).2)
  have hlb : c.wb < w.heap.size := lt_of_block a1
  have g0 : w.grownBy w.drew none := grown_drew ⟨rfl,rfl,rfl,Nat.le_refl _,fun _ _ _ => rfl⟩
  have C1 := hid (clone_s (w := w.drew) hn h0 (fun u hu => by unfold strV at hu; obtain ⟨x,_,rfl⟩ := List.mem_map.1 hu; rfl) (ownsRow_gb0 r1 (Gb.new (R := fun _ => False) g0) (fun _ _ => id)))
  have hone2 : ∀ u,u ∈ strV us → u.oneCell' = true := fun u hu => by unfold strV at hu; obtain ⟨x,_,rfl⟩ := List.mem_map.1 hu; rfl
  have c0 : w.cell? ⟨c.wb,0,none⟩ = some (.slice ao rs.length cap0) := by unfold watB at a1; simp [World.cell?,a1]
  have S2 := hid (show w.drew.cell? ⟨c.wb,0,none⟩ = some (.slice ao rs.length cap0) ∧ c.wb < w.drew.heap.size from ⟨c0,hlb⟩)
  have A := hid (And.intro a1 (And.intro a2 (And.intro a3 (And.intro a4 (And.intro a5 (And.intro hbw hone2))))))
  have G0 := hid g0
  have hrw : ((rs.length + 1 : Nat) : Int) = (rs.length : Int) + 1 := by omega
  clear h hbs hK2 r1 r2 a1 a2 a3 a4 a5 hbw hone2 g0
  go_enter Tryz.func28,Tryz.ntmps28
  go_wp2_with fail
  go_region_law (first
    | (refine step_append_lies _ (by rfl) _ _ _ (by rfl) base 39 k0 _ 3 56 Tryz.underlying33 hk0 hy0 hy1 hy2 rfl (by decide) _ _ _ (by rfl) row3 ⟨w3.heap.size,0,none⟩ 1 1 [Value.slice (some ⟨g1,0,none⟩) n cp1,.int .i64 ((rs.length + 1 : Nat) : Int),.slice (some ⟨g2,0,none⟩) n cp2] (by rfl) rfl hnews hone (by decide) (by unfold maxLen; omega) (by omega) hbs4 (w3.heap.size + 1) (by simp) ?_; intro g7 cap7 w7 hown7 hgrow7 hat7 _; have b7 := (Gb.of (R := fun q => (Value.slice ao rs.length cap0).ownBlock = some q) hgrow7 (fun b e => Or.inl e)).at ((Gb.new (R := fun _ => False) R2.out.2.2.1).at A.out.1 id) (fun e => by have := (A.out.2.2.1.lt _ e).1; have := Q.out.1.lo.1; omega); obtain ⟨c7,fz7⟩ := wat_c b7; have S7 := hid c7; have lt7 := lt_of_block b7; have F7 := hid (And.intro hown7 (And.intro hgrow7 hat7)); clear hown7 hgrow7 hat7 b7)
    | (go_simp; go_at_call 29; refine C1.out.mono ?_; rintro e w2 ⟨g1,cp1,rfl,row1,gr1⟩; have S5 := hid (And.intro ((Gb.new (R := fun _ => False) gr1).cell S2.out.1 S2.out.2 id) (Nat.lt_of_lt_of_le S2.out.2 gr1.size)); have C2 := hid (clone_s (w := w2) hn h0 A.out.2.2.2.2.2.2 (ownsRow_gb0 Q.out.2.2.2.2 (Gb.new (R := fun _ => False) (G0.out.trans gr1)) (fun _ _ => id))); have R1 := hid (And.intro row1 (G0.out.trans gr1)); have c5 := S5.out.1; have l5 := S5.out.2; clear row1 gr1 C1)
    | (go_simp; go_at_call 29; refine C2.out.mono ?_; rintro e w3 ⟨g2,cp2,rfl,row2,gr2⟩; have gS : w3.grownBy (w3.alloc (.cells #[.slice (some ⟨g1,0,none⟩) n cp1,.int .i64 ((rs.length + 1 : Nat) : Int),.slice (some ⟨g2,0,none⟩) n cp2] 39)) none := World.grownBy_alloc _ _ _; have S5b := hid (And.intro ((Gb.new (R := fun _ => False) gr2).cell S5.out.1 S5.out.2 id) (Nat.lt_of_lt_of_le S5.out.2 gr2.size)); have S6 := hid (And.intro ((Gb.new (R := fun _ => False) (gr2.trans gS)).cell S5.out.1 S5.out.2 id) (Nat.lt_of_lt_of_le S5.out.2 (gr2.trans gS).size)); have row3 := ownsRow_gb0 A.out.2.2.1 (Gb.new (R := fun _ => False) (R1.out.2.trans (gr2.trans gS))) (fun _ _ => id); have hbs4 := Nat.le_trans A.out.2.2.2.2.2.1 (R1.out.2.trans (gr2.trans gS)).size; have hnews : ∀ i v,[Value.slice (some ⟨g1,0,none⟩) n cp1,.int .i64 ((rs.length + 1 : Nat) : Int),.slice (some ⟨g2,0,none⟩) n cp2][i]? = some v → (w3.alloc (.cells #[.slice (some ⟨g1,0,none⟩) n cp1,.int .i64 ((rs.length + 1 : Nat) : Int),.slice (some ⟨g2,0,none⟩) n cp2] 39)).cell? ((⟨w3.heap.size,0,none⟩ : Addr).add i) = some v := World.news_of_block (heap_alloc_new w3 _); have hone : ∀ v,v ∈ [Value.slice (some ⟨g1,0,none⟩) n cp1,.int .i64 ((rs.length + 1 : Nat) : Int),.slice (some ⟨g2,0,none⟩) n cp2] → v.oneCell' = true := (fun v hv => by simp at hv; rcases hv with rfl | rfl | rfl <;> rfl); have R2 := hid (And.intro (ownsRow_gb0 R1.out.1 (Gb.new (R := fun _ => False) (gr2.trans gS)) (fun _ _ => id)) (And.intro (ownsRow_gb0 row2 (Gb.new (R := fun _ => False) gS) (fun _ _ => id)) (And.intro (R1.out.2.trans (gr2.trans gS)) (And.intro R1.out.2.size gr2.size)))); have c6 := S5b.out.1; have l6 := S5b.out.2; clear row2 gr2 gS C2))
  all_goals
    obtain ⟨ws,gw⟩ := WS.push (n := n) Q.out.1 A.out.1 A.out.2.1 A.out.2.2.1 A.out.2.2.2.1 A.out.2.2.2.2.1 hrs A.out.2.2.2.2.2.1 l1 l2 R2.out.2.2.1 R2.out.1 (row_base R2.out.2.1 R2.out.2.2.2.1) F7.out.1 F7.out.2.1 (F7.out.2.2.imp id fun e => by rw [e]; simp)
    have hb1 := Q.out.2.2.2.1.lt b1 rfl
    have hb2 := Q.out.2.2.2.2.lt b2 rfl
    have nK : ∀ b,base2 ≤ b → ¬ (b = c.wb ∨ b ∈ K) := fun b hb e => by
      rcases e with e | e
      · have := Q.out.1.lo.1; have := Q.out.2.1; omega
      · have := Q.out.2.2.1 b e; omega
    have p1 := (SpR.of Q.out.2.2.2.1).gb gw (nK b1 hb1.1)
    have p2 := (SpR.of Q.out.2.2.2.2).gb gw (nK b2 hb2.1)
    have K7 : ∀ k,k ∈ g7 :: g1 :: g2 :: K → k ∈ K ∨ w.heap.size ≤ k := fun k hk => by
      rcases List.mem_cons.1 hk with rfl | hk
      · rcases F7.out.2.2 with e | e
        · exact Or.inl (A.out.2.2.2.1 _ e)
        · have := R2.out.2.2.2.1; have := R2.out.2.2.2.2; exact Or.inr (by omega)
      · rcases List.mem_cons.1 hk with rfl | hk
        · exact Or.inr (R2.out.1.lt _ rfl).1
        · rcases List.mem_cons.1 hk with rfl | hk
          · have h9 : w2.heap.size ≤ k := (R2.out.2.1.lt k rfl).1; have := R2.out.2.2.2.1; exact Or.inr (by omega)
          · exact Or.inl hk
    have K8 := hid (And.intro K7 (fun k (hk : k ∈ K) => (List.mem_cons_of_mem g7 (List.mem_cons_of_mem g1 (List.mem_cons_of_mem g2 hk)))))
    obtain ⟨KK,hKK⟩ : ∃ KK,KK = g7 :: g1 :: g2 :: K := ⟨_,rfl⟩
    rw [← hKK] at ws K8
    have B1 := hid (And.intro hb1 (And.intro hb2 nK))
    have o8 : (w7.setCell ⟨c.wb,0,none⟩ (.slice (some ⟨g7,0,none⟩) (rs.length + 1) cap7)).cell? ⟨c.ob,0,none⟩ = some (.string (B [])) := by simp [World.cell?,ws.oth]
    have o9 := lt_of_block ws.oth
    have tB : (B []).toList = [] := toList_B []
    have P8 := hid (And.intro ws (And.intro gw (And.intro p1 p2)))
    clear ws gw p1 p2 hb1 hb2 nK K7 hKK S2 S5 S5b S6 S7 R1 R2 F7 row3 hbs4 hnews hone c0 c5 c6 l5 l6 c7 fz7 lt7 G0
    generalize hW8 : (w7.setCell ⟨c.wb,0,none⟩ (.slice (some ⟨g7,0,none⟩) (rs.length + 1) cap7)) = W8 at *
    clear hW8
    go_wp2_with fail
    go_loopg [51] (n + 1) (fun gh i wi => ∃ (k : Nat),k ≤ n ∧ i = .int .i64 k ∧ gh = n - k + 1 ∧ Hid (SpR wi b1 n ∧ Gb (fun q => q = b1) W8 wi))
    case atStart => exact ⟨0,by omega,rfl,by omega,hid ⟨P8.out.2.2.1,Gb.refl _ _⟩⟩
    case round =>
      obtain ⟨k,hk,rfl,hgk,HK⟩ := hrel
      by_cases hkn : k < n
      · obtain ⟨u,cu,fu,lu⟩ := HK.out.1.at hkn
        have hkl : (k : Int) < n := by omega
        go_wp2_with fail
        go_roundg (n - (k + 1) + 1)
        case measure => omega
        case rel => exact ⟨k + 1,by omega,by go_num,rfl,hid ⟨HK.out.1.set k _,HK.out.2.set (Or.inl rfl) k _⟩⟩
      · obtain ⟨W9,hW9⟩ : ∃ W9,W9 = wr := ⟨_,rfl⟩
        subst hW9
        have P9 := hid (P8.out.2.2.2.gb HK.out.2 (fun e => hne e.symm))
        have hkn' : ¬ (k : Int) < n := by omega
        clear o8 o9
        go_wp2_with fail
        go_loopg [60] (n + 1) (fun gh i wi => ∃ (k : Nat),k ≤ n ∧ i = .int .i64 k ∧ gh = n - k + 1 ∧ Hid (SpR wi b2 n ∧ Gb (fun q => q = b2) W9 wi))
        case atStart => exact ⟨0,by omega,rfl,by omega,hid ⟨P9.out,Gb.refl _ _⟩⟩
        case round =>
          obtain ⟨k2,hk2,rfl,hgk2,HK2⟩ := hrel
          by_cases hkn2 : k2 < n
          · obtain ⟨u,cu,fu,lu⟩ := HK2.out.1.at hkn2
            have hkl : (k2 : Int) < n := by omega
            go_wp2_with fail
            go_roundg (n - (k2 + 1) + 1)
            case measure => omega
            case rel => exact ⟨k2 + 1,by omega,by go_num,rfl,hid ⟨HK2.out.1.set k2 _,HK2.out.2.set (Or.inl rfl) k2 _⟩⟩
          · have hkn2' : ¬ (k2 : Int) < n := by omega
            have nb : ∀ b,base2 ≤ b → b < w.heap.size → base ≤ b ∧ b ∉ KK := fun b hb hb2 => by
              refine ⟨Nat.le_trans Q.out.2.1 hb,fun e => ?_⟩
              rcases K8.out.1 b e with h | h
              · exact B1.out.2.2 b hb (Or.inr h)
              · omega
            have ws9 := (P8.out.1.same HK.out.2 (fun q e => by rw [e]; exact nb b1 B1.out.1.1 B1.out.1.2)).same HK2.out.2 (fun q e => by rw [e]; exact nb b2 B1.out.2.1.1 B1.out.2.1.2)
            obtain ⟨rv9,rows9,x1,x2,x3,x4,x5⟩ := ws9.blk
            obtain ⟨ao9,cap9,rfl⟩ : ∃ ao cap,rv9 = .slice ao (rs.length + 1) cap := by
              rw [List.length_append] at x3
              rcases x3.2 with ⟨rfl,q⟩ | ⟨g,cap,cur,e,_⟩
              · simp at q
              · exact ⟨_,cap,e⟩
            obtain ⟨y1,y2⟩ := wat_c x1
            have y3 := lt_of_block x1
            have y4 : wr.cell? ⟨c.sb,0,none⟩ = some (.int .i64 stop) := by simp [World.cell?,ws9.stp]
            have y5 := lt_of_block ws9.stp
            have F9 := hid (And.intro ws9 ((P8.out.2.1.mono (R' := fun k => k = c.wb ∨ k ∈ K ∨ k = b1 ∨ k = b2) (fun q e => e.elim Or.inl (fun e => Or.inr (Or.inl e)))).tr ((HK.out.2.mono fun q e => Or.inr (Or.inr (Or.inl e))).tr (HK2.out.2.mono fun q e => Or.inr (Or.inr (Or.inr e))))))
            clear ws9 x1 x2 x3 x4 x5 HK HK2 P8 P9 nb
            by_cases hst : (rs.length : Int) + 1 = stop
            · go_wp2
              go_ret
              exact ⟨⟨KK,by simp [hst],F9.out.1,K8.out.1,K8.out.2⟩,F9.out.2⟩
            · go_wp2
              go_ret
              exact ⟨⟨KK,by simp [hst],F9.out.1,K8.out.1,K8.out.2⟩,F9.out.2⟩
theorem info_scheme : (Tryz.prog.info? 109).map (fun i => (i.zero,i.size,i.bytes)) = some (some (.agg #[.nilIface]),1,16) := by kernel_rfl
theorem GLb.at {z : Nat} {ad : Nat → Addr} {w w' : World} {R : Nat → Prop} (h : GLb z ad w) (g : Gb R w w') (hR : ∀ k,R k → z ≤ k) : GLb z ad w' := by
  have l := h.lo
  have l2 := h.le
  have hl : ∀ b,b < 8 + 1 → b < w.heap.size ∧ ¬ R b := fun b hb => ⟨by omega,fun e => by have := hR b e; omega⟩
  exact ⟨g.cell h.g3 (hl _ (by decide)).1 (hl _ (by decide)).2,g.cell h.g4 (hl _ (by decide)).1 (hl _ (by decide)).2,g.cell h.g5 (hl _ (by decide)).1 (hl _ (by decide)).2,g.cell h.g6 (hl _ (by decide)).1 (hl _ (by decide)).2,l,Nat.le_trans l2 g.size,tab_same h.tab (g.block _ (Nat.lt_of_lt_of_le h.lo2 l2) (fun e => absurd (hR _ e) (Nat.not_le.2 h.lo2))),h.lo2⟩
theorem GLb.re {z b : Nat} {ad : Nat → Addr} {w : World} (h : GLb z ad w) (hz : z ≤ b) (hb : b ≤ w.heap.size) : GLb b ad w := ⟨h.g3,h.g4,h.g5,h.g6,Nat.le_trans h.lo hz,hb,h.tab,Nat.lt_of_lt_of_le h.lo2 hz⟩
theorem eql_func (w : World) (f : Fn) (a b : Array Value) : (binOp .eql 73 (.func f a b) .nilFunc).run Tryz.prog w = .ok (.bool false) w := by kernel_rfl
def TLo (w : World) (nk : List NE) (j : Nat) (nv sv : Value) (wi : World) : Prop :=
  wi.ownsRow w.heap.size 9 1 nv j (strV ((nk.take j).map (·.1))) ∧ wi.ownsRow w.heap.size 109 1 sv j ((nk.take j).map NE.v) ∧ w.grownBy wi none
def TEP (C : TC) (ad : Nat → Addr) (c : WCt) (stop : Int) (rs : List (List (List UInt8) × List (List UInt8))) (w : World) (e : Ending) (w' : World) : Prop :=
  (∃ K',WS c stop C.base K' rs w' ∧ (∀ k,k ∈ K' → k ∈ C.keep ∨ w.heap.size ≤ k) ∧ (∀ k,k ∈ C.keep → k ∈ K')) ∧ Gb (fun k => k = c.wb ∨ k ∈ C.keep) w w' ∧ (((rs.length : Int) = stop ∧ e = fltE (ad 6)) ∨ ((rs.length : Int) ≠ stop ∧ ∃ z,e = .returned z))
theorem tell_w {C : TC} {ad : Nat → Addr} {c : WCt} {stop : Int} {rs : List (List (List UInt8) × List (List UInt8))} {H : Nat → Option Obj} {ca : List Nat} {σ : Sto} {d : Nat → Nat} {nb : List (List UInt8 × Et)} {nv : Value} {vs nk : List NE} {w : World} {g cap n z : Nat} {next : List (List UInt8 × Et)} {us : List (List UInt8)}
    (he : C.each = c.f) (hws : WS c stop C.base C.keep rs w) (h : TSv C H ca σ d nb nv vs w) (hA : AHd H ca g nk next) (ln : nk.length = n) (h0 : 0 < n) (hn : n ≤ 1000) (hrs : rs.length < 1000) (hnc : ∀ (i : Nat) (p : NE) q,nk[i]? = some p → next[i]? = some q → ER H [] p.v q.2) (htx : txS (next.map (·.2)) [] = some us) (hnm : ∀ p,p ∈ next → p.1.length ≤ 300) (gl : GLb z ad w) (hz : z ≤ c.wb) (hzb : z ≤ C.base) :
    Calls Tryz.prog 187 #[CP C.tb,.slice (some ⟨g,0,none⟩) n cap,.int .i64 ((rs.length + 1 : Nat) : Int)] w (TEP C ad c stop (rs ++ [(next.map (·.1),us)]) w) := by
  have hrow := hA.rowN (cap := cap) h.ms.cs
  rw [ln] at hrow
  obtain ⟨g9,cap9,e9,lg,_,hcell⟩ := hrow
  obtain rfl : g = g9 := by injection e9 with q; injection q with q; injection q
  clear e9 cap9
  have c2 : w.cell? ⟨C.tb,2,none⟩ = some c.f := by have := h.ms.bk; unfold TB TC.r at this; rw [he] at this; simp [World.cell?,this]
  have hl := h.ms.bk.lt
  have Q := hid (And.intro hws (And.intro h (And.intro hA (And.intro hnc (And.intro htx (And.intro hnm (And.intro gl hcell)))))))
  obtain ⟨i0,hi0,hz0,hz1,hz2⟩ := info_parts info_strT
  obtain ⟨k0,hk0,hy0,hy1,hy2⟩ := info_parts info_scheme
  have T0 := hid (show TLo w nk 0 (.slice none 0 0) (.slice none 0 0) w from ⟨World.ownsRow_nil _ _ _ _,World.ownsRow_nil _ _ _ _,⟨rfl,rfl,rfl,Nat.le_refl _,fun _ _ _ => rfl⟩⟩)
  clear hws h hA hnc htx hnm gl hcell
  have hq := eql_func w
  unfold WCt.f at c2
  unfold CP
  go_enter Tryz.func187,Tryz.ntmps187
  go_wp2_with fail
  go_loopg [6,7,20] (n + 1) (fun gh x y i wi => ∃ (j : Nat),j ≤ n ∧ i = .int .i64 j ∧ gh = n - j + 1 ∧ Hid (TLo w nk j x y wi))
  case atStart => exact ⟨0,by omega,rfl,by omega,T0⟩
  case round =>
    obtain ⟨j,hj,rfl,hgj,HT⟩ := hrel
    by_cases hjn : j < n
    · obtain ⟨p,hp⟩ : ∃ p,nk[j]? = some p := ⟨_,List.getElem?_eq_getElem (by rw [ln]; exact hjn)⟩
      obtain ⟨q1,q2⟩ := Q.out.2.2.2.2.2.2.2 j p hp
      have hsz : (B p.1).size ≤ 281474976710656 := by
        obtain ⟨q,hq⟩ : ∃ q,next[j]? = some q := ⟨_,List.getElem?_eq_getElem (by rw [← Q.out.2.2.1.len,ln]; exact hjn)⟩
        have h1 := (Q.out.2.2.1.is j p q hp hq).1
        have h2 := Q.out.2.2.2.2.2.1 q (List.mem_of_getElem? hq)
        rw [size_B,h1]
        omega
      obtain ⟨nm,T0,b0⟩ := p
      have gF : Gb (fun _ => False) w wr := Gb.new HT.out.2.2
      have d1 : wr.cell? ⟨g,j * 2,none⟩ = some (.string (B nm)) := gF.cell q1 lg id
      have d2 : wr.cell? ⟨g,j * 2 + 1,none⟩ = some (.iface T0 (.pointer (some ⟨b0,0,none⟩))) := gF.cell q2 lg id
      have lgr : g < wr.heap.size := Nat.lt_of_lt_of_le lg gF.size
      have hjl : (j : Int) < n := by omega
      have HP := hid hp
      have hsz2 : (B nm).size ≤ 281474976710656 := hsz
      clear q1 q2 hp gF hsz
      go_wp2_with fail
      refine (clone_q _ _ hsz2).mono ?_
      rintro e w3 ⟨rfl,g3⟩
      have ga : wr.grownBy (wr.alloc (.cells #[.string (B nm),.iface T0 (.pointer (some ⟨b0,0,none⟩))] 338)) none := World.grownBy_alloc _ _ _
      have gS : w3.grownBy (w3.alloc (.cells #[.string (B nm)] 9)) none := World.grownBy_alloc _ _ _
      have gT := (ga.trans g3).trans gS
      have gU := HT.out.2.2.trans gT
      have row2 := ownsRow_gb0 HT.out.1 (Gb.new (R := fun _ => False) gT) (fun _ _ => id)
      have row3 := ownsRow_gb0 HT.out.2.1 (Gb.new (R := fun _ => False) gT) (fun _ _ => id)
      have hbs := gU.size
      have hnews : ∀ i v,[Value.string (B nm)][i]? = some v → (w3.alloc (.cells #[.string (B nm)] 9)).cell? ((⟨w3.heap.size,0,none⟩ : Addr).add i) = some v := World.news_of_block (heap_alloc_new w3 _)
      have hone : ∀ v,v ∈ [Value.string (B nm)] → v.oneCell' = true := fun v hv => by rw [List.mem_singleton.1 hv]; rfl
      have e3 : (w3.alloc (.cells #[.string (B nm)] 9)).heap[wr.heap.size]? = some (.cells #[.string (B nm),.iface T0 (.pointer (some ⟨b0,0,none⟩))] 338 (0,0)) := (Gb.new (R := fun _ => False) (g3.trans gS)).at (heap_alloc_new wr _) id
      have O2 := hid (And.intro row3 (And.intro gU (And.intro e3 (And.intro (fun q hq => (HT.out.1.lt q hq)) (fun q hq => (HT.out.2.1.lt q hq))))))
      have hbs0 : wr.heap.size < (w3.alloc (.cells #[.string (B nm)] 9)).heap.size := lt_of_block e3
      clear gT gU ga gS g3 e3 row3 HT d1 d2
      go_wp2_with (at_builtin; refine wpList_append_lies _ rfl (.tmp 24) (.tmp 28) 26 rfl w.heap.size 9 i0 (.string (B [])) 1 16 Tryz.underlying26 hi0 hz0 hz1 hz2 rfl (by decide) _ _ _ rfl row2 ⟨w3.heap.size,0,none⟩ 1 1 [.string (B nm)] rfl rfl hnews hone (by decide) (by unfold maxLen; omega) (by omega) hbs (w3.heap.size + 1) (by simp) ?_)
      intro g7 cap7 w7 hown7 hgrow7 hat7 _
      have gR : Gb (fun q => u6.ownBlock = some q) (w3.alloc (.cells #[.string (B nm)] 9)) w7 := Gb.of hgrow7 (fun b e => Or.inl e)
      have e7 := gR.at O2.out.2.2.1 (fun e => by have := (O2.out.2.2.2.1 _ e).2; omega)
      have c7 := cell_b0 e7 0 rfl
      have c8 := cell_b0 e7 1 rfl
      have l7 := lt_of_block e7
      have row8 := ownsRow_gb0 O2.out.1 gR (fun k hk e => row_typ O2.out.1 row2 (by decide) hk e)
      have g07 : w.grownBy w7 none := by
        have gU := O2.out.2.1
        exact ⟨hgrow7.os.trans gU.os,hgrow7.tape.trans gU.tape,hgrow7.output.trans gU.output,Nat.le_trans gU.size hgrow7.size,fun q hq _ => by rw [hgrow7.block q (Nat.lt_of_lt_of_le hq gU.size) (fun e => by have := (O2.out.2.2.2.1 q e.symm).1; omega),gU.block q hq (by simp)]⟩
      have gS7 : w7.grownBy (w7.alloc (.cells #[.iface T0 (.pointer (some ⟨b0,0,none⟩))] 109)) none := World.grownBy_alloc _ _ _
      have row9 := ownsRow_gb0 row8 (Gb.new (R := fun _ => False) gS7) (fun _ _ => id)
      have N9 := hid (ownsRow_gb0 hown7 (Gb.new (R := fun _ => False) gS7) (fun _ _ => id))
      have G9 := hid (g07.trans gS7)
      have hbs9 := G9.out.size
      have hnews9 : ∀ i v,[Value.iface T0 (.pointer (some ⟨b0,0,none⟩))][i]? = some v → (w7.alloc (.cells #[.iface T0 (.pointer (some ⟨b0,0,none⟩))] 109)).cell? ((⟨w7.heap.size,0,none⟩ : Addr).add i) = some v := World.news_of_block (heap_alloc_new w7 _)
      have hone9 : ∀ v,v ∈ [Value.iface T0 (.pointer (some ⟨b0,0,none⟩))] → v.oneCell' = true := fun v hv => by rw [List.mem_singleton.1 hv]; rfl
      clear hown7 hgrow7 hat7 gR e7 row8 g07 gS7 row2 hbs hnews hone
      go_wp2_with (at_builtin; refine wpList_append_lies _ rfl (.tmp 30) (.tmp 33) 350 rfl w.heap.size 109 k0 (.agg #[.nilIface]) 1 16 Tryz.underlying350 hk0 hy0 hy1 hy2 rfl (by decide) _ _ _ rfl row9 ⟨w7.heap.size,0,none⟩ 1 1 [.iface T0 (.pointer (some ⟨b0,0,none⟩))] rfl rfl hnews9 hone9 (by decide) (by unfold maxLen; omega) (by omega) hbs9 (w7.heap.size + 1) (by simp) ?_)
      intro g8 cap8 w8 hown8 hgrow8 hat8 _
      have gR : Gb (fun q => u7.ownBlock = some q) (w7.alloc (.cells #[.iface T0 (.pointer (some ⟨b0,0,none⟩))] 109)) w8 := Gb.of hgrow8 (fun b e => Or.inl e)
      have F8 := hid (show TLo w nk (j + 1) (.slice (some ⟨g7,0,none⟩) (j + 1) cap7) (.slice (some ⟨g8,0,none⟩) (j + 1) cap8) w8 from ⟨by
        have q := ownsRow_gb0 N9.out gR (fun k hk e => row_typ N9.out row9 (by decide) hk e)
        unfold strV at q ⊢
        rw [← List.map_take] at q
        rw [List.take_add_one,HP.out,List.map_append,List.map_append]
        exact q,by
        rw [← List.map_take] at hown8
        rw [List.take_add_one,HP.out,List.map_append]
        exact hown8,by
        have gU := G9.out
        exact ⟨hgrow8.os.trans gU.os,hgrow8.tape.trans gU.tape,hgrow8.output.trans gU.output,Nat.le_trans gU.size hgrow8.size,fun q hq _ => by rw [hgrow8.block q (Nat.lt_of_lt_of_le hq gU.size) (fun e => by have := (O2.out.2.2.2.2 q e.symm).1; omega),gU.block q hq (by simp)]⟩⟩)
      clear hown8 hgrow8 hat8 gR row9 N9 G9 hbs9 hnews9 hone9 O2
      go_wp2_with fail
      go_roundg (n - (j + 1) + 1)
      case measure => omega
      case rel => exact ⟨j + 1,by omega,by go_num,rfl,F8⟩
    · have hje : j = n := by omega
      subst hje
      have htk : nk.take j = nk := List.take_of_length_le (by omega)
      have ht := HT.out
      unfold TLo at ht
      rw [htk] at ht
      obtain ⟨rw1,rw2,gr⟩ := ht
      obtain ⟨b1,cap1,rfl⟩ := row_some rw1 h0
      obtain ⟨b2,cap2,rfl⟩ := row_some rw2 h0
      have gF : Gb (fun _ => False) w wr := Gb.new gr
      have hz : Fz H wr := Q.out.2.1.ms.cs.fz.grown gr
      have CT := hid (texts_any (cap := cap2) (vs := nk.map NE.v) (ts := next.map (·.2)) hz h0 hn (by rw [List.length_map,ln]) (by rw [List.length_map,← Q.out.2.2.1.len,ln]) (fun k v e => (row_cellC rw2 e).1) (fun k v t e1 e2 => by
        rw [List.getElem?_map] at e1 e2
        obtain ⟨p,hp,rfl⟩ := Option.map_eq_some_iff.1 e1
        obtain ⟨q,hq,rfl⟩ := Option.map_eq_some_iff.1 e2
        exact Q.out.2.2.2.1 k p q hp hq) Q.out.2.2.2.2.1)
      have R1 := hid (And.intro rw1 gr)
      have hjj : ¬ (j : Int) < j := by omega
      clear rw1 rw2 gr gF hz htk HT T0 c2 hq
      go_wp2_with fail
      refine CT.out.mono ?_
      rintro e w4 ⟨v4,rfl,l4,row4,g4⟩
      obtain ⟨b4,cap4,rfl⟩ := row_some row4 h0
      have gA := R1.out.2.trans g4
      have gF : Gb (fun _ => False) w w4 := Gb.new gA
      have c4 : w4.cell? ⟨C.tb,2,none⟩ = some (.func (.func 28) #[] #[.pointer (some ⟨c.wb,0,none⟩),.pointer (some ⟨c.ob,0,none⟩),.pointer (some ⟨c.mq,0,none⟩),.pointer (some ⟨c.fq,0,none⟩),.pointer (some ⟨c.sb,0,none⟩)]) := by
        refine gF.cell ?_ hl id
        have := Q.out.2.1.ms.bk
        unfold TB TC.r at this
        rw [he] at this
        simp [World.cell?,this,WCt.f]
      have l4b : C.tb < w4.heap.size := Nat.lt_of_lt_of_le hl gA.size
      have ws4 := Q.out.1.same gF (fun k e => e.elim)
      have hb1 := R1.out.1.lt b1 rfl
      have hb4 := row4.lt b4 rfl
      have CW := hid (watch_one (w := w4) (ns := next.map (·.1)) (us := us) (base2 := w.heap.size) (b1 := b1) (b2 := b4) (cap1 := cap1) (cap2 := cap4) ws4 Q.out.2.1.bs (fun k hk => (Q.out.1.kp k hk).2) h0 hn (by rw [List.length_map,← Q.out.2.2.1.len,ln]) l4 hrs (by
        have q := ownsRow_gb0 R1.out.1 (Gb.new (R := fun _ => False) g4) (fun _ _ => id)
        have e : nk.map (·.1) = next.map (·.1) := by
          refine List.ext_getElem? fun i => ?_
          rw [List.getElem?_map,List.getElem?_map]
          cases e1 : nk[i]? with
          | none =>
            have : next[i]? = none := List.getElem?_eq_none (by rw [← Q.out.2.2.1.len]; exact List.getElem?_eq_none_iff.1 e1)
            rw [this]; rfl
          | some p =>
            obtain ⟨q,hq⟩ : ∃ q,next[i]? = some q := ⟨_,List.getElem?_eq_getElem (by rw [← Q.out.2.2.1.len]; exact (List.getElem?_eq_some_iff.1 e1).1)⟩
            rw [hq]
            show some p.1 = some q.1
            rw [(Q.out.2.2.1.is i p q e1 hq).1]
        rw [e] at q
        exact q) (row_base row4 R1.out.2.size) (by have h5 : b1 < wr.heap.size := hb1.2; have h6 : wr.heap.size ≤ b4 := hb4.1; omega))
      have G4 := hid (And.intro gA (And.intro hb1.1 (show w.heap.size ≤ b4 from Nat.le_trans R1.out.2.size hb4.1)))
      clear CT row4 g4 gA gF ws4 hb1 hb4 R1
      rw [show ((rs.length + 1 : Nat) : Int) = (rs.length : Int) + 1 from rfl] at CW
      go_wp2_with fail
      refine CW.out.mono ?_
      rintro e w5 ⟨⟨K',rfl,ws5,k1,k2⟩,g5⟩
      have gG : Gb (fun k => k = c.wb ∨ k ∈ C.keep) w w5 := (Gb.new (R := fun k => k = c.wb ∨ k ∈ C.keep) G4.out.1).trans g5 (fun i e => by
        rcases e with e | e | e | e
        · exact Or.inl (Or.inl e)
        · exact Or.inl (Or.inr e)
        · exact Or.inr (by rw [e]; exact G4.out.2.1)
        · exact Or.inr (by rw [e]; exact G4.out.2.2))
      have hg6 := (Q.out.2.2.2.2.2.2.1.at gG (fun k e => by
        rcases e with e | e
        · rw [e]; exact hz
        · exact Nat.le_trans hzb (Q.out.1.kp k e).1)).g6
      have F5 := hid (show (∃ K',WS c stop C.base K' (rs ++ [(next.map (·.1),us)]) w5 ∧ (∀ k,k ∈ K' → k ∈ C.keep ∨ w.heap.size ≤ k) ∧ (∀ k,k ∈ C.keep → k ∈ K')) ∧ Gb (fun k => k = c.wb ∨ k ∈ C.keep) w w5 from ⟨⟨K',ws5,fun k hk => (k1 k hk).imp id (fun h => Nat.le_trans G4.out.1.size h),k2⟩,gG⟩)
      clear ws5 k1 k2 g5 gG G4 CW c4
      unfold errV at hg6
      by_cases hst : (((rs ++ [(next.map (·.1),us)]).length : Nat) : Int) = stop
      · have hd : decide ((((rs ++ [(next.map (·.1),us)]).length : Nat) : Int) ≠ stop) = false := decide_eq_false (fun h => h hst)
        rw [hd]
        go_wp2
        exact ⟨rfl,F5.out.1,F5.out.2,Or.inl ⟨hst,by unfold fltE errV; rfl⟩⟩
      · have hd : decide ((((rs ++ [(next.map (·.1),us)]).length : Nat) : Int) ≠ stop) = true := decide_eq_true hst
        rw [hd]
        go_wp2
        refine bodyPost_ret (results_none rfl _ _ _) rfl ?_
        exact ⟨F5.out.1,F5.out.2,Or.inr ⟨hst,_,rfl⟩⟩
def textsE (next : List (List UInt8 × Et)) : Option (List (List UInt8)) := if (next.all fun p => decide (p.1.length ≤ 300) && ncB 60 p.2) = true then txS (next.map (·.2)) [] else none
def groupW (P : Ex → List (List UInt8 × Et) → Sto → Option (Sum Nat (Sto × Nat))) (ns : List (List UInt8)) (es : List Ex) (nb : List (List UInt8 × Et)) (stop : Nat) : Nat → Nat → List (List UInt8 × Et) → Sto → Option (List (List (List UInt8) × List (List UInt8)) × Sum Nat (Sto × List (List UInt8 × Et)))
  | 0,_,_,_ => some ([],.inl 5)
  | k + 1,t,ahead,σ => match roundE P ns es nb ahead σ with
    | none => none
    | some (.inl q) => some ([],.inl q)
    | some (.inr x) => match textsE x.2 with
      | none => none
      | some us => if t + 1 = stop then some ([(x.2.map (·.1),us)],.inl 6) else match sameG x.1 ahead x.2 with
        | none => none
        | some true => some ([(x.2.map (·.1),us)],.inr x)
        | some false => match groupW P ns es nb stop k (t + 1) x.2 x.1 with
          | none => none
          | some y => some ((x.2.map (·.1),us) :: y.1,y.2)
def TC.kept (C : TC) (K : List Nat) : TC := { C with keep := K }
theorem TSv.told {C : TC} {c : WCt} {stop : Int} {rs : List (List (List UInt8) × List (List UInt8))} {K' : List Nat} {H : Nat → Option Obj} {ca : List Nat} {σ : Sto} {d : Nat → Nat} {nb : List (List UInt8 × Et)} {nv : Value} {vs : List NE} {w w' : World} (h : TSv C H ca σ d nb nv vs w) (g : Gb (fun k => k = c.wb ∨ k ∈ C.keep) w w') (hw : c.wb < C.base) (hm : C.mb ≠ c.wb) (hkb : ∀ k,k ∈ C.keep → C.base ≤ k) (hH : H c.wb = none ∧ ∀ k,k ∈ C.keep → H k = none) (hK : ∀ k,k ∈ K' → k ∈ C.keep ∨ w.heap.size ≤ k) (ws : WS c stop C.base K' rs w') : TSv (C.kept K') H ca σ d nb nv vs w' := by
  have no : ∀ k,C.base ≤ k → k ∉ C.keep → ¬ (k = c.wb ∨ k ∈ C.keep) := fun k h1 h2 e => by
    rcases e with e | e
    · omega
    · exact h2 e
  have ok : ∀ {k},k ∉ C.keep → k < w.heap.size → k ∉ K' := fun h1 h2 h3 => by
    rcases hK _ h3 with e | e
    · exact h1 e
    · omega
  refine ⟨⟨h.ms.cs.gb g (fun a ha => no a (h.clo a ha).1 (h.clo a ha).2) (fun k o e e2 => ?_),h.ms.bk.gb g (no _ h.tlo.1 h.tlo.2),h.ms.ht,h.ms.hta⟩,h.nr.step (MX.refl _ _ _) g (fun k hk => no k (h.nr.own.lt k hk).1 (h.nko k hk)),h.env.step (MX.refl _ _ _) g (fun e => ?_),h.mlo,⟨h.tlo.1,ok h.tlo.2 h.ms.bk.lt⟩,fun a ha => ⟨(h.clo a ha).1,ok (h.clo a ha).2 (InAs.lt h.ms.cs ha)⟩,fun k hk => (ws.kp k hk).2,fun k hk => ok (h.nko k hk) (h.nr.own.lt k hk).2⟩
  · rcases e2 with e2 | e2
    · rw [e2,hH.1] at e; cases e
    · rw [hH.2 k e2] at e; cases e
  · have := h.mlo
    rcases e with e | e
    · exact hm e
    · have := hkb _ e; omega
def GRW (C : TC) (ad : Nat → Addr) (c : WCt) (stop : Int) (H : Nat → Option Obj) (ca : List Nat) (nb : List (List UInt8 × Et)) (n : Nat) (L : List (List (List UInt8) × List (List UInt8))) (r : Sum Nat (Sto × List (List UInt8 × Et))) (w : World) (e : Ending) (w' : World) : Prop :=
  ∃ K',WS c stop C.base K' L w' ∧ Gb (fun k => C.base ≤ k ∨ k = c.wb) w w' ∧ match r with
  | .inl q => e = fltE (ad q)
  | .inr x => ∃ (H' : Nat → Option Obj) (ca' : List Nat) (d' : Nat → Nat) (nv' : Value) (vs' nk : List NE) (g cap : Nat),e = .returned (.slice (some ⟨g,0,none⟩) n cap) ∧ TSv (C.kept K') H' ca' x.1 d' nb nv' vs' w' ∧ MX H H' ca ca' w ∧ AHd H' ca' g nk x.2 ∧ nk.length = n
def BRw (C : TC) (c : WCt) (stop : Int) (H : Nat → Option Obj) (ca : List Nat) (nb : List (List UInt8 × Et)) (n : Nat) (σ : Sto) (ahead : List (List UInt8 × Et)) (rs : List (List (List UInt8) × List (List UInt8))) (w0 : World) (v : Value) (w : World) : Prop :=
  ∃ (K : List Nat) (H' : Nat → Option Obj) (ca' : List Nat) (d' : Nat → Nat) (nv' : Value) (vs' nk : List NE) (g cap : Nat),v = .slice (some ⟨g,0,none⟩) n cap ∧ TSv (C.kept K) H' ca' σ d' nb nv' vs' w ∧ MX H H' ca ca' w0 ∧ Gb (fun k => C.base ≤ k ∨ k = c.wb) w0 w ∧ AHd H' ca' g nk ahead ∧ nk.length = n ∧ WS c stop C.base K rs w ∧ H' c.wb = none ∧ ∀ k,k ∈ K → H' k = none
theorem group_w {C : TC} {c : WCt} {stop z : Nat} {L : List (List (List UInt8) × List (List UInt8))} {ad : Nat → Addr} {P : Ex → List (List UInt8 × Et) → Sto → Option (Sum Nat (Sto × Nat))} (hP : ∀ K,PAE { C with keep := K } ad P) {H : Nat → Option Obj} {ca : List Nat} {σ : Sto} {d : Nat → Nat} {nb : List (List UInt8 × Et)} {nv : Value} {vs : List NE} {w : World} {ns : List (List UInt8)} {us : List Value} {es : List Ex} {m gB capB most : Nat} {r : Sum Nat (Sto × List (List UInt8 × Et))}
    (hB : GRd H gB ns us es m) (h0 : 0 < ns.length) (hn : ns.length ≤ 1000) (hm : C.most = .int .i64 (most : Int)) (hm9 : most ≤ 1000) (he : C.each = c.f) (hr : groupW P ns es nb stop most 0 (ns.map fun n => (n,vT [97])) σ = some (L,r)) (hws : WS c (stop : Int) C.base C.keep [] w) (hH : H c.wb = none ∧ ∀ k,k ∈ C.keep → H k = none) (hmw : C.mb ≠ c.wb) (hz : z ≤ c.wb) (hzb : z ≤ C.base) (h : TSv C H ca σ d nb nv vs w) (hgl : GLb z ad w) :
    Calls Tryz.prog 158 #[CP C.tb,.slice (some ⟨gB,0,none⟩) ns.length capB] w (GRW C ad c stop H ca nb ns.length L r w) := by
  have Q := hid (And.intro hB (And.intro hm (And.intro he (And.intro hgl (And.intro hP h)))))
  have HR := hid (show ∃ l,groupW P ns es nb stop (most - 0) 0 (ns.map fun n => (n,vT [97])) σ = some (l,r) ∧ L = [] ++ l from ⟨L,hr,rfl⟩)
  have W0 := hid (And.intro hws hH)
  have hwl : c.wb < w.heap.size := by obtain ⟨_,_,q,_⟩ := hws.blk; exact lt_of_block q
  obtain ⟨j0,hj0,hy0,hy1,hy2⟩ := info_parts info_named
  obtain ⟨nn,hnn⟩ : ∃ nn,nn = ns.length := ⟨_,rfl⟩
  have NN := hid hnn
  rw [← hnn] at h0 hn ⊢
  have N0 := hid (show NSt C H ca σ nb nv vs w ns 0 (.slice none 0 0) w from ⟨H,d,[],h,MX.refl _ _ _,Gb.refl _ _,rfl,World.ownsRow_nil _ _ _ _,(fun q hq => by cases hq),fun i p q e => by simp at e⟩)
  clear hB hm he hr h hgl hP hnn hws hH
  unfold CP
  go_enter Tryz.func158,Tryz.ntmps158
  go_wp2_with fail
  go_loopg [5,12] (nn + 1) (fun gh y i wi => ∃ k : Nat,k ≤ nn ∧ i = .int .i64 k ∧ gh = nn - k + 1 ∧ Hid (NSt C H ca σ nb nv vs w ns k y wi))
  case atStart => exact ⟨0,by omega,rfl,by omega,N0⟩
  case round =>
    obtain ⟨k,hk,rfl,hgk,HG⟩ := hrel
    by_cases hkl : k < nn
    · have hkn : k < ns.length := by rw [← NN.out]; exact hkl
      obtain ⟨nm,hnm⟩ : ∃ x,ns[k]? = some x := ⟨_,List.getElem?_eq_getElem hkn⟩
      obtain ⟨u,hu⟩ : ∃ x,us[k]? = some x := ⟨_,List.getElem?_eq_getElem (by rw [Q.out.1.lu]; exact hkn)⟩
      obtain ⟨cur,hb1,hb2⟩ := Q.out.1.row
      have hz : Fz H wr := by
        obtain ⟨Hk,dk,nk,tk,mxk,_⟩ := HG.out
        exact fun q o e => tk.ms.cs.fz q o (mxk.ext q o e)
      obtain ⟨k1,k2⟩ := row_bind hz hb1 hb2 hnm hu
      have lB := lt_of_block (hz _ _ hb1)
      obtain ⟨Tu,bu,rfl⟩ : ∃ T b,u = .iface T (.pointer (some ⟨b,0,none⟩)) := by
        obtain ⟨e9,he9⟩ : ∃ x,es[k]? = some x := ⟨_,List.getElem?_eq_getElem (by rw [Q.out.1.le]; exact hkn)⟩
        exact (Q.out.1.is k u e9 hu he9).val
      have gn : wr.grownBy (wr.alloc (.cells #[.string (B nm),.iface Tu (.pointer (some ⟨bu,0,none⟩))] 187)).drew none := grown_drew (World.grownBy_alloc _ _ _)
      have CG := hid (any_q (wr.alloc (.cells #[.string (B nm),.iface Tu (.pointer (some ⟨bu,0,none⟩))] 187)).drew)
      have b0c : (wr.alloc (.cells #[.string (B nm),.iface Tu (.pointer (some ⟨bu,0,none⟩))] 187)).drew.cell? ⟨wr.heap.size,0,none⟩ = some (.string (B nm)) := blk_c (w := (wr.alloc (.cells #[.string (B nm),.iface Tu (.pointer (some ⟨bu,0,none⟩))] 187)).drew) (heap_alloc_new wr _) 0 rfl
      have nq : ∀ q,u5.ownBlock = some q → q ≠ wr.heap.size := fun q hq => by
        obtain ⟨Hk,dk,nk,tk,mxk,gbk,ln,rn,ro,_⟩ := HG.out
        have h2 := (rn.lt q hq).2
        omega
      have S2 := hid b0c
      have NQ := hid (And.intro nq (And.intro hnm gn))
      clear hnm hu hb1 hb2 hz gn hkn b0c nq
      go_wp2_with fail
      go_region_held3 (fun wx => wx.cell? ⟨wr.heap.size,0,none⟩ = some (.string (B nm))) (first | exact S2.out | exact S7.out | exact S6.out | exact S5.out | go_keep) (first
        | (go_at_call 185; refine CG.out.mono ?_; rintro e w5 ⟨b5,rfl,hb5,hv5,g5⟩; have lw5 := g5.size; have S5 := hid ((Gb.new (R := fun _ => False) g5).cell S2.out (by simp) id); have gS : w5.grownBy (w5.alloc (.cells #[.string (B nm),.iface 242 (.pointer (some ⟨b5,0,none⟩))] 338)) none := World.grownBy_alloc _ _ _; have S6 := hid ((Gb.new (R := fun _ => False) gS).cell S5.out (by simp at lw5; omega) id); obtain ⟨nk,lnk,row2,hbs,APP⟩ := names_app Q.out.2.2.2.2.2 HG.out NQ.out.2.1 (NQ.out.2.2.trans g5) (Nat.le_trans NQ.out.2.2.size hb5) hv5 gS; have AP := hid APP; have hcl : nk.length ≤ 1000 := (by rw [lnk]; omega); have hnews := news_two w5 nm 242 b5; have hone := one_two nm 242 b5; clear APP gS lnk g5 hv5 hb5)
        | (refine step_append_lies _ (by rfl) _ _ _ (by rfl) C.base 338 j0 _ 2 32 Tryz.underlying169 hj0 hy0 hy1 hy2 rfl (by decide) _ _ _ (by rfl) row2 ⟨w5.heap.size,0,none⟩ 1 1 [Value.string (B nm),.iface 242 (.pointer (some ⟨b5,0,none⟩))] (by rfl) rfl hnews hone (by decide) (by unfold maxLen; omega) (by omega) hbs (w5.heap.size + 1) (by simp) ?_; intro g7 cap7 w7 hown7 hgrow7 hat7 _; have F7 := hid (AP.out g7 cap7 w7 hown7 hgrow7 (by simpa using hat7)); have g77 := Gb.of (R := fun q => u5.ownBlock = some q) hgrow7 (fun b e => Or.inl e); have S7 := hid (g77.cell S6.out (by simp at lw5 ⊢; omega) (fun e => (NQ.out.1 _ e) rfl)); clear hown7 hgrow7 hat7 g77))
      all_goals
        clear S2 S5 S6 S7 AP row2 hbs hnews hone
        go_wp2_with fail
        go_roundg (nn - (k + 1) + 1)
        case measure => omega
        case rel => exact ⟨k + 1,by omega,by go_num,rfl,F7⟩
    · have hkn : k = ns.length := by rw [← NN.out]; omega
      have hg9 := HG.out
      rw [hkn] at hg9
      obtain ⟨g9,cap9,Hk,dk,nk,hv9,tk,mxk,gbk,ahk,lnk⟩ := names_end Q.out.2.2.2.2.2 hg9 (by rw [← NN.out]; exact h0)
      rw [← NN.out] at hv9 lnk hkn
      have B0 := hid (show BRw C c stop H ca nb nn σ (ns.map fun n => (n,vT [97])) [] w u5 wr from ⟨C.keep,Hk,ca,dk,nv,vs,nk,g9,cap9,hv9,tk,mxk,gbk.mono (fun k e => Or.inl e.1),ahk,lnk,W0.out.1.same gbk (fun k e => e),mxk.none hwl W0.out.2.1,fun k hk => mxk.none (W0.out.1.kp k hk).2 (W0.out.2.2 k hk)⟩)
      subst hv9
      subst hkn
      clear tk mxk gbk ahk lnk hg9 HG N0
      have hk0 : 0 < k := h0
      go_wp2_with fail
      go_loopg [5,8] (most + 1) (fun gh y i wi => ∃ (t : Nat) (ahead : List (List UInt8 × Et)) (σj : Sto) (rs : List (List (List UInt8) × List (List UInt8))),t ≤ most ∧ i = .int .i64 ((t + 1 : Nat) : Int) ∧ gh = most - t + 1 ∧ rs.length = t ∧ Hid (∃ l,groupW P ns es nb stop (most - t) t ahead σj = some (l,r) ∧ L = rs ++ l) ∧ Hid (BRw C c stop H ca nb k σj ahead rs w y wi))
      case atStart => exact ⟨0,_,σ,[],by omega,rfl,by omega,rfl,HR,B0⟩
      case round =>
        obtain ⟨t,ahead,σj,rs,ht,rfl,hgt,hrt,HJ,HF⟩ := hrel
        obtain ⟨KA,Ha,caA,dA,nvA,vsA,nkA,gA,capA,rfl,tA,mxA,gbA,ahA,lnA,wsA,hwA,hkA⟩ := HF.out
        obtain ⟨l0,hjj,hLL⟩ := HJ.out
        obtain ⟨c1,lt1⟩ : wr.cell? ⟨C.tb,1,none⟩ = some (.int .i64 (most : Int)) ∧ C.tb < wr.heap.size := by
          have h9 : TB wr C.tb σj.rep.length (C.r nvA) := tA.ms.bk
          unfold TB TC.r at h9
          rw [Q.out.2.1] at h9
          exact ⟨by simp [World.cell?,h9],lt_of_block h9⟩
        have lw : c.wb < C.base := wsA.lo.1
        have glZ := Q.out.2.2.2.1.at gbA (fun k e => by rcases e with e | e; exact Nat.le_trans hzb e; rw [e]; exact hz)
        have glA : GLb (C.kept KA).base ad wr := glZ.re hzb tA.bs
        by_cases htl : t < most
        · have hle : ((t + 1 : Nat) : Int) ≤ (most : Int) := by omega
          rw [show most - t = (most - (t + 1)) + 1 by omega,groupW] at hjj
          cases er : roundE P ns es nb ahead σj with
          | none => rw [er] at hjj; cases hjj
          | some rr =>
          rw [er] at hjj
          unfold roundE at er
          cases ef : foundE P nb ahead es σj with
          | none => rw [ef] at er; cases er
          | some rf =>
          rw [ef] at er
          have hlen : nkA.length = ns.length := by rw [lnA,NN.out]
          cases rf with
          | inl q =>
            cases er
            have hq : l0 = [] ∧ r = .inl q := by have := Option.some.inj hjj; injection this with q1 q2; exact ⟨q1.symm,q2.symm⟩
            obtain ⟨rfl,rfl⟩ := hq
            have CR := hid (round_e1 (C := C.kept KA) (capB := capB) (capA := capA) (fun K => Q.out.2.2.2.2.1 K) (Q.out.1.mx mxA) ahA hlen (by rw [← NN.out]; exact hk0) (by rw [← NN.out]; exact hn) ef tA glA)
            rw [← NN.out] at CR
            have GB := hid (And.intro gbA wsA)
            have LL := hid hLL
            clear tA mxA gbA ahA lnA glA glZ hjj ef HJ HF hlen wsA hwA hkA hLL
            unfold CP TC.kept at CR
            go_wp2_with fail
            refine CR.out.mono ?_
            rintro e w2 ⟨rfl,g2⟩
            have Q9 := hid (show GRW C ad c stop H ca nb k L (.inl q) w (fltE (ad q)) w2 from ⟨KA,by rw [LL.out,List.append_nil]; exact GB.out.2.same g2 (fun k e => e),GB.out.1.tr (g2.mono fun k e => Or.inl e.1),rfl⟩)
            clear g2 CR
            unfold fltE errV
            go_wp2
            exact ⟨rfl,Q9.out⟩
          | inr y =>
            simp only at er
            cases el : reachS y.1 nb with
            | none => rw [el] at er; cases er
            | some L2 =>
            rw [el] at er
            simp only at er
            cases en : nextT y.1 L2 ns y.2 with
            | none => rw [en] at er; cases er
            | some next =>
            rw [en] at er
            cases er
            simp only at hjj
            cases et : textsE next with
            | none => rw [et] at hjj; cases hjj
            | some us =>
            rw [et] at hjj
            simp only at hjj
            have CR := hid (round_e0 (C := C.kept KA) (capB := capB) (capA := capA) (fun K => Q.out.2.2.2.2.1 K) (Q.out.1.mx mxA) ahA hlen (by rw [← NN.out]; exact hk0) (by rw [← NN.out]; exact hn) ef el en tA glA)
            rw [← NN.out] at CR
            have QA := hid (And.intro mxA (And.intro gbA (And.intro ahA (And.intro lnA (And.intro wsA (And.intro hwA (And.intro hkA glZ)))))))
            have JJ := hid hjj
            have NL := hid ((nextT_at en).1.trans NN.out.symm)
            have HX := hid et
            have LL := hid hLL
            clear tA mxA gbA ahA lnA glA glZ hjj ef el en HJ HF hlen wsA hwA hkA hLL et
            unfold CP TC.kept at CR
            go_wp2_with fail
            refine CR.out.mono ?_
            rintro e w2 ⟨H0,H2,ca2,d2,nv2,vs2,nk2,g2,cap2,lo,rfl,t2,mx2,gb2,ah2,ln2,x01,x02,xlo,el2⟩
            have t2' : TSv (C.kept KA) H2 ca2 y.1 d2 nb nv2 vs2 w2 := t2
            have gb2' : Gb (C.kept KA).own wr w2 := gb2
            have ws2 : WS c stop (C.kept KA).base (C.kept KA).keep rs w2 := QA.out.2.2.2.2.1.same gb2' (fun k e => e)
            have lww : c.wb < wr.heap.size := by obtain ⟨_,_,q,_⟩ := QA.out.2.2.2.2.1.blk; exact lt_of_block q
            have hH2 : H2 c.wb = none ∧ ∀ k,k ∈ (C.kept KA).keep → H2 k = none := ⟨mx2.none lww QA.out.2.2.2.2.2.1,fun k hk => mx2.none (QA.out.2.2.2.2.1.kp k hk).2 (QA.out.2.2.2.2.2.2.1 k hk)⟩
            have gl2 := QA.out.2.2.2.2.2.2.2.at gb2' (fun k e => Nat.le_trans hzb e.1)
            obtain ⟨hall,htx⟩ : (∀ p,p ∈ next → p.1.length ≤ 300 ∧ ncB 60 p.2 = true) ∧ txS (next.map (·.2)) [] = some us := by
              have := HX.out
              unfold textsE at this
              split at this
              · rename_i h9
                simp only [List.all_eq_true,Bool.and_eq_true,decide_eq_true_eq] at h9
                exact ⟨h9,this⟩
              · cases this
            have CT := hid (tell_w (C := C.kept KA) (cap := cap2) (n := k) (z := z) Q.out.2.2.1 ws2 t2' ah2 ln2 hk0 hn (by omega) (fun i p q e1 e2 => by
              obtain ⟨m9,h9⟩ := (ah2.is i p q e1 e2).2
              exact ⟨m9,er_nc 60 m9 _ _ (hall q (List.mem_of_getElem? e2)).2 h9⟩) htx (fun p hp => (hall p hp).1) gl2 hz hzb)
            rw [hrt] at CT
            have Q2 := hid (And.intro t2' (And.intro mx2 (And.intro gb2' (And.intro ah2 (And.intro ln2 (And.intro hH2 (And.intro x01 (And.intro x02 (And.intro xlo (And.intro el2 ws2))))))))))
            clear t2 t2' gb2' mx2 gb2 ah2 ln2 x01 x02 xlo el2 CR hH2 ws2 gl2 hall htx
            unfold CP TC.kept at CT
            go_wp2_with fail
            refine CT.out.mono ?_
            rintro e w3 ⟨⟨K3,ws3,k31,k32⟩,g3,hend⟩
            have gT : Gb (fun k => C.base ≤ k ∨ k = c.wb) wr w3 := (Q2.out.2.2.1.mono fun k e => Or.inl e.1).tr (g3.mono fun k e => by
              rcases e with e | e
              · exact Or.inr e
              · exact Or.inl (QA.out.2.2.2.2.1.kp k e).1)
            have gW := QA.out.2.1.tr gT
            rcases hend with ⟨hst,rfl⟩ | ⟨hst,z9,rfl⟩
            · have hst2 : t + 1 = stop := by simp at hst; omega
              have hjj := JJ.out
              rw [if_pos hst2] at hjj
              have hq : l0 = [(next.map (·.1),us)] ∧ r = .inl 6 := by have := Option.some.inj hjj; injection this with q1 q2; exact ⟨q1.symm,q2.symm⟩
              obtain ⟨rfl,rfl⟩ := hq
              have Q9 := hid (show GRW C ad c stop H ca nb k L (.inl 6) w (fltE (ad 6)) w3 from ⟨K3,by rw [LL.out]; exact ws3,gW,rfl⟩)
              clear ws3 k31 k32 g3 gT gW CT hst hjj
              unfold fltE errV
              go_wp2
              unfold fltE errV at Q9
              exact ⟨rfl,Q9.out⟩
            · have hst2 : ¬ t + 1 = stop := fun e => hst (by simp; omega)
              have hjj := JJ.out
              rw [if_neg hst2] at hjj
              have t3 : TSv (C.kept K3) H2 ca2 y.1 d2 nb nv2 vs2 w3 := TSv.told (C := C.kept KA) Q2.out.1 g3 lw hmw (fun k hk => (QA.out.2.2.2.2.1.kp k hk).1) Q2.out.2.2.2.2.2.1 k31 ws3
              have hH3 : H2 c.wb = none ∧ ∀ k,k ∈ K3 → H2 k = none := ⟨Q2.out.2.2.2.2.2.1.1,fun k hk => by
                rcases k31 k hk with e | e
                · exact Q2.out.2.2.2.2.2.1.2 k e
                · exact Q2.out.1.ms.cs.fz.none e⟩
              have ahA2 := QA.out.2.2.1.mx Q2.out.2.1
              have rA := ahA2.rowN (cap := capA) t3.ms.cs
              have rB := Q2.out.2.2.2.1.rowN (cap := cap2) t3.ms.cs
              rw [QA.out.2.2.2.1] at rA
              rw [Q2.out.2.2.2.2.1] at rB
              cases eg : sameG y.1 ahead next with
              | none => rw [eg] at hjj; cases hjj
              | some b =>
              rw [eg] at hjj
              have CS := hid (same_t (lo := lo) Q2.out.2.2.2.2.2.2.2.1 Q2.out.2.2.2.2.2.2.2.2.1 rA rB ahA2.len Q2.out.2.2.2.1.len (by rw [← ahA2.len,QA.out.2.2.2.1,← Q2.out.2.2.2.1.len,Q2.out.2.2.2.2.1]) (by rw [Q2.out.2.2.2.2.1]; exact hn) (fun i p q e1 e2 => by
                obtain ⟨m9,h9⟩ := (QA.out.2.2.1.is i p q e1 e2).2
                exact ⟨m9,h9.ext (Nat.le_refl _) Q2.out.2.2.2.2.2.2.1 Q2.out.2.1.pre _ _ _⟩) (fun i p q e1 e2 => Q2.out.2.2.2.2.2.2.2.2.2.1 i p q e1 e2) eg t3.ms.cs)
              have T3 := hid (And.intro t3 (And.intro hH3 (And.intro ws3 gW)))
              have JK := hid hjj
              clear t3 hH3 ws3 k31 k32 g3 gT gW CT hst hjj rA rB ahA2 eg JJ
              go_wp2_with fail
              refine CS.out.mono ?_
              rintro e w4 ⟨rfl,c4,g4⟩
              have gO : Gb (C.kept K3).own w3 w4 := g4.mono fun k e => T3.out.1.clo k e
              have T4 := hid (And.intro (T3.out.1.cs c4 g4) (And.intro (T3.out.2.2.1.same gO (fun k e => e)) (T3.out.2.2.2.tr (gO.mono fun k e => Or.inl e.1))))
              clear c4 g4 CS gO
              cases b with
              | true =>
                have hq : l0 = [(next.map (·.1),us)] ∧ r = .inr (y.1,next) := by have := Option.some.inj JK.out; injection this with q1 q2; exact ⟨q1.symm,q2.symm⟩
                obtain ⟨rfl,rfl⟩ := hq
                have Q9 := hid (show GRW C ad c stop H ca nb k L (.inr (y.1,next)) w (.returned (.slice (some ⟨g2,0,none⟩) k cap2)) w4 from ⟨K3,by rw [LL.out]; exact T4.out.2.1,T4.out.2.2,H2,ca2,d2,nv2,vs2,nk2,g2,cap2,rfl,T4.out.1,QA.out.1.trans Q2.out.2.1 QA.out.2.1.size,Q2.out.2.2.2.1,Q2.out.2.2.2.2.1⟩)
                go_wp2
                go_ret
                exact Q9.out
              | false =>
                have hq : ∃ l1,groupW P ns es nb stop (most - (t + 1)) (t + 1) next y.1 = some (l1,r) ∧ l0 = (next.map (·.1),us) :: l1 := by
                  have h9 := JK.out
                  simp only at h9
                  cases e9 : groupW P ns es nb stop (most - (t + 1)) (t + 1) next y.1 with
                  | none => rw [e9] at h9; cases h9
                  | some q9 =>
                    rw [e9] at h9
                    have := Option.some.inj h9
                    injection this with q1 q2
                    exact ⟨q9.1,by rw [← q2],q1.symm⟩
                have J2 := hid (show ∃ l,groupW P ns es nb stop (most - (t + 1)) (t + 1) next y.1 = some (l,r) ∧ L = (rs ++ [(next.map (·.1),us)]) ++ l from by
                  obtain ⟨l1,q1,q2⟩ := hq
                  exact ⟨l1,q1,by rw [LL.out,q2,List.append_assoc]; rfl⟩)
                have B4 := hid (show BRw C c stop H ca nb k y.1 next (rs ++ [(next.map (·.1),us)]) w (.slice (some ⟨g2,0,none⟩) k cap2) w4 from ⟨K3,H2,ca2,d2,nv2,vs2,nk2,g2,cap2,rfl,T4.out.1,QA.out.1.trans Q2.out.2.1 QA.out.2.1.size,T4.out.2.2,Q2.out.2.2.2.1,Q2.out.2.2.2.2.1,T4.out.2.1,T3.out.2.1.1,T3.out.2.1.2⟩)
                clear hq
                go_wp2_with fail
                go_roundg (most - (t + 1) + 1)
                case measure => omega
                case rel => exact ⟨t + 1,next,y.1,rs ++ [(next.map (·.1),us)],by omega,by go_num,rfl,by simp [hrt],J2,B4⟩
        · have hte : t = most := by omega
          have hnle : ¬ ((t + 1 : Nat) : Int) ≤ (most : Int) := by omega
          rw [hte,Nat.sub_self,groupW] at hjj
          have hq : l0 = [] ∧ r = .inl 5 := by have := Option.some.inj hjj; injection this with q1 q2; exact ⟨q1.symm,q2.symm⟩
          obtain ⟨rfl,rfl⟩ := hq
          have hg5 := glA.g5
          have Q9 := hid (show GRW C ad c stop H ca nb k L (.inl 5) w (fltE (ad 5)) wr from ⟨KA,by rw [hLL,List.append_nil]; exact wsA,gbA,rfl⟩)
          clear tA mxA gbA ahA lnA glA glZ hjj HJ HF wsA hwA hkA hLL
          unfold errV at hg5
          go_wp2
          unfold fltE errV at Q9
          exact ⟨rfl,Q9.out⟩
end Go.Proofs.YtcdijppegfcoaabGreatDoor
