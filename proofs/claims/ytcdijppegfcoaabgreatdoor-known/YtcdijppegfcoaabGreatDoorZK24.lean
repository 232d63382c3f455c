import Derived.Test.YtcdijppegfcoaabGreatDoorZK23
import Derived.Test.YtcdijppegfcoaabGreatDoorZK11
import Derived.Test.YtcdijppegfcoaabGreatDoorZK09
import Derived.WideMake
import Derived.Carry
import Derived.Laws.IdiomRangeMap
import Derived.Test.YtcdijppegfcoaabGreatDoorZK21
import Derived.Test.YtcdijppegfcoaabGreatDoorZK10
import Derived.Test.YtcdijppegfcoaabGreatDoorZK00
set_option maxRecDepth 100000
set_option maxHeartbeats 4000000
namespace Go.Proofs.YtcdijppegfcoaabGreatDoor
open Go.RowKit Go.Extern.Stop Go.Stop Go.Extern
structure SW (W : World) (ad : Nat → Addr) (cs : Nat → Array Value) (ts : Nat → TypeId) : Prop where
  g0 : W.cell? ⟨0,0,none⟩ = some (errV (ad 0))
  g1 : W.cell? ⟨1,0,none⟩ = some (errV (ad 1))
  g2 : W.cell? ⟨2,0,none⟩ = some (errV (ad 2))
  g3 : W.cell? ⟨3,0,none⟩ = some (errV (ad 3))
  g4 : W.cell? ⟨4,0,none⟩ = some (errV (ad 4))
  g5 : W.cell? ⟨5,0,none⟩ = some (errV (ad 5))
  g6 : W.cell? ⟨6,0,none⟩ = some (errV (ad 6))
  g7 : W.cell? ⟨7,0,none⟩ = some (errV (ad 7))
  hE : W.cell? ⟨8,0,none⟩ = some ETy
  hb : ∀ k,k < 8 → W.heap[(ad k).block]? = some (.cells (cs k) (ts k) (0,0))
  hne : ∀ i j,i < 8 → j < 8 → i ≠ j → ad i ≠ ad j
  hsz : 8 + 1 ≤ W.heap.size
theorem SW.grown {w w' : World} {ad : Nat → Addr} {cs : Nat → Array Value} {ts : Nat → TypeId} (h : SW w ad cs ts) (hg : w.grownBy w' none) : SW w' ad cs ts := by
  have c : ∀ {b : Nat} {v : Value},b < 8 + 1 → w.cell? ⟨b,0,none⟩ = some v → w'.cell? ⟨b,0,none⟩ = some v := fun hl e => grown_cell e (Nat.lt_of_lt_of_le hl h.hsz) hg
  exact ⟨c (by decide) h.g0,c (by decide) h.g1,c (by decide) h.g2,c (by decide) h.g3,c (by decide) h.g4,c (by decide) h.g5,c (by decide) h.g6,c (by decide) h.g7,c (by decide) h.hE,
    fun k hk => by rw [hg.block _ (lt_of_block (h.hb k hk)) (by simp)]; exact h.hb k hk,h.hne,Nat.le_trans h.hsz hg.size⟩
theorem five_c {w : World} {b : Nat} {p q r s u : Value} {t : TypeId} (h : w.heap[b]? = some (.cells #[p,q,r,s,u] t (0,0))) :
    (w.cell? ⟨b,0,none⟩ = some p ∧ w.cell? ⟨b,1,none⟩ = some q ∧ w.cell? ⟨b,2,none⟩ = some r ∧ w.cell? ⟨b,3,none⟩ = some s ∧ w.cell? ⟨b,4,none⟩ = some u) ∧
    w.frozen? ⟨b,0,none⟩ = false ∧ w.frozen? ⟨b,1,none⟩ = false ∧ w.frozen? ⟨b,2,none⟩ = false ∧ w.frozen? ⟨b,3,none⟩ = false ∧ w.frozen? ⟨b,4,none⟩ = false := by
  simp [World.cell?,World.frozen?,h]
def faultW (w : World) : World := (((w.alloc (.cells #[.int .i64 0,.int .i64 0,.string (B []),.int .i64 0,.int .i64 0] 23)).alloc (.cells #[.pointer none] 81)).alloc (.cells #[.pointer none] 82)).alloc (.cells #[.pointer none] 83)
theorem faultW_grown (w : World) : w.grownBy (faultW w) none := (((World.grownBy_alloc _ _ _).trans (World.grownBy_alloc _ _ _)).trans (World.grownBy_alloc _ _ _)).trans (World.grownBy_alloc _ _ _)
theorem faultW_blocks (w : World) : (faultW w).heap[w.heap.size]? = some (.cells #[.int .i64 0,.int .i64 0,.string (B []),.int .i64 0,.int .i64 0] 23 (0,0)) ∧ (faultW w).heap[w.heap.size + 1]? = some (.cells #[.pointer none] 81 (0,0)) ∧
    (faultW w).heap[w.heap.size + 2]? = some (.cells #[.pointer none] 82 (0,0)) ∧ (faultW w).heap[w.heap.size + 3]? = some (.cells #[.pointer none] 83 (0,0)) := by
  unfold faultW
  refine ⟨?_,?_,?_,?_⟩
  · rw [Below.heap_alloc _ _ _ (by simp <;> omega),Below.heap_alloc _ _ _ (by simp <;> omega),Below.heap_alloc _ _ _ (by simp)]
    exact heap_alloc_new _ _
  · rw [Below.heap_alloc _ _ _ (by simp <;> omega),Below.heap_alloc _ _ _ (by simp)]
    exact heap_alloc_at _ _ _ (by simp)
  · rw [Below.heap_alloc _ _ _ (by simp)]
    exact heap_alloc_at _ _ _ (by simp)
  · exact heap_alloc_at _ _ _ (by simp)
theorem one_c {w : World} {b : Nat} {p : Value} {t : TypeId} (h : w.heap[b]? = some (.cells #[p] t (0,0))) : w.cell? ⟨b,0,none⟩ = some p ∧ w.frozen? ⟨b,0,none⟩ = false := by simp [World.cell?,World.frozen?,h]
theorem grown_setNew {w wi : World} (hg : w.grownBy wi none) {n : Nat} (hn : w.heap.size ≤ n) (i : Nat) (a : Value) : w.grownBy (wi.setCell ⟨n,i,none⟩ a) none :=
  ⟨hg.os,hg.tape,hg.output,by have := hg.size; simp [World.setCell] at this ⊢; omega,fun k hk _ => by
    rw [Below.heap_setCell _ _ _ _ (by show k ≠ n; omega)]
    exact hg.block k hk (by simp)⟩
theorem fault_set {w wi : World} (hg : w.grownBy wi none) {n : Nat} (hn : w.heap.size ≤ n) (a b c d e : Value) : w.grownBy (((((wi.setCell ⟨n,0,none⟩ a).setCell ⟨n,1,none⟩ b).setCell ⟨n,2,none⟩ c).setCell ⟨n,3,none⟩ d).setCell ⟨n,4,none⟩ e) none :=
  grown_setNew (grown_setNew (grown_setNew (grown_setNew (grown_setNew hg hn 0 a) hn 1 b) hn 2 c) hn 3 d) hn 4 e
theorem fault_nil (w : World) : Calls Tryz.prog 22 #[.nilIface] w fun e w' => e = .returned (fv 0 0) ∧ w.grownBy w' none := by
  go_enter Tryz.func22,Tryz.ntmps22
  go_wp2_with (go_at_call 37; refine (as_nil _ _).mono ?_; rintro e w' ⟨rfl,rfl⟩)
  refine bodyPost_ret (v := fv 0 0) ?_ rfl ?_
  · have q := five_c (faultW_blocks w).1
    obtain ⟨⟨q0,q1,q2,q3,q4⟩,_⟩ := q
    unfold faultW at q0 q1 q2 q3 q4
    simp [results,Tryz.results22,go_sem]
    rfl
  · exact ⟨rfl,faultW_grown w⟩
theorem fault_syn (w : World) (ad : Nat → Addr) (cs : Nat → Array Value) (ts : Nat → TypeId) (S : SW w ad cs ts) (b : Nat) (p : Int) (hb : w.heap[b]? = some (.cells #[.int .i64 p] 92 (0,0))) :
    Calls Tryz.prog 22 #[.iface 81 (.pointer (some ⟨b,0,none⟩))] w fun e w' => e = .returned (fv 2 p) ∧ w.grownBy w' none := by
  obtain ⟨n0,n1,n2,n3⟩ := faultW_blocks w
  have hbl := lt_of_block hb
  have S4 := hid (S.grown (faultW_grown w))
  have A1 := hid (as_syntax_env (w.heap.size + 3) ⟨b,0,none⟩ (faultW w) (lt_of_block n3) S4.out.hE (Nat.lt_of_lt_of_le (by decide) S4.out.hsz))
  have B4 := hid (And.intro n0 n1)
  have HB := hid hb
  clear S hb n0 n1 n2 n3
  unfold faultW at A1
  go_enter Tryz.func22,Tryz.ntmps22
  go_wp2_with fail
  refine A1.out.mono ?_
  rintro e w5 ⟨rfl,g5⟩
  have g5' : (faultW w).grownBy w5 none := g5
  have S5 := hid (S4.out.grown g5')
  have n1 : w5.heap[w.heap.size + 1]? = some (.cells #[.pointer none] 81 (0,0)) := by
    rw [g5'.block _ (lt_of_block B4.out.2) (by simp)]; exact B4.out.2
  have n0 : w5.heap[w.heap.size]? = some (.cells #[.int .i64 0,.int .i64 0,.string (B []),.int .i64 0,.int .i64 0] 23 (0,0)) := by
    rw [g5'.block _ (lt_of_block B4.out.1) (by simp)]; exact B4.out.1
  have A2 := hid (as_syntax_syntax (w.heap.size + 1) ⟨b,0,none⟩ (.pointer none) w5 (one_c n1).1 (one_c n1).2 (lt_of_block n1) S5.out.hE (Nat.lt_of_lt_of_le (by decide) S5.out.hsz))
  have G5 := hid ((faultW_grown w).trans g5')
  have hb5 : w5.heap[b]? = some (.cells #[.int .i64 p] 92 (0,0)) := by
    rw [G5.out.block _ hbl (by simp)]; exact HB.out
  have l0 := lt_of_block n0
  have lb5 := lt_of_block hb5
  clear g5 g5' A1 S4
  go_wp2_with fail
  refine A2.out.mono ?_
  rintro e w6 ⟨rfl,c6,g6⟩
  have n06 : w6.heap[w.heap.size]? = some (.cells #[.int .i64 0,.int .i64 0,.string (B []),.int .i64 0,.int .i64 0] 23 (0,0)) := by
    rw [g6.block _ l0 (by simp)]; exact n0
  have hb6 : w6.heap[b]? = some (.cells #[.int .i64 p] 92 (0,0)) := by
    rw [g6.block _ lb5 (by simp; omega)]; exact hb5
  have d6 := (one_c hb6).1
  obtain ⟨⟨q0,q1,q2,q3,q4⟩,f0,f1,f2,f3,f4⟩ := five_c n06
  have G6 : Hid (w.grownBy w6 none) := ⟨g6.os.trans G5.out.os,g6.tape.trans G5.out.tape,g6.output.trans G5.out.output,Nat.le_trans G5.out.size g6.size,fun k hk hn => by
    rw [g6.block k (Nat.lt_of_lt_of_le hk G5.out.size) (by simp; omega)]
    exact G5.out.block k hk hn⟩
  clear g6 n06 hb6 n0 n1 hb5 A2
  go_wp2
  refine bodyPost_ret (v := fv 2 p) (by simp [results,Tryz.results22,go_sem,q0,q1,q2,q3,q4]; rfl) rfl ?_
  exact ⟨rfl,fault_set G6.out (Nat.le_refl _) _ _ _ _ _⟩
structure Gn (w w' : World) : Prop where
  os : w'.os = w.os
  output : w'.output = w.output
  size : w.heap.size ≤ w'.heap.size
  block : ∀ k,k < w.heap.size → w'.heap[k]? = w.heap[k]?
theorem Gn.of {w w' : World} (h : w.grownBy w' none) : Gn w w' := ⟨h.os,h.output,h.size,fun k hk => h.block k hk (by simp)⟩
theorem Gn.trans {a b c : World} (h : Gn a b) (k : Gn b c) : Gn a c := ⟨k.os.trans h.os,k.output.trans h.output,Nat.le_trans h.size k.size,fun i hi => (k.block i (Nat.lt_of_lt_of_le hi h.size)).trans (h.block i hi)⟩
theorem Gn.setNew {w wi : World} (hg : Gn w wi) {n : Nat} (hn : w.heap.size ≤ n) (i : Nat) (a : Value) : Gn w (wi.setCell ⟨n,i,none⟩ a) :=
  ⟨hg.os,hg.output,by have := hg.size; simp [World.setCell] at this ⊢; omega,fun k hk => by
    rw [Below.heap_setCell _ _ _ _ (by show k ≠ n; omega)]
    exact hg.block k hk⟩
theorem Gn.set5 {w wi : World} (hg : Gn w wi) {n : Nat} (hn : w.heap.size ≤ n) (a b c d e : Value) : Gn w (((((wi.setCell ⟨n,0,none⟩ a).setCell ⟨n,1,none⟩ b).setCell ⟨n,2,none⟩ c).setCell ⟨n,3,none⟩ d).setCell ⟨n,4,none⟩ e) :=
  ((((hg.setNew hn 0 a).setNew hn 1 b).setNew hn 2 c).setNew hn 3 d).setNew hn 4 e
theorem Gn.frame {W w' : World} (h : Gn W w') (may : MemPlace → Prop) : W.keptBut w' may := by
  refine ⟨h.os,h.output,fun i hi => ?_⟩
  rw [h.block i hi]
  split <;> simp_all
theorem set_alloc (w : World) (o o' : Obj) : ({ w.alloc o with heap := (w.alloc o).heap.setIfInBounds w.heap.size o' } : World) = w.alloc o' := by
  have h : (w.heap.push o).setIfInBounds w.heap.size o' = w.heap.push o' := by
    apply Array.ext_getElem?
    intro i
    rw [Array.getElem?_setIfInBounds,Array.getElem?_push,Array.getElem?_push]
    by_cases e : w.heap.size = i
    · subst e; simp
    · rw [if_neg e,if_neg (fun h => e h.symm),if_neg (fun h => e h.symm)]
  show ({ w with heap := (w.heap.push o).setIfInBounds w.heap.size o' } : World) = { w with heap := w.heap.push o' }
  rw [h]
theorem upd_new (w : World) (es : Array MapEntry) (c : Nat) (k : Int) (v : Value) (hf : Instr.findNow (.int .i64) (.int .i64 k) es.toList 0 = some none) :
    (Instr.mapUpdate 96 (.map (some w.heap.size)) (.int .i64 k) v).run Tryz.prog (w.alloc (.map es c)) = .ok () (w.alloc (.map (es.push { key := .int .i64 k,val := v,born := c }) (c + 1))) := by
  have hb : (w.alloc (.map es c)).heap[w.heap.size]? = some (.map es c) := heap_alloc_new _ _
  have hc : (Instr.checkKey false 10000 3 (.int .i64 k)).run Tryz.prog (w.alloc (.map es c)) = .ok () (w.alloc (.map es c)) := MapKept.run_checkKey (k := .int .i64 k) Tryz.underlying3 (by simp [MapKept.IsKey]) false 9999
  simp [Instr.mapUpdate,run_underlying Tryz.underlying96,MapKept.run_getObj_map hb,hc,MapKept.run_findKey Tryz.underlying3 hf,MapKept.run_setObj_map _ hb,Result.andThen]
  exact set_alloc _ _ _
def errNo (i : Nat) : Int := [1,3,6,7,8,9,10,11].getD i 0
def errEs (ad : Nat → Addr) : Array MapEntry := #[{ key := .int .i64 1,val := errV (ad 0),born := 0 },{ key := .int .i64 3,val := errV (ad 1),born := 1 },{ key := .int .i64 6,val := errV (ad 2),born := 2 },{ key := .int .i64 7,val := errV (ad 3),born := 3 },{ key := .int .i64 8,val := errV (ad 4),born := 4 },{ key := .int .i64 9,val := errV (ad 5),born := 5 },{ key := .int .i64 10,val := errV (ad 6),born := 6 },{ key := .int .i64 11,val := errV (ad 7),born := 7 }]
theorem errEs_mem (ad : Nat → Addr) : ∀ x ∈ (errEs ad).toList,∃ j,j < 8 ∧ x.key = .int .i64 (errNo j) ∧ x.val = errV (ad j) ∧ x.born = j := by
  intro x hx
  simp only [errEs,List.mem_cons,List.not_mem_nil,or_false] at hx
  rcases hx with rfl | rfl | rfl | rfl | rfl | rfl | rfl | rfl
  · exact ⟨0,by decide,rfl,rfl,rfl⟩
  · exact ⟨1,by decide,rfl,rfl,rfl⟩
  · exact ⟨2,by decide,rfl,rfl,rfl⟩
  · exact ⟨3,by decide,rfl,rfl,rfl⟩
  · exact ⟨4,by decide,rfl,rfl,rfl⟩
  · exact ⟨5,by decide,rfl,rfl,rfl⟩
  · exact ⟨6,by decide,rfl,rfl,rfl⟩
  · exact ⟨7,by decide,rfl,rfl,rfl⟩
theorem errEs_at (ad : Nat → Addr) (i : Nat) (hi : i < 8) : ∃ x ∈ (errEs ad).toList,x.born = i := by
  simp only [errEs,List.mem_cons,List.not_mem_nil,or_false]
  match i,hi with
  | 0,_ => exact ⟨_,Or.inl rfl,rfl⟩
  | 1,_ => exact ⟨_,Or.inr (Or.inl rfl),rfl⟩
  | 2,_ => exact ⟨_,Or.inr (Or.inr (Or.inl rfl)),rfl⟩
  | 3,_ => exact ⟨_,Or.inr (Or.inr (Or.inr (Or.inl rfl))),rfl⟩
  | 4,_ => exact ⟨_,Or.inr (Or.inr (Or.inr (Or.inr (Or.inl rfl)))),rfl⟩
  | 5,_ => exact ⟨_,Or.inr (Or.inr (Or.inr (Or.inr (Or.inr (Or.inl rfl))))),rfl⟩
  | 6,_ => exact ⟨_,Or.inr (Or.inr (Or.inr (Or.inr (Or.inr (Or.inr (Or.inl rfl)))))),rfl⟩
  | 7,_ => exact ⟨_,Or.inr (Or.inr (Or.inr (Or.inr (Or.inr (Or.inr (Or.inr (rfl))))))),rfl⟩
theorem errEs_stamped (ad : Nat → Addr) : (∀ x ∈ (errEs ad).toList,x.born < 8) ∧ ((errEs ad).toList.map (·.born)).Nodup := by
  constructor
  · intro x hx
    obtain ⟨j,h1,_,_,h2⟩ := errEs_mem ad x hx
    omega
  · simp [errEs]
theorem fault_err (w : World) (ad : Nat → Addr) (cs : Nat → Array Value) (ts : Nat → TypeId) (S : SW w ad cs ts) (i : Nat) (hi : i < 8) :
    Calls Tryz.prog 22 #[.iface 372 (.pointer (some (ad i)))] w fun e w' => e = .returned (fv (errNo i) 0) ∧ Gn w w' := by
  have hmm := @run_makeMap Tryz.prog
  have u0 := fun (wx : World) (v : Value) => upd_new wx #[] 0 1 v rfl
  have u1 := fun (wx : World) (v a0 : Value) => upd_new wx #[{ key := .int .i64 1,val := a0,born := 0 }] 1 3 v rfl
  have u2 := fun (wx : World) (v a0 a1 : Value) => upd_new wx #[{ key := .int .i64 1,val := a0,born := 0 },{ key := .int .i64 3,val := a1,born := 1 }] 2 6 v rfl
  have u3 := fun (wx : World) (v a0 a1 a2 : Value) => upd_new wx #[{ key := .int .i64 1,val := a0,born := 0 },{ key := .int .i64 3,val := a1,born := 1 },{ key := .int .i64 6,val := a2,born := 2 }] 3 7 v rfl
  have u4 := fun (wx : World) (v a0 a1 a2 a3 : Value) => upd_new wx #[{ key := .int .i64 1,val := a0,born := 0 },{ key := .int .i64 3,val := a1,born := 1 },{ key := .int .i64 6,val := a2,born := 2 },{ key := .int .i64 7,val := a3,born := 3 }] 4 8 v rfl
  have u5 := fun (wx : World) (v a0 a1 a2 a3 a4 : Value) => upd_new wx #[{ key := .int .i64 1,val := a0,born := 0 },{ key := .int .i64 3,val := a1,born := 1 },{ key := .int .i64 6,val := a2,born := 2 },{ key := .int .i64 7,val := a3,born := 3 },{ key := .int .i64 8,val := a4,born := 4 }] 5 9 v rfl
  have u6 := fun (wx : World) (v a0 a1 a2 a3 a4 a5 : Value) => upd_new wx #[{ key := .int .i64 1,val := a0,born := 0 },{ key := .int .i64 3,val := a1,born := 1 },{ key := .int .i64 6,val := a2,born := 2 },{ key := .int .i64 7,val := a3,born := 3 },{ key := .int .i64 8,val := a4,born := 4 },{ key := .int .i64 9,val := a5,born := 5 }] 6 10 v rfl
  have u7 := fun (wx : World) (v a0 a1 a2 a3 a4 a5 a6 : Value) => upd_new wx #[{ key := .int .i64 1,val := a0,born := 0 },{ key := .int .i64 3,val := a1,born := 1 },{ key := .int .i64 6,val := a2,born := 2 },{ key := .int .i64 7,val := a3,born := 3 },{ key := .int .i64 8,val := a4,born := 4 },{ key := .int .i64 9,val := a5,born := 5 },{ key := .int .i64 10,val := a6,born := 6 }] 7 11 v rfl
  obtain ⟨n0,n1,n2,n3⟩ := faultW_blocks w
  have S4 := hid (S.grown (faultW_grown w))
  have A1 := hid (as_plain_env (w.heap.size + 3) (ad i) (faultW w) (lt_of_block n3) S4.out.hE (Nat.lt_of_lt_of_le (by decide) S4.out.hsz))
  have l1 := lt_of_block n1
  have l2 := lt_of_block n2
  have l0 := lt_of_block n0
  have B4 := hid n0
  clear S n0 n1 n2 n3
  unfold faultW at A1
  go_enter Tryz.func22,Tryz.ntmps22
  go_wp2_with fail
  refine A1.out.mono ?_
  rintro e w5 ⟨rfl,g5⟩
  have g5' : (faultW w).grownBy w5 none := g5
  have S5 := hid (S4.out.grown g5')
  have A2 := hid (as_plain_syntax (w.heap.size + 1) (ad i) w5 (Nat.lt_of_lt_of_le l1 g5'.size) S5.out.hE (Nat.lt_of_lt_of_le (by decide) S5.out.hsz))
  have G5 := hid g5'
  clear g5 g5' A1 S4
  go_wp2_with fail
  refine A2.out.mono ?_
  rintro e w6 ⟨rfl,g6⟩
  have S6 := hid (S5.out.grown g6)
  have G6 := hid (G5.out.trans g6)
  have A3 := hid (as_plain_unbound (w.heap.size + 2) (ad i) w6 (Nat.lt_of_lt_of_le l2 G6.out.size) S6.out.hE (Nat.lt_of_lt_of_le (by decide) S6.out.hsz))
  clear g6 A2 S5 G5
  go_wp2_with fail
  refine A3.out.mono ?_
  rintro e w7 ⟨rfl,g7⟩
  have S7 := S6.out.grown g7
  have G7 := hid (G6.out.trans g7)
  have c0 := fun x => cell_past S7.g0 x
  have c1 := fun x => cell_past S7.g1 x
  have c2 := fun x => cell_past S7.g2 x
  have c3 := fun x => cell_past S7.g3 x
  have c4 := fun x => cell_past S7.g4 x
  have c5 := fun x => cell_past S7.g5 x
  have c6 := fun x => cell_past S7.g6 x
  have c7 := fun x => cell_past S7.g7 x
  have n7 : w7.heap[w.heap.size]? = some (.cells #[.int .i64 0,.int .i64 0,.string (B []),.int .i64 0,.int .i64 0] 23 (0,0)) := by
    rw [G7.out.block _ l0 (by simp)]; exact B4.out
  have HS7 := hid S7
  obtain ⟨W0,hW0⟩ : ∃ W0,W0 = w7.alloc (.map (errEs ad) 8) := ⟨_,rfl⟩
  have hb0 : W0.heap[w7.heap.size]? = some (.map (errEs ad) 8) := by rw [hW0]; exact heap_alloc_new _ _
  have hsz0 : W0.heap.size = w7.heap.size + 1 := by rw [hW0]; simp
  have old0 : ∀ k,k < w7.heap.size → W0.heap[k]? = w7.heap[k]? := fun k hk => by rw [hW0]; exact Below.heap_alloc _ _ _ hk
  have hrg := run_range_map (P := Tryz.prog) W0 96 3 56 w7.heap.size (errEs ad) 8 Tryz.underlying96 hb0
  have G0 : Hid (w.grownBy W0 none) := by rw [hW0]; exact ((faultW_grown w).trans G7.out).trans (World.grownBy_alloc _ _ _)
  have hrg' := hrg
  rw [hW0] at hrg'
  unfold errEs at hrg'
  clear g7 A3 S6 G6 S7 B4
  go_wp2_with fail
  rw [show (Obj.map #[{ key := Value.int IntKind.i64 1,val := errV (ad 0),born := 0 },{ key := Value.int IntKind.i64 3,val := errV (ad 1),born := 1 },{ key := Value.int IntKind.i64 6,val := errV (ad 2),born := 2 },{ key := Value.int IntKind.i64 7,val := errV (ad 3),born := 3 },{ key := Value.int IntKind.i64 8,val := errV (ad 4),born := 4 },{ key := Value.int IntKind.i64 9,val := errV (ad 5),born := 5 },{ key := Value.int IntKind.i64 10,val := errV (ad 6),born := 6 },{ key := Value.int IntKind.i64 11,val := errV (ad 7),born := 7 }] 8) = Obj.map (errEs ad) 8 from rfl] at *
  rw [← hW0]
  clear hrg hrg' u0 u1 u2 u3 u4 u5 u6 u7 hmm c0 c1 c2 c3 c4 c5 c6 c7
  have hN7 : w.heap.size < w7.heap.size := lt_of_block n7
  have e0 : W0.heap[w.heap.size]? = some (.cells #[.int .i64 0,.int .i64 0,.string (B []),.int .i64 0,.int .i64 0] 23 (0,0)) := by rw [old0 _ hN7]; exact n7
  have ea : ∀ k,k < 8 → W0.heap[(ad k).block]? = some (.cells (cs k) (ts k) (0,0)) := fun k hk => by rw [old0 _ (lt_of_block (HS7.out.hb k hk))]; exact HS7.out.hb k hk
  have HE0 := hid e0
  have HEA := hid ea
  have HB0 := hid hb0
  clear hW0 hb0 old0 n7 e0 ea
  go_loopw [] (fun w' => ∃ (w1 : World) (seen : Array Nat),w1.Alike W0 ∧ w' = w1.alloc (.mapIter (some w7.heap.size) 8 seen 8) ∧ Hid (∀ x ∈ (errEs ad).toList,seen.contains x.born = true → x.born ≠ i)) (fun w' => (leftOf (errEs ad) (w'.iterSeen (w7.heap.size + 1))).size)
  case atStart => exact ⟨W0,#[],⟨rfl,rfl,rfl⟩,rfl,fun x _ h => by simp at h⟩
  case round =>
    obtain ⟨w1,seen,hal,rfl,HNO⟩ := hrel
    have hsz : w1.heap.size = w7.heap.size + 1 := by rw [hal.1]; exact hsz0
    have hb1 : w1.heap[w7.heap.size]? = some (.map (errEs ad) 8) := by rw [hal.1]; exact HB0.out
    have law := run_next_map (P := Tryz.prog) w1 0 w7.heap.size 8 8 seen (errEs ad) 8 hb1 (errEs_stamped ad).1 (Nat.le_refl _)
    rw [hsz] at law
    rcases law with ⟨h0,hrun⟩ | ⟨e,he,w2,hal2,hrun⟩
    · obtain ⟨x,hx,hxb⟩ := errEs_at ad i hi
      exact absurd hxb (HNO.out x hx (all_seen _ _ h0 x hx))
    · obtain ⟨j,hj8,hkey,hval,hborn⟩ := errEs_mem ad e (mem_left he).1
      have hsz2 : w2.heap.size = w7.heap.size + 1 := by rw [hal2.1,hal.1]; exact hsz0
      have hb2 : w2.heap[w7.heap.size]? = some (.map (errEs ad) 8) := by rw [hal2.1]; exact hb1
      have hen := run_entry_map (P := Tryz.prog) w2 w7.heap.size 8 seen (errEs ad) 8 e hb2 (mem_left he).1 (errEs_stamped ad).2
      rw [hkey,hval] at hrun
      rw [hsz2,hkey,hval] at hen
      have hnx : ∀ ty,(Instr.next (.pointer (some ⟨w7.heap.size + 1,0,none⟩)) false ty).run Tryz.prog (w1.alloc (.mapIter (some w7.heap.size) 8 seen 8)) = _ := fun _ => hrun
      have hal3 : w2.Alike W0 := ⟨hal2.1.trans hal.1,hal2.2.1.trans hal.2.1,hal2.2.2.trans hal.2.2⟩
      obtain ⟨wX,hwX⟩ : ∃ wX,wX = w2.alloc (.mapIter (some w7.heap.size) 8 (seen.push e.born) 8) := ⟨_,rfl⟩
      rw [← hwX] at hnx hen
      have oldX : ∀ k,k < w7.heap.size + 1 → wX.heap[k]? = W0.heap[k]? := fun k hk => by rw [hwX,Below.heap_alloc _ _ _ (by omega),hal3.1]
      have eX := HE0.out
      rw [← oldX _ (by omega)] at eX
      have aX : ∀ k,k < 8 → wX.heap[(ad k).block]? = some (.cells (cs k) (ts k) (0,0)) := fun k hk => by
        rw [oldX _ (by have := lt_of_block (HEA.out k hk); omega)]
        exact HEA.out k hk
      obtain ⟨⟨q0,q1,q2,q3,q4⟩,f0,f1,f2,f3,f4⟩ := five_c eX
      have HAX := hid aX
      have HWX := hid hwX
      have HAL := hid hal3
      have GX : Hid (Gn w wX) := by
        have g0 := Gn.of G0.out
        show Gn w wX
        rw [hwX]
        exact Gn.trans (b := w2) ⟨hal3.2.1.trans g0.os,hal3.2.2.trans g0.output,by rw [hal3.1]; exact g0.size,fun k hk => by rw [hal3.1]; exact g0.block k hk⟩ (Gn.of (World.grownBy_alloc _ _ _))
      have HE := hid he
      have HBO := hid hborn
      clear hwX oldX eX aX hal hal2 hal3 hb1 hb2 he hkey hval hborn hrun hsz0
      by_cases hji : j = i
      · subst hji
        unfold errV at hnx hen
        go_wp2_with (go_at_call 39; refine (is_same _ _).mono ?_; rintro e w' ⟨rfl,rfl⟩)
        refine bodyPost_ret (v := fv (errNo j) 0) (by simp [results,Tryz.results22,go_sem,q0,q1,q2,q3,q4]; rfl) rfl ?_
        exact ⟨rfl,GX.out.set5 (Nat.le_refl _) _ _ _ _ _⟩
      · have HIO := hid (is_other (ad i) (ad j) (cs i) (cs j) (ts i) (ts j) wX (HS7.out.hne i j hi hj8 (fun e => hji e.symm)) (HAX.out i hi) (HAX.out j hj8))
        unfold errV at hnx hen
        go_wp2_with (go_at_call 39; refine HIO.out.mono ?_; rintro e w' ⟨rfl,rfl⟩)
        go_roundw
        case rel =>
          refine ⟨w2,seen.push e.born,HAL.out,HWX.out,fun x hx hc => ?_⟩
          rw [contains_push] at hc
          rcases Bool.or_eq_true _ _ ▸ hc with h1 | h1
          · exact HNO.out x hx h1
          · rw [beq_iff_eq.1 h1,HBO.out]
            exact hji
        case measure =>
          rw [HWX.out,← hsz2,World.iterSeen_alloc,hsz2,← hsz,World.iterSeen_alloc]
          exact left_shrinks (errEs ad) seen e HE.out
def RdT (s : ByteArray) (x : Ty) (ns : List (List UInt8)) : Prop :=
  s.size ≤ 300 ∧ ∃ s1,arrS (toksOf tyKw s) (s.size + 2) [] ⟨0,-1⟩ = some (x,ns,s1) ∧ s1.k < (toksOf tyKw s).length ∧ (needS (toksOf tyKw s) s1 kEnd).bad < 0 ∧ ∀ N m,TyOk N m x → tySize m x ≤ 120
theorem ty_have2 (s : ByteArray) : ∃ x ns s1,arrS (toksOf tyKw s) (s.size + 2) [] ⟨0,-1⟩ = some (x,ns,s1) ∧ s1.k < (toksOf tyKw s).length := by
  obtain ⟨f1,f2,f3⟩ := toks_facts tyKw s (s.size + 1) 0 (Nat.zero_le _) (by omega)
  have hlen := toksOf_len tyKw s
  exact arr_tot (T := toksOf tyKw s) f1 (s.size + 2) [] ⟨0,-1⟩ (by show (-1 : Int) < 0; omega) f1.1 (by show (toksOf tyKw s).length - 0 < s.size + 2; omega)
theorem read_t (s : ByteArray) (x : Ty) (ns : List (List UInt8)) (w : World) (ad : Nat → Addr) (cs : Nat → Array Value) (ts : Nat → TypeId) (S : SW w ad cs ts) (h : RdT s x ns) :
    Calls Tryz.prog 35 #[.string s] w fun e w' => w.grownBy w' none ∧ ∃ u H m,e = .returned (.tuple #[u,.nilIface]) ∧ Fz H w' ∧ QRep ns m H u x ∧ TyOk ns.length m x ∧ tySize m x ≤ 120 := by
  obtain ⟨hs,s1,hx,hk,hb,hsz⟩ := h
  refine (read_q s hs w _ x ns s1 hx hk (ad 4) S.g4 (Nat.lt_of_lt_of_le (by decide) S.hsz)).mono ?_
  rintro e w' ⟨g,(⟨hb',_⟩ | ⟨_,v,H',m,z1,r1,ok,(⟨hd,_⟩ | ⟨hd,rfl⟩)⟩)⟩
  · omega
  · exact absurd (hsz _ _ ok) (by omega)
  · exact ⟨g,v,H',m,rfl,z1,r1,ok,hd⟩
end Go.Proofs.YtcdijppegfcoaabGreatDoor
