import Derived.Test.YtcdijppegfcoaaaGreatDoorZT35
/-
  OUR OWN TEXT. Package typing: fun, apply.
-/
namespace Go.Proofs.YtcdijppegfcoaaaGreatDoor
open Go.RowKit
section
variable {C : TC} {H H' : Nat → Option Obj} {ca ca' : List Nat} {σ σ' : Sto} {d d' : Nat → Nat} {nb : List (List UInt8 × Et)} {nv : Value} {vs : List NE} {w w' : World}
theorem or_arrow {c1 c2 x y p : Nat} (e1 : ca[c1]? = some x) (e2 : ca[c2]? = some y) (hp : H p = some (.cells #[CI x, CI y] 293 (0, 0))) : ORep H ca (some ⟨kFun, [], 0, [cT c1, cT c2]⟩) (.iface 291 (.pointer (some ⟨p, 0, none⟩))) :=
  Or.inr ⟨_, rfl, (show kFun ≠ [] by decide), (show kFun ≠ oCell by decide), (fun k hk => by simp at hk; rcases hk with rfl | rfl <;> rfl), ⟨p, Or.inr (Or.inr (Or.inr (Or.inr (Or.inr ⟨rfl, Nat.zero_le _, cT c1, cT c2, _, _, rfl, rfl, hp, er_cell e1, er_cell e2⟩))))⟩⟩
theorem or_pair {c1 c2 x y p : Nat} (e1 : ca[c1]? = some x) (e2 : ca[c2]? = some y) (hp : H p = some (.cells #[CI x, CI y] 384 (0, 0))) : ORep H ca (some ⟨oPair, [], 0, [cT c1, cT c2]⟩) (.iface 361 (.pointer (some ⟨p, 0, none⟩))) :=
  Or.inr ⟨_, rfl, (show oPair ≠ [] by decide), (show oPair ≠ oCell by decide), (fun k hk => by simp at hk; rcases hk with rfl | rfl <;> rfl), ⟨p, Or.inr (Or.inr (Or.inr (Or.inr (Or.inl ⟨rfl, Nat.zero_le _, cT c1, cT c2, _, _, rfl, rfl, hp, er_cell e1, er_cell e2⟩))))⟩⟩
theorem or_int {p : Nat} (hp : H p = some (.cells #[.string (B kInt)] 348 (0, 0))) : ORep H ca (some ⟨kInt, [], 0, []⟩) (.iface 346 (.pointer (some ⟨p, 0, none⟩))) :=
  Or.inr ⟨_, rfl, by decide, by decide, (fun k hk => by cases hk), ⟨p, Or.inr (Or.inr (Or.inl ⟨Or.inl rfl, rfl, rfl, hp⟩))⟩⟩
theorem TSv.box (h : TSv C H ca σ d nb nv vs w) (cs : Array Value) (T : TypeId) : TSv C (onto1 H w.heap.size (.cells cs T (0, 0))) ca σ d nb nv vs (w.alloc (.cells cs T)) ∧ MX H (onto1 H w.heap.size (.cells cs T (0, 0))) ca ca w := by
  have hz : H w.heap.size = none := h.ms.cs.fz.none (Nat.le_refl _)
  have x : MX H (onto1 H w.heap.size (.cells cs T (0, 0))) ca ca w := ⟨onto1_ext hz, onto1_new (fun k o e => Or.inl e) (Nat.le_refl _), List.prefix_refl _, fun _ h => Or.inl h⟩
  have g : w.grownBy (w.alloc (.cells cs T)) none := World.grownBy_alloc _ _ _
  exact ⟨h.step ((h.ms.grown g).more (heap_alloc_new _ _) hz (fun hm => by have := InAs.lt h.ms.cs hm; omega) (by have := h.ms.bk.lt; omega)) x (Gb.new g), x⟩
theorem TSv.made {nd : Et} {v : Value} {c : Nat} {cs : Array Value} {T : TypeId} (h : TSv C H ca σ d nb nv vs w) (ho : ORep (onto1 H w.heap.size (.cells cs T (0, 0))) ca (some nd) v) (hr : ofT (some nd) σ = some (σ', c)) :
    Calls Tryz.prog 211 #[CP C.tb, v] (w.alloc (.cells cs T)) (TSP C H ca σ' c nb w) := by
  have g : w.grownBy (w.alloc (.cells cs T)) none := World.grownBy_alloc _ _ _
  obtain ⟨t1, x1⟩ := h.box cs T
  refine (t1.of ho hr).mono ?_
  rintro e w' ⟨a, rfl, e1, t2, x2, g2⟩
  exact ⟨_, _, d, a, nv, vs, rfl, e1, t2, x1.trans x2 g.size, (Gb.new g).tr g2⟩
end
set_option maxRecDepth 100000 in
set_option maxHeartbeats 2000000 in
theorem fun_t {C : TC} {P : Ex → List (List UInt8 × Et) → Sto → Option (Sto × Nat)} (hP : PAC C P) {e : Ex} {u dep : Value} {p : List UInt8} {b m : Nat} {σ : Sto} {nb : List (List UInt8 × Et)} {σ' : Sto} {c : Nat} {H : Nat → Option Obj} {ca : List Nat} {d : Nat → Nat} {nv : Value} {vs : List NE} {w : World}
    (hb : H b = some (.cells #[dep, .string (B p), u] 196 (0, 0))) (hp : PRep m H u e) (hr : funT P p e nb σ = some (σ', c)) (h : TSv C H ca σ d nb nv vs w) :
    Calls Tryz.prog 205 #[CP C.tb, .pointer (some ⟨b, 0, none⟩)] w (TSP C H ca σ' c nb w) := by
  unfold funT at hr
  cases e1 : ofT none σ with
  | none => rw [e1] at hr; cases hr
  | some r1 =>
  obtain ⟨σ1, c0⟩ := r1
  rw [e1] at hr
  simp only [] at hr
  split at hr
  case isFalse => cases hr
  rename_i hl
  cases e2 : P e (nb ++ [(p, cT c0)]) σ1 with
  | none => rw [e2] at hr; cases hr
  | some r2 =>
  obtain ⟨σ2, c2⟩ := r2
  rw [e2] at hr
  simp only [] at hr
  obtain ⟨T0, b0, rfl⟩ := hp.val
  have CO := hid (h.of (o := none) (Or.inl ⟨rfl, rfl⟩) e1)
  have Q := hid (And.intro hb (And.intro hp (And.intro hr (And.intro e2 (And.intro hl hP)))))
  have hfz := h.ms.cs.fz
  have hbw := hfz _ _ hb
  have hbl := lt_of_block hbw
  have hbt : b ≠ C.tb := fun e => by rw [e] at hb; rw [h.ms.ht] at hb; cases hb
  have hba : ¬ InAs ca b := fun hm => by rw [h.ms.cs.off b hm] at hb; cases hb
  clear hr hp hb e2 hl hP h hfz e1
  unfold CP at *
  go_enter Tryz.func205, Tryz.ntmps205
  go_wp2_with fail
  refine CO.out.mono ?_
  rintro e w1 ⟨x0, rfl, ex0, t1, mx1, g1⟩
  have hb1 : w1.heap[b]? = some (.cells #[dep, .string (B p), .iface T0 (.pointer (some ⟨b0, 0, none⟩))] 196 (0, 0)) := t1.ms.cs.fz _ _ Q.out.1
  have k1 := blk_c hb1 1 rfl
  have k2 := blk_c hb1 2 rfl
  have hl1 := lt_of_block hb1
  have gW : w1.grownBy (w1.alloc (.cells #[.string (B p), CI x0] 403)).drew none := grown_drew (World.grownBy_alloc _ _ _)
  have CW := hid (within_t (nbs := [(p, cT c0)]) (nws := [((p, 265, x0) : List UInt8 × TypeId × Nat)]) (gm := w1.heap.size) (capm := 1) Q.out.2.2.2.2.2 Q.out.2.1 Q.out.2.2.2.1 (t1.grown gW) rfl (Nat.zero_lt_succ _) (show nb.length + 1 ≤ 1000 by have := Q.out.2.2.2.2.1; omega) (World.news_of_block (w := (w1.alloc (.cells #[.string (B p), CI x0] 403)).drew) (heap_alloc_new w1 _)) (fun i p' q e1 e2 => by
      cases i with
      | zero => cases e1; cases e2; exact ⟨rfl, 1, er_cell ex0⟩
      | succ i => cases e1))
  have E0 := hid (And.intro ex0 (And.intro mx1 (And.intro g1 gW)))
  clear ex0 t1 mx1 g1 CO gW
  unfold CI CP at *
  go_wp2_with fail
  go_region_with (go_at_call 208; refine CW.out.mono ?_; rintro e w3 ⟨H3, ca3, d3, x2, nv3, vs3, rfl, ex2, t3, mx3, g3⟩; have Q3 := hid (And.intro ex2 (And.intro t3 (And.intro mx3 g3))); clear ex2 t3 mx3 g3; unfold CP at *)
  all_goals
    obtain ⟨ex2, t3, mx3, g3⟩ := Q3.out
    have CM := hid ((t3.made (cs := #[CI x0, CI x2]) (T := 293) (or_arrow (get_pre mx3.pre E0.out.1) ex2 onto1_at) Q.out.2.2.1).mono fun e w9 h9 => TSP.low (H := H) (ca := ca) (w := w) h9 ((E0.out.2.1.trans mx3 (Nat.le_trans E0.out.2.2.1.size E0.out.2.2.2.size))) ((E0.out.2.2.1.tr (Gb.new E0.out.2.2.2)).tr g3))
    clear ex2 t3 mx3 g3 Q3 CW E0
    unfold CI CP at *
    go_wp2_with fail
    refine CM.out.mono ?_
    rintro e w9 h9
    have H9 := hid h9
    obtain ⟨_, _, _, x9, _, _, rfl, _⟩ := h9
    clear CM
    unfold CP at *
    go_wp2
    go_ret
    exact H9.out
end Go.Proofs.YtcdijppegfcoaaaGreatDoor

/-
  OUR OWN TEXT. Package typing: apply.
-/
namespace Go.Proofs.YtcdijppegfcoaaaGreatDoor
open Go.RowKit
set_option maxRecDepth 100000 in
set_option maxHeartbeats 2000000 in
theorem apply_t {C : TC} {P : Ex → List (List UInt8 × Et) → Sto → Option (Sto × Nat)} (hP : PAC C P) {e1 e2 : Ex} {u1 u2 dep : Value} {b m : Nat} {σ : Sto} {nb : List (List UInt8 × Et)} {σ' : Sto} {c : Nat} {H : Nat → Option Obj} {ca : List Nat} {d : Nat → Nat} {nv : Value} {vs : List NE} {w : World}
    (hb : H b = some (.cells #[dep, u1, u2] 213 (0, 0))) (hp1 : PRep m H u1 e1) (hp2 : PRep m H u2 e2) (hr : applyT P e1 e2 nb σ = some (σ', c)) (h : TSv C H ca σ d nb nv vs w) :
    Calls Tryz.prog 210 #[CP C.tb, .pointer (some ⟨b, 0, none⟩)] w (TSP C H ca σ' c nb w) := by
  unfold applyT at hr
  cases i1 : P e1 nb σ with
  | none => rw [i1] at hr; cases hr
  | some r1 =>
  obtain ⟨σ1, c1⟩ := r1
  rw [i1] at hr
  simp only [] at hr
  cases i2 : P e2 nb σ1 with
  | none => rw [i2] at hr; cases hr
  | some r2 =>
  obtain ⟨σ2, c2⟩ := r2
  rw [i2] at hr
  simp only [] at hr
  cases i3 : ofT none σ2 with
  | none => rw [i3] at hr; cases hr
  | some r3 =>
  obtain ⟨σ3, c3⟩ := r3
  rw [i3] at hr
  simp only [] at hr
  cases i4 : ofT (some ⟨kFun, [], 0, [cT c2, cT c3]⟩) σ3 with
  | none => rw [i4] at hr; cases hr
  | some r4 =>
  obtain ⟨σ4, c4⟩ := r4
  rw [i4] at hr
  simp only [] at hr
  cases i5 : equalS c1 c4 σ4 with
  | none => rw [i5] at hr; cases hr
  | some r5 =>
  cases r5 with
  | none => rw [i5] at hr; cases hr
  | some σ5 =>
  rw [i5] at hr
  cases hr
  obtain ⟨T1, b1, rfl⟩ := hp1.val
  obtain ⟨T2, b2, rfl⟩ := hp2.val
  have CA := hid (hP e1 _ m σ nb σ1 c1 H ca d nv vs w hp1 i1 h)
  have hbw := h.ms.cs.fz _ _ hb
  have k1 := blk_c hbw 1 rfl
  have Q := hid (And.intro hb (And.intro hp2 (And.intro i2 (And.intro i3 (And.intro i4 (And.intro i5 hP))))))
  clear hP hb hp1 hp2 i1 i2 i3 i4 i5 h hbw
  unfold CP at *
  go_enter Tryz.func210, Tryz.ntmps210
  go_wp2_with fail
  refine CA.out.mono ?_
  rintro e w1 ⟨H1, ca1, d1, x1, nv1, vs1, rfl, ex1, t1, mx1, g1⟩
  have hb1 := mx1.ext _ _ Q.out.1
  have hbw1 := t1.ms.cs.fz _ _ hb1
  have k2 := blk_c hbw1 2 rfl
  have CB := hid (Q.out.2.2.2.2.2.2 e2 _ m σ1 nb σ2 c2 H1 ca1 d1 nv1 vs1 w1 (mx1.prep Q.out.2.1) Q.out.2.2.1 t1)
  have Q1 := hid (And.intro ex1 (And.intro mx1 g1))
  clear ex1 t1 mx1 g1 CA hb1 hbw1
  unfold CP at *
  go_wp2_with fail
  refine CB.out.mono ?_
  rintro e w2 ⟨H2, ca2, d2, x2, nv2, vs2, rfl, ex2, t2, mx2, g2⟩
  have CO := hid (t2.of (o := none) (Or.inl ⟨rfl, rfl⟩) Q.out.2.2.2.1)
  have Q2 := hid (And.intro (get_pre mx2.pre Q1.out.1) (And.intro ex2 (And.intro (Q1.out.2.1.trans mx2 Q1.out.2.2.size) (Q1.out.2.2.tr g2))))
  clear ex2 t2 mx2 g2 CB Q1
  unfold CP at *
  go_wp2_with fail
  refine CO.out.mono ?_
  rintro e w3 ⟨x3, rfl, ex3, t3, mx3, g3⟩
  have CM := hid (t3.made (cs := #[CI x2, CI x3]) (T := 293) (or_arrow (get_pre mx3.pre Q2.out.2.1) ex3 onto1_at) Q.out.2.2.2.2.1)
  have Q3 := hid (And.intro (get_pre mx3.pre Q2.out.1) (And.intro ex3 (And.intro (Q2.out.2.2.1.trans mx3 Q2.out.2.2.2.size) (Q2.out.2.2.2.tr g3))))
  clear ex3 t3 mx3 g3 CO Q2
  unfold CI CP at *
  go_wp2_with fail
  refine CM.out.mono ?_
  rintro e w4 ⟨H4, ca4, d4, x4, nv4, vs4, rfl, ex4, t4, mx4, g4⟩
  have CE := hid (equal_t t4 (get_pre mx4.pre Q3.out.1) ex4 Q.out.2.2.2.2.2.1)
  have Q4 := hid (And.intro (get_pre mx4.pre Q3.out.2.1) (And.intro (Q3.out.2.2.1.trans mx4 Q3.out.2.2.2.size) (Q3.out.2.2.2.tr g4)))
  clear ex4 t4 mx4 g4 CM Q3
  unfold CP at *
  go_wp2_with fail
  refine CE.out.mono ?_
  rintro e w5 ⟨⟨z, rfl⟩, ⟨d5, t5⟩, g5⟩
  have Q5 := hid (show TSP C H ca σ' c nb w (.returned (CP x3)) w5 from ⟨H4, ca4, d5, x3, nv4, vs4, rfl, Q4.out.1, t5, Q4.out.2.1, Q4.out.2.2.tr g5⟩)
  clear t5 g5 CE Q4
  unfold CP at *
  go_wp2
  go_ret
  exact Q5.out
end Go.Proofs.YtcdijppegfcoaaaGreatDoor

/-
  OUR OWN TEXT. Package typing: find, by kind.
-/
namespace Go.Proofs.YtcdijppegfcoaaaGreatDoor
open Go.RowKit
theorem xA_Name_Name (b : Nat) (w : World) : (Instr.typeAssert (.iface 186 (.pointer (some ⟨b, 0, none⟩))) 130 186 true).run Tryz.prog w = .ok (.tuple #[.pointer (some ⟨b, 0, none⟩), .bool true]) w := by kernel_rfl
theorem xA_Fun_Name (b : Nat) (w : World) : (Instr.typeAssert (.iface 194 (.pointer (some ⟨b, 0, none⟩))) 130 186 true).run Tryz.prog w = .ok (.tuple #[.pointer none, .bool false]) w := by kernel_rfl
theorem xA_Fun_Fun (b : Nat) (w : World) : (Instr.typeAssert (.iface 194 (.pointer (some ⟨b, 0, none⟩))) 130 194 true).run Tryz.prog w = .ok (.tuple #[.pointer (some ⟨b, 0, none⟩), .bool true]) w := by kernel_rfl
theorem xA_Apply_Name (b : Nat) (w : World) : (Instr.typeAssert (.iface 211 (.pointer (some ⟨b, 0, none⟩))) 130 186 true).run Tryz.prog w = .ok (.tuple #[.pointer none, .bool false]) w := by kernel_rfl
theorem xA_Apply_Fun (b : Nat) (w : World) : (Instr.typeAssert (.iface 211 (.pointer (some ⟨b, 0, none⟩))) 130 194 true).run Tryz.prog w = .ok (.tuple #[.pointer none, .bool false]) w := by kernel_rfl
theorem xA_Apply_If (b : Nat) (w : World) : (Instr.typeAssert (.iface 211 (.pointer (some ⟨b, 0, none⟩))) 130 197 true).run Tryz.prog w = .ok (.tuple #[.pointer none, .bool false]) w := by kernel_rfl
theorem xA_Apply_Let (b : Nat) (w : World) : (Instr.typeAssert (.iface 211 (.pointer (some ⟨b, 0, none⟩))) 130 200 true).run Tryz.prog w = .ok (.tuple #[.pointer none, .bool false]) w := by kernel_rfl
theorem xA_Apply_LetRec (b : Nat) (w : World) : (Instr.typeAssert (.iface 211 (.pointer (some ⟨b, 0, none⟩))) 130 206 true).run Tryz.prog w = .ok (.tuple #[.pointer none, .bool false]) w := by kernel_rfl
theorem xA_Apply_Apply (b : Nat) (w : World) : (Instr.typeAssert (.iface 211 (.pointer (some ⟨b, 0, none⟩))) 130 211 true).run Tryz.prog w = .ok (.tuple #[.pointer (some ⟨b, 0, none⟩), .bool true]) w := by kernel_rfl
theorem xA_Pair_Name (b : Nat) (w : World) : (Instr.typeAssert (.iface 214 (.pointer (some ⟨b, 0, none⟩))) 130 186 true).run Tryz.prog w = .ok (.tuple #[.pointer none, .bool false]) w := by kernel_rfl
theorem xA_Pair_Fun (b : Nat) (w : World) : (Instr.typeAssert (.iface 214 (.pointer (some ⟨b, 0, none⟩))) 130 194 true).run Tryz.prog w = .ok (.tuple #[.pointer none, .bool false]) w := by kernel_rfl
theorem xA_Pair_If (b : Nat) (w : World) : (Instr.typeAssert (.iface 214 (.pointer (some ⟨b, 0, none⟩))) 130 197 true).run Tryz.prog w = .ok (.tuple #[.pointer none, .bool false]) w := by kernel_rfl
theorem xA_Pair_Let (b : Nat) (w : World) : (Instr.typeAssert (.iface 214 (.pointer (some ⟨b, 0, none⟩))) 130 200 true).run Tryz.prog w = .ok (.tuple #[.pointer none, .bool false]) w := by kernel_rfl
theorem xA_Pair_LetRec (b : Nat) (w : World) : (Instr.typeAssert (.iface 214 (.pointer (some ⟨b, 0, none⟩))) 130 206 true).run Tryz.prog w = .ok (.tuple #[.pointer none, .bool false]) w := by kernel_rfl
theorem xA_Pair_Apply (b : Nat) (w : World) : (Instr.typeAssert (.iface 214 (.pointer (some ⟨b, 0, none⟩))) 130 211 true).run Tryz.prog w = .ok (.tuple #[.pointer none, .bool false]) w := by kernel_rfl
theorem xA_Pair_Pair (b : Nat) (w : World) : (Instr.typeAssert (.iface 214 (.pointer (some ⟨b, 0, none⟩))) 130 214 true).run Tryz.prog w = .ok (.tuple #[.pointer (some ⟨b, 0, none⟩), .bool true]) w := by kernel_rfl
end Go.Proofs.YtcdijppegfcoaaaGreatDoor
