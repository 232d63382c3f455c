import Derived.Test.YtcdijppegfcoaabGreatDoorMF
/-
  OUR OWN TEXT. The law Renamed: where the first text is no type.
-/
namespace Go.Proofs.YtcdijppegfcoaabGreatDoor
open Go.RowKit

set_option maxRecDepth 100000 in
set_option maxHeartbeats 8000000 in
theorem ren_f (s1 s2 s3 : ByteArray) (a b : Int) (w : World) (ad : Nat → Addr) (cs : Nat → Array Value) (ts : Nat → TypeId) (S : SW w ad cs ts) (h : RdF s1 a b) (ha : 0 < a) :
    Calls Tryz.prog 3 #[.string s1, .string s2, .string s3] w fun e w' => e = .returned (.bool true) ∧ Gn w w' := by
  have HQ := hid (pc_t (B [113, 32, 45, 62, 32, 113]) _ _ 2 w ad cs ts S rd_qq (Or.inr (Or.inr (Or.inr ⟨Or.inr rfl, rfl, _, _, rfl, Or.inl ⟨rfl, by decide, rfl⟩, Or.inl ⟨rfl, by decide, rfl⟩⟩))))
  rw [show ([[113]] : List (List UInt8)).length = 1 from rfl, qq_text] at HQ
  have SH := hid S
  have HF := hid h
  clear S h
  go_enter Tryz.func3, Tryz.ntmps3
  go_wp2_with fail
  refine HQ.out.mono ?_
  rintro e w1 ⟨rfl, g1⟩
  have G1 := hid g1
  have C1 := hid (fun (W : World) (hW : Gn w W) => pc_f s1 a b W ad cs ts (SH.out.gn hW) HF.out)
  clear g1 HQ
  have tQ : (B [97, 32, 45, 62, 32, 97]).toList = [97, 32, 45, 62, 32, 97] := toList_B _
  have tN : (B []).toList = [] := toList_B _
  unfold fv
  go_wp2_with fail
  refine (C1.out _ (G1.out.trans (Gn.of (World.grownBy_alloc _ _ _)))).mono ?_
  rintro e w2 ⟨rfl, g2⟩
  have G2 := hid ((G1.out.trans (Gn.of (World.grownBy_alloc _ _ _))).trans g2)
  have ha0 : ¬ a = 0 := by omega
  clear g2 C1
  unfold fv
  go_wp2
  go_ret
  exact ⟨rfl, G2.out.trans (Gn.of (World.grownBy_alloc _ _ _))⟩
end Go.Proofs.YtcdijppegfcoaabGreatDoor

/-
  OUR OWN TEXT. The law Renamed: where the one text of the first is too long.
-/
namespace Go.Proofs.YtcdijppegfcoaabGreatDoor
open Go.RowKit

set_option maxRecDepth 100000 in
set_option maxHeartbeats 16000000 in
theorem ren_long (s1 s2 s3 : ByteArray) (x : Ty) (ns : List (List UInt8)) (m : Nat) (w : World) (ad : Nat → Addr) (cs : Nat → Array Value) (ts : Nat → TypeId) (S : SW w ad cs ts) (h : RdT s1 x ns) (ok : TyOk ns.length m x) (hl : 300 < (tyText m (lettersS ns.length) x).length) (hl2 : (tyText m (lettersS ns.length) x).length ≤ 100000) :
    Calls Tryz.prog 3 #[.string s1, .string s2, .string s3] w fun e w' => e = .returned (.bool true) ∧ Gn w w' := by
  have HQ := hid (pc_t (B [113, 32, 45, 62, 32, 113]) _ _ 2 w ad cs ts S rd_qq (Or.inr (Or.inr (Or.inr ⟨Or.inr rfl, rfl, _, _, rfl, Or.inl ⟨rfl, by decide, rfl⟩, Or.inl ⟨rfl, by decide, rfl⟩⟩))))
  rw [show ([[113]] : List (List UInt8)).length = 1 from rfl, qq_text] at HQ
  obtain ⟨C, hC⟩ : ∃ C, C = tyText m (lettersS ns.length) x := ⟨_, rfl⟩
  have C1 := hid (fun (W : World) (hW : Gn w W) => pc_t s1 x ns m W ad cs ts (S.gn hW) h ok)
  rw [← hC] at hl hl2 C1
  have hF : RdF (B C) 1 0 := Or.inl ⟨by rw [size_B]; exact hl, rfl, rfl⟩
  have C2 := hid (fun (W : World) (hW : Gn w W) => pc_f (B C) 1 0 W ad cs ts (S.gn hW) hF)
  have C3 := hid (fun (W : World) (hW : Gn w W) => pi_f2 s1 (B C) x ns 1 0 W ad cs ts (S.gn hW) h hF)
  have C4 := hid (fun (W : World) (hW : Gn w W) => pi_f1 (B C) s1 1 0 W ad cs ts (S.gn hW) hF)
  have hsz : (B C).size = C.length := size_B C
  have tQ : (B [97, 32, 45, 62, 32, 97]).toList = [97, 32, 45, 62, 32, 97] := toList_B _
  clear S h ok hC hF
  go_enter Tryz.func3, Tryz.ntmps3
  go_wp2_with fail
  refine HQ.out.mono ?_
  rintro e w1 ⟨rfl, g1⟩
  have G1 := hid (g1.trans (Gn.of (World.grownBy_alloc w1 (.cells #[.int .i64 0, .int .i64 0, .string (B []), .int .i64 0, .int .i64 0] 23) none)))
  clear g1 HQ
  unfold fv
  go_wp2_with fail
  refine (C1.out _ G1.out).mono ?_
  rintro e w2 ⟨rfl, g2⟩
  have G2 := hid ((G1.out.trans g2).trans (Gn.of (World.grownBy_alloc w2 (.cells #[.int .i64 0, .int .i64 0, .string (B []), .int .i64 0, .int .i64 0] 23) none)))
  have l2 : w.heap.size ≤ w2.heap.size := (G1.out.trans g2).size
  clear g2 C1
  unfold fv
  go_wp2_with fail
  refine (C2.out _ G2.out).mono ?_
  rintro e w3 ⟨rfl, g3⟩
  have n3 : w3.heap[w2.heap.size]? = some (.cells #[.int .i64 0, .int .i64 0, .string (B []), .int .i64 0, .int .i64 0] 23 (0, 0)) := by
    rw [g3.block _ (by simp)]
    exact heap_alloc_new _ _
  obtain ⟨⟨q0, q1, q2, q3, q4⟩, f0, f1, f2, f3, f4⟩ := five_c n3
  have G3 := hid (G2.out.trans g3)
  clear g3 C2
  unfold fv
  go_wp2_with fail
  obtain ⟨wz, hwz⟩ : ∃ wz, wz = ((((w3.setCell ⟨w2.heap.size, 0, none⟩ (.int .i64 1)).setCell ⟨w2.heap.size, 1, none⟩ (.int .i64 0)).setCell ⟨w2.heap.size, 2, none⟩ (.string (B []))).setCell ⟨w2.heap.size, 3, none⟩ (.int .i64 0)).setCell ⟨w2.heap.size, 4, none⟩ (.int .i64 0) := ⟨_, rfl⟩
  rw [← hwz]
  have GZ := hid (show Gn w wz by rw [hwz]; exact G3.out.set5 l2 _ _ _ _ _)
  clear q0 q1 q2 q3 q4 f0 f1 f2 f3 f4 hwz n3
  refine (C3.out _ GZ.out).mono ?_
  rintro e w4 ⟨rfl, g4⟩
  have G4 := hid ((GZ.out.trans g4).trans (Gn.of (World.grownBy_alloc w4 (.cells #[.int .i64 1, .int .i64 0, .string (B []), .int .i64 0, .int .i64 0] 23) none)))
  clear g4 C3
  unfold fv
  go_wp2_with fail
  refine (C4.out _ G4.out).mono ?_
  rintro e w5 ⟨rfl, g5⟩
  have G5 := hid ((G4.out.trans g5).trans (Gn.of (World.grownBy_alloc w5 (.cells #[.int .i64 1, .int .i64 0, .string (B []), .int .i64 0, .int .i64 0] 23) none)))
  clear g5 C4
  have hl' : ¬ ((C.length : Int) ≤ 300) := by omega
  unfold fv
  go_wp2
  go_ret
  exact ⟨rfl, G5.out⟩
end Go.Proofs.YtcdijppegfcoaabGreatDoor

/-
  OUR OWN TEXT. The law Renamed: where all texts are types.
-/
namespace Go.Proofs.YtcdijppegfcoaabGreatDoor
open Go.RowKit

def flt0 : Obj := .cells #[.int .i64 0, .int .i64 0, .string (B []), .int .i64 0, .int .i64 0] 23 (0, 0)
/-- How far the law has come: both instances are found; the three faults' blocks. -/
structure Ren1 (w W : World) (n2 n4 n5 : Nat) : Prop where
  g : Gn w W
  b2 : W.heap[n2]? = some flt0
  b4 : W.heap[n4]? = some flt0
  b5 : W.heap[n5]? = some flt0
  l2 : w.heap.size ≤ n2
  l24 : n2 < n4
  l45 : n4 < n5
theorem self_nil (M : Nat) (nb : List (List UInt8)) (k : Nat) : SelfG M nb (List.replicate k none) := fun v t h => by
  rw [List.getD_eq_getElem?_getD] at h
  cases e : (List.replicate k (none : Option (List UInt8)))[v]? with
  | none => rw [e] at h; cases h
  | some o => rw [e, List.eq_of_mem_replicate (List.mem_of_getElem? e)] at h; cases h
theorem sortS_len (l : List (List UInt8)) : (sortS l).length = l.length := by
  unfold sortS
  exact List.length_mergeSort _
/-- What Canon answers, and what it means. -/
def CanOk (s : ByteArray) (T : List UInt8) : Prop := ∃ x ns m, RdT s x ns ∧ TyOk ns.length m x ∧ tyVars m x [] = List.range ns.length ∧ ns.length ≤ 120 ∧ tySize m x ≤ 120 ∧ T = tyText m (lettersS ns.length) x
theorem can_gen (s : ByteArray) (ad : Nat → Addr) (cs : Nat → Array Value) (ts : Nat → TypeId) : ∃ T a b, (∀ W, SW W ad cs ts → Calls Tryz.prog 8 #[.string s] W fun e w' => e = .returned (.tuple #[.string (B T), fv a b]) ∧ Gn W w') ∧ (0 < a ∨ (a = 0 ∧ CanOk s T)) := by
  rcases rd_cases s with ⟨a, b, h, ha⟩ | ⟨x, ns, h⟩
  · exact ⟨[], a, b, fun W S => pc_f s a b W ad cs ts S h, Or.inl ha⟩
  · obtain ⟨m, ok, hz, hv, hn⟩ := h.order
    exact ⟨_, 0, 0, fun W S => pc_t s x ns m W ad cs ts S h ok, Or.inr ⟨rfl, x, ns, m, h, ok, hv, hn, hz, rfl⟩⟩
theorem set5_far {w3 : World} {fb k : Nat} {o : Obj} (h : w3.heap[k]? = some o) (hk : k ≠ fb) (v0 v1 v2 v3 v4 : Value) : (((((w3.setCell ⟨fb, 0, none⟩ v0).setCell ⟨fb, 1, none⟩ v1).setCell ⟨fb, 2, none⟩ v2).setCell ⟨fb, 3, none⟩ v3).setCell ⟨fb, 4, none⟩ v4).heap[k]? = some o := by
  rw [Below.heap_setCell _ _ _ _ hk, Below.heap_setCell _ _ _ _ hk, Below.heap_setCell _ _ _ _ hk, Below.heap_setCell _ _ _ _ hk, Below.heap_setCell _ _ _ _ hk]
  exact h
def fltO (a b : Int) : Obj := .cells #[.int .i64 a, .int .i64 b, .string (B []), .int .i64 0, .int .i64 0] 23 (0, 0)
set_option maxRecDepth 100000 in
set_option maxHeartbeats 16000000 in
theorem ren_short (s1 s2 s3 : ByteArray) (x : Ty) (ns : List (List UInt8)) (m : Nat) (w : World) (ad : Nat → Addr) (cs : Nat → Array Value) (ts : Nat → TypeId) (S : SW w ad cs ts) (h : RdT s1 x ns) (ok : TyOk ns.length m x) (hv : tyVars m x [] = List.range ns.length) (hn : ns.length ≤ 120) (hz : tySize m x ≤ 120) (hl : (tyText m (lettersS ns.length) x).length ≤ 300) :
    Calls Tryz.prog 3 #[.string s1, .string s2, .string s3] w fun e w' => e = .returned (.bool true) ∧ Gn w w' := by
  have HQ := hid (pc_t (B [113, 32, 45, 62, 32, 113]) _ _ 2 w ad cs ts S rd_qq (Or.inr (Or.inr (Or.inr ⟨Or.inr rfl, rfl, _, _, rfl, Or.inl ⟨rfl, by decide, rfl⟩, Or.inl ⟨rfl, by decide, rfl⟩⟩))))
  rw [show ([[113]] : List (List UInt8)).length = 1 from rfl, qq_text] at HQ
  have hR := read_letters (by omega) ok hv hl hz
  obtain ⟨C, hC⟩ : ∃ C, C = tyText m (lettersS ns.length) x := ⟨_, rfl⟩
  have C1 := hid (fun (W : World) (hW : Gn w W) => pc_t s1 x ns m W ad cs ts (S.gn hW) h ok)
  have ok2 : TyOk (lettersS ns.length).length m x := by rw [letters_len]; exact ok
  rw [← hC] at hl C1 hR
  have C2 := hid (fun (W : World) (hW : Gn w W) => pc_t (B C) x (lettersS ns.length) m W ad cs ts (S.gn hW) hR ok2)
  rw [letters_len, ← hC] at C2
  obtain ⟨g3, hg3, _⟩ := match_self _ m x (List.replicate ns.length none) ok (self_nil m (lettersS ns.length) ns.length)
  obtain ⟨g4, hg4, _⟩ := match_self _ m x (List.replicate (lettersS ns.length).length none) ok (self_nil m ns (lettersS ns.length).length)
  have C3 := hid (fun (W : World) (hW : Gn w W) => pi_t s1 (B C) x x ns (lettersS ns.length) m m _ _ W ad cs ts (S.gn hW) h hR ok ok g3 hg3)
  have C4 := hid (fun (W : World) (hW : Gn w W) => pi_t (B C) s1 x x (lettersS ns.length) ns m m _ _ W ad cs ts (S.gn hW) hR h ok ok g4 hg4)
  have e3 : (sortS ns).length = ns.length := sortS_len _
  have e4 : (sortS (lettersS ns.length)).length = ns.length := by rw [sortS_len, letters_len]
  have hsz : (B C).size = C.length := size_B C
  have tQ : (B [97, 32, 45, 62, 32, 97]).toList = [97, 32, 45, 62, 32, 97] := toList_B _
  have SH := hid S
  clear S h ok hC hR ok2 hg3 hg4 hv hz
  go_enter Tryz.func3, Tryz.ntmps3
  go_wp2_with fail
  refine HQ.out.mono ?_
  rintro e w1 ⟨rfl, g1⟩
  have G1 := hid (g1.trans (Gn.of (World.grownBy_alloc w1 (.cells #[.int .i64 0, .int .i64 0, .string (B []), .int .i64 0, .int .i64 0] 23) none)))
  clear g1 HQ
  unfold fv
  go_wp2_with fail
  refine (C1.out _ G1.out).mono ?_
  rintro e w2 ⟨rfl, g2⟩
  have G2 := hid ((G1.out.trans g2).trans (Gn.of (World.grownBy_alloc w2 (.cells #[.int .i64 0, .int .i64 0, .string (B []), .int .i64 0, .int .i64 0] 23) none)))
  have l2 : w.heap.size ≤ w2.heap.size := (G1.out.trans g2).size
  clear g2 C1
  unfold fv
  go_wp2_with fail
  refine (C2.out _ G2.out).mono ?_
  rintro e w3 ⟨rfl, g3'⟩
  have n3 : w3.heap[w2.heap.size]? = some (.cells #[.int .i64 0, .int .i64 0, .string (B []), .int .i64 0, .int .i64 0] 23 (0, 0)) := by
    rw [g3'.block _ (by simp)]
    exact heap_alloc_new _ _
  have hl3 := lt_of_block n3
  obtain ⟨⟨q0, q1, q2, q3, q4⟩, f0, f1, f2, f3, f4⟩ := five_c n3
  have G3 := hid (G2.out.trans g3')
  have N3 := hid n3
  clear g3' C2
  unfold fv
  go_wp2_with fail
  obtain ⟨wz, hwz⟩ : ∃ wz, wz = ((((w3.setCell ⟨w2.heap.size, 0, none⟩ (.int .i64 0)).setCell ⟨w2.heap.size, 1, none⟩ (.int .i64 0)).setCell ⟨w2.heap.size, 2, none⟩ (.string (B []))).setCell ⟨w2.heap.size, 3, none⟩ (.int .i64 0)).setCell ⟨w2.heap.size, 4, none⟩ (.int .i64 0) := ⟨_, rfl⟩
  rw [← hwz]
  have GZ := hid (show Gn w wz by rw [hwz]; exact G3.out.set5 l2 _ _ _ _ _)
  have NZ := hid (show wz.heap[w2.heap.size]? = some flt0 by rw [hwz]; exact set5_blk N3.out _ _ _ _ _)
  clear q0 q1 q2 q3 q4 f0 f1 f2 f3 f4 hwz n3
  refine (C3.out _ GZ.out).mono ?_
  rintro e w4 ⟨g4', vn, vt, rfl, hrow, _⟩
  obtain ⟨ao, cp, rfl, _⟩ := own_view hrow
  rw [e3]
  have b42 : w4.heap[w2.heap.size]? = some flt0 := by rw [g4'.block _ (lt_of_block NZ.out)]; exact NZ.out
  have hl4 := lt_of_block b42
  have G4 := hid ((GZ.out.trans g4').trans (Gn.of (World.grownBy_alloc w4 (.cells #[.int .i64 0, .int .i64 0, .string (B []), .int .i64 0, .int .i64 0] 23) none)))
  have B42 := hid b42
  clear g4' C3 hrow b42
  unfold fv
  go_wp2_with fail
  refine (C4.out _ G4.out).mono ?_
  rintro e w5 ⟨g5, vn5, vt5, rfl, hrow, _⟩
  obtain ⟨ao5, cp5, rfl, _⟩ := own_view hrow
  rw [e4]
  have b52 : w5.heap[w2.heap.size]? = some flt0 := by rw [g5.block _ (by simp; omega), Below.heap_alloc _ _ _ hl4]; exact B42.out
  have b54 : w5.heap[w4.heap.size]? = some flt0 := by rw [g5.block _ (by simp)]; exact heap_alloc_new _ _
  have hl5 := lt_of_block b54
  have b2 : (w5.alloc (.cells #[.int .i64 0, .int .i64 0, .string (B []), .int .i64 0, .int .i64 0] 23)).heap[w2.heap.size]? = some flt0 := by rw [Below.heap_alloc _ _ _ (by omega)]; exact b52
  have b4 : (w5.alloc (.cells #[.int .i64 0, .int .i64 0, .string (B []), .int .i64 0, .int .i64 0] 23)).heap[w4.heap.size]? = some flt0 := by rw [Below.heap_alloc _ _ _ hl5]; exact b54
  have b5 : (w5.alloc (.cells #[.int .i64 0, .int .i64 0, .string (B []), .int .i64 0, .int .i64 0] 23)).heap[w5.heap.size]? = some flt0 := heap_alloc_new _ _
  have R := hid (Ren1.mk ((G4.out.trans g5).trans (Gn.of (World.grownBy_alloc w5 _ none))) b2 b4 b5 l2 hl4 hl5)
  obtain ⟨⟨q0, _⟩, _⟩ := five_c b2
  obtain ⟨⟨p0, _⟩, _⟩ := five_c b4
  clear g5 C4 hrow b52 b54 b2 b4 b5 NZ B42 N3 GZ
  have hl' : (C.length : Int) ≤ 300 := by omega
  unfold fv
  go_wp2_with fail
  obtain ⟨W5, hW5⟩ : ∃ W5, W5 = w5.alloc (.cells #[.int .i64 0, .int .i64 0, .string (B []), .int .i64 0, .int .i64 0] 23) := ⟨_, rfl⟩
  rw [← hW5] at R q0 p0 ⊢
  obtain ⟨n2, hn2⟩ : ∃ n2, n2 = w2.heap.size := ⟨_, rfl⟩
  obtain ⟨n4, hn4⟩ : ∃ n4, n4 = w4.heap.size := ⟨_, rfl⟩
  obtain ⟨n5, hn5⟩ : ∃ n5, n5 = w5.heap.size := ⟨_, rfl⟩
  rw [← hn2, ← hn4, ← hn5] at R ⊢
  clear q0 p0 hW5 hn2 hn4 hn5 G1 G2 G3 G4 l2 hl3 hl4 hl5 hl hl' hsz hn e3 e4
  obtain ⟨TA, a2, b2, c6, m6⟩ := can_gen s2 ad cs ts
  obtain ⟨TB, a3, b3, c7, m7⟩ := can_gen s3 ad cs ts
  have C6 := hid (c6 W5 (SH.out.gn R.out.g))
  have C7 := hid c7
  have M67 := hid (And.intro m6 m7)
  clear c6 c7
  refine C6.out.mono ?_
  rintro e w6 ⟨rfl, g6⟩
  have n64 : w6.heap[n4]? = some flt0 := by rw [g6.block _ (lt_of_block R.out.b4)]; exact R.out.b4
  have n65 : w6.heap[n5]? = some flt0 := by rw [g6.block _ (lt_of_block R.out.b5)]; exact R.out.b5
  have n62 : w6.heap[n2]? = some flt0 := by rw [g6.block _ (lt_of_block R.out.b2)]; exact R.out.b2
  have N6 := hid (And.intro n62 (And.intro n64 (And.intro n65 (R.out.g.trans g6))))
  obtain ⟨⟨q0, q1, q2, q3, q4⟩, f0, f1, f2, f3, f4⟩ := five_c n64
  clear g6 C6 n64 n65 n62
  unfold fv
  go_wp2_with fail
  obtain ⟨wy, hwy⟩ : ∃ wy, wy = ((((w6.setCell ⟨n4, 0, none⟩ (.int .i64 a2)).setCell ⟨n4, 1, none⟩ (.int .i64 b2)).setCell ⟨n4, 2, none⟩ (.string (B []))).setCell ⟨n4, 3, none⟩ (.int .i64 0)).setCell ⟨n4, 4, none⟩ (.int .i64 0) := ⟨_, rfl⟩
  rw [← hwy]
  have r24 := R.out.l24
  have r45 := R.out.l45
  have r2 := R.out.l2
  have y4 : wy.heap[n4]? = some (fltO a2 b2) := by rw [hwy]; exact set5_blk N6.out.2.1 _ _ _ _ _
  have y5 : wy.heap[n5]? = some flt0 := by rw [hwy]; exact set5_far N6.out.2.2.1 (by omega) _ _ _ _ _
  have y2 : wy.heap[n2]? = some flt0 := by rw [hwy]; exact set5_far N6.out.1 (by omega) _ _ _ _ _
  have gy : Gn w wy := by rw [hwy]; exact N6.out.2.2.2.set5 (by omega) _ _ _ _ _
  have C8 := hid (C7.out wy (SH.out.gn gy))
  clear q0 q1 q2 q3 q4 f0 f1 f2 f3 f4 hwy N6 R C7
  refine C8.out.mono ?_
  rintro e w7 ⟨rfl, g7⟩
  have n74 : w7.heap[n4]? = some (fltO a2 b2) := by rw [g7.block _ (lt_of_block y4)]; exact y4
  have n75 : w7.heap[n5]? = some flt0 := by rw [g7.block _ (lt_of_block y5)]; exact y5
  have n72 : w7.heap[n2]? = some flt0 := by rw [g7.block _ (lt_of_block y2)]; exact y2
  have N7 := hid (And.intro n72 (And.intro n74 (And.intro n75 (gy.trans g7))))
  obtain ⟨⟨q0, q1, q2, q3, q4⟩, f0, f1, f2, f3, f4⟩ := five_c n75
  obtain ⟨⟨p0, _⟩, _⟩ := five_c n74
  clear g7 C8 n74 n75 n72 y4 y5 y2 gy
  have hne : n4 ≠ n5 := by omega
  have hne' : n5 ≠ n4 := by omega
  by_cases ha2 : 0 < a2
  · have ha2' : ¬ a2 = 0 := by omega
    unfold fv
    go_wp2
    go_ret
    exact ⟨rfl, N7.out.2.2.2.set5 (by omega) _ _ _ _ _⟩
  · have hc2 : a2 = 0 ∧ CanOk s2 TA := M67.out.1.resolve_left ha2
    have hc2' := hc2.1
    subst hc2'
    by_cases ha3 : 0 < a3
    · have ha3' : ¬ a3 = 0 := by omega
      unfold fv
      go_wp2
      go_ret
      exact ⟨rfl, N7.out.2.2.2.set5 (by omega) _ _ _ _ _⟩
    · have hc3 : a3 = 0 ∧ CanOk s3 TB := M67.out.2.resolve_left ha3
      have hc3' := hc3.1
      subst hc3'
      obtain ⟨xa, na, ma, rA, okA, vA, lA, zA, eA⟩ := hc2.2
      obtain ⟨xb, nb, mb, rB, okB, vB, lB, zB, eB⟩ := hc3.2
      have P := hid (put_made okA okB vA vB lA lB)
      rw [← eA, ← eB] at P
      have hTA : TA.length ≤ 100000 := by
        rw [eA]
        have := text_len (ns := lettersS na.length) (fun i hi => by have := letters_short _ (getD_mem (ns := lettersS na.length) (i := i) (by rw [letters_len]; exact hi)); omega) ma xa okA
        omega
      have hTB : TB.length ≤ 100000 := by
        rw [eB]
        have := text_len (ns := lettersS nb.length) (fun i hi => by have := letters_short _ (getD_mem (ns := lettersS nb.length) (i := i) (by rw [letters_len]; exact hi)); omega) mb xb okB
        omega
      have HA := hid (fun W => arrow_any TA hTA W)
      have hAr : arrowS TA = decide (xa.kind = kFun) := by rw [eA]; exact arr_text (letters_nms (by omega)) okA
      rw [hAr] at HA
      clear rA rB okA okB vA vB lA lB zA zB eA eB hc2 hc3 hAr M67
      have sA : (B TA).size = TA.length := size_B TA
      have sB : (B TB).size = TB.length := size_B TB
      obtain ⟨fn, hfn⟩ : ∃ fn, fn = decide (xa.kind = kFun) := ⟨_, rfl⟩
      rw [← hfn] at HA P
      clear hfn
      unfold fv
      go_wp2_with fail
      obtain ⟨wx, hwx⟩ : ∃ wx, wx = ((((w7.setCell ⟨n5, 0, none⟩ (.int .i64 0)).setCell ⟨n5, 1, none⟩ (.int .i64 b3)).setCell ⟨n5, 2, none⟩ (.string (B []))).setCell ⟨n5, 3, none⟩ (.int .i64 0)).setCell ⟨n5, 4, none⟩ (.int .i64 0) := ⟨_, rfl⟩
      rw [← hwx]
      have x2 : wx.heap[n2]? = some flt0 := by rw [hwx]; exact set5_far N7.out.1 (by omega) _ _ _ _ _
      have gx : Gn w wx := by rw [hwx]; exact N7.out.2.2.2.set5 (by omega) _ _ _ _ _
      have X := hid (And.intro x2 gx)
      clear q0 q1 q2 q3 q4 f0 f1 f2 f3 f4 p0 hwx N7 x2 gx
      refine (HA.out wx).mono ?_
      rintro e w8 ⟨rfl, rfl⟩
      clear HA
      have PT := hid P.out.text
      obtain ⟨SP, hSP⟩ : ∃ SP, SP = tyText (max ma mb + 3) (lettersS (max na.length nb.length)) (tyXY xa xb) := ⟨_, rfl⟩
      have ok9 : TyOk (lettersS (max na.length nb.length)).length (max ma mb + 3) (tyXY xa xb) := by rw [letters_len]; exact P.out.ok
      have HP := put_read P.out
      rw [← hSP] at HP PT
      have CI : Hid (Calls Tryz.prog 9 #[.string (B [112, 32, 45, 62, 32, 40, 113, 44, 32, 91, 112, 93, 41]), .string (B SP)] w8 fun e w' => (∃ a b, (a = 1 ∨ a = 8) ∧ e = .returned (.tuple #[.slice none 0 0, .slice none 0 0, .bool true, fv a b]) ∧ Gn w8 w') ∨ PIO w8 w' e [[112], [113]] [TA, TB]) := by
        rcases HP with ⟨a, b, hf, hab⟩ | hr
        · refine (pi_f2 _ (B SP) tyPQ [[112], [113]] a b w8 ad cs ts (SH.out.gn X.out.2) rd_PQ hf).mono ?_
          rintro e w' ⟨rfl, g'⟩
          exact Or.inl ⟨a, b, hab, rfl, g'⟩
        · refine (pi_t _ (B SP) tyPQ (tyXY xa xb) [[112], [113]] (lettersS (max na.length nb.length)) 4 (max ma mb + 3) _ _ w8 ad cs ts (SH.out.gn X.out.2) rd_PQ hr ok_PQ ok9 [some TA, some TB] P.out.mt).mono ?_
          intro e w' h'
          rw [sort_PQ] at h'
          exact Or.inr h'
      clear HP ok9 hSP P
      have tl1 : (B [112]).toList = [112] := toList_B _
      have tl2 : (B [113]).toList = [113] := toList_B _
      cases fn with
      | true =>
        go_wp2_with fail
        have eS : (({ data := #[40] } : ByteArray) ++ B TA ++ { data := #[41] } ++ { data := #[32, 45, 62, 32, 40] } ++ B TB ++ { data := #[44, 32, 91] } ++ B TA ++ { data := #[93, 41] }) = B SP := by
          rw [PT.out]
          show B [40] ++ B TA ++ B [41] ++ B [32, 45, 62, 32, 40] ++ B TB ++ B [44, 32, 91] ++ B TA ++ B [93, 41] = _
          simp only [append_B]
          congr 1
          simp
        rw [eS]
        clear eS PT
        refine CI.out.mono ?_
        rintro e w9 (⟨a, b, hab, rfl, g9⟩ | ⟨g9, vn, vt, rfl, hrn, hrt⟩)
        · have n9 : w9.heap[n2]? = some flt0 := by rw [g9.block _ (lt_of_block X.out.1)]; exact X.out.1
          obtain ⟨⟨q0, q1, q2, q3, q4⟩, f0, f1, f2, f3, f4⟩ := five_c n9
          have G9 := hid (X.out.2.trans g9)
          clear g9 n9 CI
          rcases hab with rfl | rfl
          all_goals
            unfold fv
            go_wp2
            go_ret
            exact ⟨rfl, G9.out.set5 r2 _ _ _ _ _⟩
        · have n9 : w9.heap[n2]? = some flt0 := by rw [g9.block _ (lt_of_block X.out.1)]; exact X.out.1
          have hn8 := lt_of_block X.out.1
          obtain ⟨⟨q0, q1, q2, q3, q4⟩, f0, f1, f2, f3, f4⟩ := five_c n9
          have G9 := hid (X.out.2.trans g9)
          obtain ⟨ao, cp, rfl, hv⟩ := own_view hrn
          obtain ⟨gn, rfl, hg1, hg2, d0⟩ := hv 0 (by decide)
          obtain ⟨gn', eg, _, _, d1⟩ := hv 1 (by decide)
          obtain ⟨at9, cpt, rfl, ht⟩ := own_view hrt
          obtain ⟨gt, rfl, hg3, hg4, d2⟩ := ht 0 (by simp)
          obtain ⟨gt', et, _, _, d3⟩ := ht 1 (by simp)
          injection eg with eg
          injection eg with eg
          injection et with et
          injection et with et
          subst eg et
          simp only [List.getD_cons_zero, List.getD_cons_succ] at d0 d1 d2 d3
          have u1 : n2 ≠ gn := by omega
          have u2 : n2 ≠ gt := by omega
          have u3 : gn ≠ n2 := by omega
          have u4 : gt ≠ n2 := by omega
          clear g9 n9 CI hrn hrt hv ht
          unfold fv
          go_wp2
          go_ret
          exact ⟨rfl, G9.out.set5 r2 _ _ _ _ _⟩
      | false =>
        go_wp2_with fail
        have eS : (B TA ++ { data := #[32, 45, 62, 32, 40] } ++ B TB ++ { data := #[44, 32, 91] } ++ B TA ++ { data := #[93, 41] }) = B SP := by
          rw [PT.out]
          show B TA ++ B [32, 45, 62, 32, 40] ++ B TB ++ B [44, 32, 91] ++ B TA ++ B [93, 41] = _
          simp only [append_B]
          congr 1
          simp
        rw [eS]
        clear eS PT
        refine CI.out.mono ?_
        rintro e w9 (⟨a, b, hab, rfl, g9⟩ | ⟨g9, vn, vt, rfl, hrn, hrt⟩)
        · have n9 : w9.heap[n2]? = some flt0 := by rw [g9.block _ (lt_of_block X.out.1)]; exact X.out.1
          obtain ⟨⟨q0, q1, q2, q3, q4⟩, f0, f1, f2, f3, f4⟩ := five_c n9
          have G9 := hid (X.out.2.trans g9)
          clear g9 n9 CI
          rcases hab with rfl | rfl
          all_goals
            unfold fv
            go_wp2
            go_ret
            exact ⟨rfl, G9.out.set5 r2 _ _ _ _ _⟩
        · have n9 : w9.heap[n2]? = some flt0 := by rw [g9.block _ (lt_of_block X.out.1)]; exact X.out.1
          have hn8 := lt_of_block X.out.1
          obtain ⟨⟨q0, q1, q2, q3, q4⟩, f0, f1, f2, f3, f4⟩ := five_c n9
          have G9 := hid (X.out.2.trans g9)
          obtain ⟨ao, cp, rfl, hv⟩ := own_view hrn
          obtain ⟨gn, rfl, hg1, hg2, d0⟩ := hv 0 (by decide)
          obtain ⟨gn', eg, _, _, d1⟩ := hv 1 (by decide)
          obtain ⟨at9, cpt, rfl, ht⟩ := own_view hrt
          obtain ⟨gt, rfl, hg3, hg4, d2⟩ := ht 0 (by simp)
          obtain ⟨gt', et, _, _, d3⟩ := ht 1 (by simp)
          injection eg with eg
          injection eg with eg
          injection et with et
          injection et with et
          subst eg et
          simp only [List.getD_cons_zero, List.getD_cons_succ] at d0 d1 d2 d3
          have u1 : n2 ≠ gn := by omega
          have u2 : n2 ≠ gt := by omega
          have u3 : gn ≠ n2 := by omega
          have u4 : gt ≠ n2 := by omega
          clear g9 n9 CI hrn hrt hv ht
          unfold fv
          go_wp2
          go_ret
          exact ⟨rfl, G9.out.set5 r2 _ _ _ _ _⟩
end Go.Proofs.YtcdijppegfcoaabGreatDoor

/-
  OUR OWN TEXT. The law Renamed, of any three texts.
-/
namespace Go.Proofs.YtcdijppegfcoaabGreatDoor
open Go.RowKit

theorem ren_any (s1 s2 s3 : ByteArray) (w : World) (ad : Nat → Addr) (cs : Nat → Array Value) (ts : Nat → TypeId) (S : SW w ad cs ts) :
    Calls Tryz.prog 3 #[.string s1, .string s2, .string s3] w fun e w' => e = .returned (.bool true) ∧ Gn w w' := by
  rcases rd_cases s1 with ⟨a, b, h, ha⟩ | ⟨x, ns, h⟩
  · exact ren_f s1 s2 s3 a b w ad cs ts S h ha
  · obtain ⟨m, ok, hz, hv, hn⟩ := h.order
    by_cases hl : (tyText m (lettersS ns.length) x).length ≤ 300
    · exact ren_short s1 s2 s3 x ns m w ad cs ts S h ok hv hn hz hl
    · refine ren_long s1 s2 s3 x ns m w ad cs ts S h ok (by omega) ?_
      have := text_len (ns := lettersS ns.length) (fun i hi => by have := letters_short _ (getD_mem (ns := lettersS ns.length) (i := i) (by rw [letters_len]; exact hi)); omega) m x ok
      omega
end Go.Proofs.YtcdijppegfcoaabGreatDoor
