import Derived.Test.YtcdijppegfcoaabGreatDoorPNm
import Derived.Test.YtcdijppegfcoaabGreatDoorAs3
import Derived.Test.YtcdijppegfcoaabGreatDoorCom
import Derived.Outline
import Derived.Test.YtcdijppegfcoaabGreatDoorRefRd
import Derived.WideMake
import Derived.Carry
import Derived.Laws.IdiomRangeMap
import Derived.Test.YtcdijppegfcoaabGreatDoorND
import Derived.Test.YtcdijppegfcoaabGreatDoorNA
import Derived.Test.YtcdijppegfcoaabGreatDoorIterJ
import Derived.Deep.LoopGhost
/-
  OUR OWN TEXT. A cell in a later world.
-/
namespace Go.Proofs.YtcdijppegfcoaabGreatDoor
open Go.RowKit

theorem grown_cell {w wx : World} {b i : Nat} {v : Value} (h : w.cell? ⟨b, i, none⟩ = some v) (hl : b < w.heap.size) (hg : w.grownBy wx none) : wx.cell? ⟨b, i, none⟩ = some v := by
  rw [World.cell?_of_block (a := ⟨b, i, none⟩) (hg.block b hl (by simp))]
  exact h
end Go.Proofs.YtcdijppegfcoaabGreatDoor

/-
  OUR OWN TEXT (written by mkasm.py). errors.As: misses, and a hit at once.
-/
namespace Go.Proofs.YtcdijppegfcoaabGreatDoor
open Go.RowKit Go.Extern.Stop Go.Stop Go.Extern

theorem set_get {w : World} {b i : Nat} {old : Value} (h : w.cell? ⟨b, i, none⟩ = some old) (v : Value) : (w.setCell ⟨b, i, none⟩ v).cell? ⟨b, i, none⟩ = some v := by
  cases e : w.heap[b]? with
  | none => simp [World.cell?, e] at h
  | some o =>
    cases o with
    | cells c t f =>
      simp only [World.cell?, e] at h
      have hi : i < c.size := by
        rcases Nat.lt_or_ge i c.size with h' | h'
        · exact h'
        · rw [Array.getElem?_eq_none h'] at h; cases h
      simp [World.cell?, World.setCell, Array.getElem?_modify, e, hi]
    | _ => simp [World.cell?, e] at h
def ETy : Value := .iface 229 (.agg #[.pointer (some ⟨13, 56, none⟩)])

theorem as_nil (t : Value) (w : World) : Calls Tryz.prog 37 #[.nilIface, t] w fun e w' => e = .returned (.bool false) ∧ w' = w := by
  go_enter Tryz.func37, Tryz.ntmps37
  go_wp2
  go_ret
  exact ⟨rfl, rfl⟩

set_option maxRecDepth 100000 in
set_option maxHeartbeats 2000000 in
theorem as_plain_env (tb : Nat) (q : Addr) (w : World) (htl : tb < w.heap.size)
    (hE : w.cell? ⟨8, 0, none⟩ = some ETy) (hEl : 8 < w.heap.size) :
    Calls Tryz.prog 37 #[.iface 372 (.pointer (some q)), .iface 85 (.pointer (some ⟨tb, 0, none⟩))] w fun e w' => e = .returned (.bool false) ∧ w.grownBy w' none := by
  unfold ETy at hE
  have e0 := valueOfEnvError
  have e1 := valTypeEnvError
  have e2 := kindMEnvError
  have e3 := kindEnvError
  have e4 := kindEMEnvError
  have e5 := kindEEnvError
  have e6 := elemOfEnvError
  have e7 := implOfEnvError
  have e8 := isNilEnvError
  have g0 := rtElem
  have g1 := rtImplements
  have g2 := rtAssignableTo
  have g3 := typeOfPlain
  have g4 := noAsPlain
  have g5 := assignPlainEnvError
  have g6 := noUnwrapE
  have g7 := noUnwrapsE
  have m1 : tb < w.heap.size + 1 := by omega
  have m2 : tb < w.heap.size + 1 + 1 := by omega
  have n1 : 8 < w.heap.size + 1 := by omega
  go_enter Tryz.func37, Tryz.ntmps37
  go_wp2
  refine wp_loop_rounds 1 ?_
  rw [rounds_succ]
  go_wp2
  go_ret
  exact ⟨rfl, ((World.grownBy_alloc _ _ _).trans (World.grownBy_alloc _ _ _)).trans (World.grownBy_alloc _ _ _)⟩

set_option maxRecDepth 100000 in
set_option maxHeartbeats 2000000 in
theorem as_plain_syntax (tb : Nat) (q : Addr) (w : World) (htl : tb < w.heap.size)
    (hE : w.cell? ⟨8, 0, none⟩ = some ETy) (hEl : 8 < w.heap.size) :
    Calls Tryz.prog 37 #[.iface 372 (.pointer (some q)), .iface 90 (.pointer (some ⟨tb, 0, none⟩))] w fun e w' => e = .returned (.bool false) ∧ w.grownBy w' none := by
  unfold ETy at hE
  have e0 := valueOfSyntaxError
  have e1 := valTypeSyntaxError
  have e2 := kindMSyntaxError
  have e3 := kindSyntaxError
  have e4 := kindEMSyntaxError
  have e5 := kindESyntaxError
  have e6 := elemOfSyntaxError
  have e7 := implOfSyntaxError
  have e8 := isNilSyntaxError
  have g0 := rtElem
  have g1 := rtImplements
  have g2 := rtAssignableTo
  have g3 := typeOfPlain
  have g4 := noAsPlain
  have g5 := assignPlainSyntaxError
  have g6 := noUnwrapE
  have g7 := noUnwrapsE
  have m1 : tb < w.heap.size + 1 := by omega
  have m2 : tb < w.heap.size + 1 + 1 := by omega
  have n1 : 8 < w.heap.size + 1 := by omega
  go_enter Tryz.func37, Tryz.ntmps37
  go_wp2
  refine wp_loop_rounds 1 ?_
  rw [rounds_succ]
  go_wp2
  go_ret
  exact ⟨rfl, ((World.grownBy_alloc _ _ _).trans (World.grownBy_alloc _ _ _)).trans (World.grownBy_alloc _ _ _)⟩

set_option maxRecDepth 100000 in
set_option maxHeartbeats 2000000 in
theorem as_plain_unbound (tb : Nat) (q : Addr) (w : World) (htl : tb < w.heap.size)
    (hE : w.cell? ⟨8, 0, none⟩ = some ETy) (hEl : 8 < w.heap.size) :
    Calls Tryz.prog 37 #[.iface 372 (.pointer (some q)), .iface 93 (.pointer (some ⟨tb, 0, none⟩))] w fun e w' => e = .returned (.bool false) ∧ w.grownBy w' none := by
  unfold ETy at hE
  have e0 := valueOfUnboundError
  have e1 := valTypeUnboundError
  have e2 := kindMUnboundError
  have e3 := kindUnboundError
  have e4 := kindEMUnboundError
  have e5 := kindEUnboundError
  have e6 := elemOfUnboundError
  have e7 := implOfUnboundError
  have e8 := isNilUnboundError
  have g0 := rtElem
  have g1 := rtImplements
  have g2 := rtAssignableTo
  have g3 := typeOfPlain
  have g4 := noAsPlain
  have g5 := assignPlainUnboundError
  have g6 := noUnwrapE
  have g7 := noUnwrapsE
  have m1 : tb < w.heap.size + 1 := by omega
  have m2 : tb < w.heap.size + 1 + 1 := by omega
  have n1 : 8 < w.heap.size + 1 := by omega
  go_enter Tryz.func37, Tryz.ntmps37
  go_wp2
  refine wp_loop_rounds 1 ?_
  rw [rounds_succ]
  go_wp2
  go_ret
  exact ⟨rfl, ((World.grownBy_alloc _ _ _).trans (World.grownBy_alloc _ _ _)).trans (World.grownBy_alloc _ _ _)⟩

set_option maxRecDepth 100000 in
set_option maxHeartbeats 2000000 in
theorem as_syntax_env (tb : Nat) (q : Addr) (w : World) (htl : tb < w.heap.size)
    (hE : w.cell? ⟨8, 0, none⟩ = some ETy) (hEl : 8 < w.heap.size) :
    Calls Tryz.prog 37 #[.iface 81 (.pointer (some q)), .iface 85 (.pointer (some ⟨tb, 0, none⟩))] w fun e w' => e = .returned (.bool false) ∧ w.grownBy w' none := by
  unfold ETy at hE
  have e0 := valueOfEnvError
  have e1 := valTypeEnvError
  have e2 := kindMEnvError
  have e3 := kindEnvError
  have e4 := kindEMEnvError
  have e5 := kindEEnvError
  have e6 := elemOfEnvError
  have e7 := implOfEnvError
  have e8 := isNilEnvError
  have g0 := rtElem
  have g1 := rtImplements
  have g2 := rtAssignableTo
  have g3 := typeOfSyntax
  have g4 := noAsSyntax
  have g5 := assignSyntaxEnvError
  have g6 := noUnwrapSyntax
  have g7 := noUnwrapsSyntax
  have m1 : tb < w.heap.size + 1 := by omega
  have m2 : tb < w.heap.size + 1 + 1 := by omega
  have n1 : 8 < w.heap.size + 1 := by omega
  go_enter Tryz.func37, Tryz.ntmps37
  go_wp2
  refine wp_loop_rounds 1 ?_
  rw [rounds_succ]
  go_wp2
  go_ret
  exact ⟨rfl, ((World.grownBy_alloc _ _ _).trans (World.grownBy_alloc _ _ _)).trans (World.grownBy_alloc _ _ _)⟩

set_option maxRecDepth 100000 in
set_option maxHeartbeats 2000000 in
theorem as_syntax_syntax (tb : Nat) (q : Addr) (old : Value) (w : World) (ht : w.cell? ⟨tb, 0, none⟩ = some old) (htf : w.frozen? ⟨tb, 0, none⟩ = false) (htl : tb < w.heap.size)
    (hE : w.cell? ⟨8, 0, none⟩ = some ETy) (hEl : 8 < w.heap.size) :
    Calls Tryz.prog 37 #[.iface 81 (.pointer (some q)), .iface 90 (.pointer (some ⟨tb, 0, none⟩))] w fun e w' => e = .returned (.bool true) ∧ w'.cell? ⟨tb, 0, none⟩ = some (.pointer (some q)) ∧ w.grownBy w' (some tb) := by
  unfold ETy at hE
  have e0 := valueOfSyntaxError
  have e1 := valTypeSyntaxError
  have e2 := kindMSyntaxError
  have e3 := kindSyntaxError
  have e4 := kindEMSyntaxError
  have e5 := kindESyntaxError
  have e6 := elemOfSyntaxError
  have e7 := implOfSyntaxError
  have e8 := isNilSyntaxError
  have g0 := rtElem
  have g1 := rtImplements
  have g2 := rtAssignableTo
  have g3 := typeOfSyntax
  have g4 := assignSyntaxSyntaxError
  have g5 := valueOfErrSyntaxError
  have f2 := fun (o2 o3 : Obj) => elemSyntaxError ⟨w.heap.size, 0, none⟩ ⟨tb, 0, none⟩ (((w.alloc (.cells #[.pointer (some ⟨tb, 0, none⟩)] 90)).alloc o2).alloc o3)
    (by rw [World.cell?_alloc_past _ _ _ (by simp; omega), World.cell?_alloc_past _ _ _ (by simp), World.cell?_alloc_new]; rfl)
  have f3 := fun (o1 o2 o3 : Obj) => setSyntaxError ⟨tb, 0, none⟩ ⟨w.heap.size + 1 + 1 + 1, 0, none⟩ (some q) old ((((w.alloc o1).alloc o2).alloc o3).alloc (.cells #[.pointer (some q)] 81))
    (by rw [World.cell?_alloc_at _ _ _ _ (by simp)]; rfl)
    (by rw [World.cell?_alloc_past _ _ _ (by simp; omega), World.cell?_alloc_past _ _ _ (by simp; omega), World.cell?_alloc_past _ _ _ (by simp; omega), World.cell?_alloc_past _ _ _ htl]; exact ht)
    (by rw [World.frozen?_alloc_past _ _ _ (by simp; omega), World.frozen?_alloc_past _ _ _ (by simp; omega), World.frozen?_alloc_past _ _ _ (by simp; omega), World.frozen?_alloc_past _ _ _ htl]; exact htf)
  have m1 : tb < w.heap.size + 1 := by omega
  have m2 : tb < w.heap.size + 1 + 1 := by omega
  have m3 : tb < w.heap.size + 1 + 1 + 1 := by omega
  have n1 : 8 < w.heap.size + 1 := by omega
  go_enter Tryz.func37, Tryz.ntmps37
  go_wp2
  refine wp_loop_rounds 1 ?_
  rw [rounds_succ]
  go_wp2
  go_ret
  exact ⟨rfl, cell_past (cell_past (cell_past (cell_past (set_get ht _) _) _) _) _, (((((Kept.refl tb w).setCell 0 _).alloc _).alloc _).alloc _).alloc _⟩
end Go.Proofs.YtcdijppegfcoaabGreatDoor

/-
  OUR OWN TEXT. plain.fault: nothing, a *SyntaxError.
-/
namespace Go.Proofs.YtcdijppegfcoaabGreatDoor
open Go.RowKit Go.Extern.Stop Go.Stop Go.Extern

/-- What the row's reading gives: the eight errors of errors.New's make, the handle of the type error. -/
structure SW (W : World) (ad : Nat → Addr) (cs : Nat → Array Value) (ts : Nat → TypeId) : Prop where
  g0 : W.cell? ⟨0, 0, none⟩ = some (errV (ad 0))
  g1 : W.cell? ⟨1, 0, none⟩ = some (errV (ad 1))
  g2 : W.cell? ⟨2, 0, none⟩ = some (errV (ad 2))
  g3 : W.cell? ⟨3, 0, none⟩ = some (errV (ad 3))
  g4 : W.cell? ⟨4, 0, none⟩ = some (errV (ad 4))
  g5 : W.cell? ⟨5, 0, none⟩ = some (errV (ad 5))
  g6 : W.cell? ⟨6, 0, none⟩ = some (errV (ad 6))
  g7 : W.cell? ⟨7, 0, none⟩ = some (errV (ad 7))
  hE : W.cell? ⟨8, 0, none⟩ = some ETy
  hb : ∀ k, k < 8 → W.heap[(ad k).block]? = some (.cells (cs k) (ts k) (0, 0))
  hne : ∀ i j, i < 8 → j < 8 → i ≠ j → ad i ≠ ad j
  hsz : 8 + 1 ≤ W.heap.size
theorem SW.grown {w w' : World} {ad : Nat → Addr} {cs : Nat → Array Value} {ts : Nat → TypeId} (h : SW w ad cs ts) (hg : w.grownBy w' none) : SW w' ad cs ts := by
  have c : ∀ {b : Nat} {v : Value}, b < 8 + 1 → w.cell? ⟨b, 0, none⟩ = some v → w'.cell? ⟨b, 0, none⟩ = some v := fun hl e => grown_cell e (Nat.lt_of_lt_of_le hl h.hsz) hg
  exact ⟨c (by decide) h.g0, c (by decide) h.g1, c (by decide) h.g2, c (by decide) h.g3, c (by decide) h.g4, c (by decide) h.g5, c (by decide) h.g6, c (by decide) h.g7, c (by decide) h.hE,
    fun k hk => by rw [hg.block _ (lt_of_block (h.hb k hk)) (by simp)]; exact h.hb k hk, h.hne, Nat.le_trans h.hsz hg.size⟩

theorem five_c {w : World} {b : Nat} {p q r s u : Value} {t : TypeId} (h : w.heap[b]? = some (.cells #[p, q, r, s, u] t (0, 0))) :
    (w.cell? ⟨b, 0, none⟩ = some p ∧ w.cell? ⟨b, 1, none⟩ = some q ∧ w.cell? ⟨b, 2, none⟩ = some r ∧ w.cell? ⟨b, 3, none⟩ = some s ∧ w.cell? ⟨b, 4, none⟩ = some u) ∧
    w.frozen? ⟨b, 0, none⟩ = false ∧ w.frozen? ⟨b, 1, none⟩ = false ∧ w.frozen? ⟨b, 2, none⟩ = false ∧ w.frozen? ⟨b, 3, none⟩ = false ∧ w.frozen? ⟨b, 4, none⟩ = false := by
  simp [World.cell?, World.frozen?, h]
/-- The four variables of fault. -/
def faultW (w : World) : World := (((w.alloc (.cells #[.int .i64 0, .int .i64 0, .string (B []), .int .i64 0, .int .i64 0] 23)).alloc (.cells #[.pointer none] 81)).alloc (.cells #[.pointer none] 82)).alloc (.cells #[.pointer none] 83)
theorem faultW_grown (w : World) : w.grownBy (faultW w) none := (((World.grownBy_alloc _ _ _).trans (World.grownBy_alloc _ _ _)).trans (World.grownBy_alloc _ _ _)).trans (World.grownBy_alloc _ _ _)
theorem faultW_blocks (w : World) : (faultW w).heap[w.heap.size]? = some (.cells #[.int .i64 0, .int .i64 0, .string (B []), .int .i64 0, .int .i64 0] 23 (0, 0)) ∧ (faultW w).heap[w.heap.size + 1]? = some (.cells #[.pointer none] 81 (0, 0)) ∧
    (faultW w).heap[w.heap.size + 2]? = some (.cells #[.pointer none] 82 (0, 0)) ∧ (faultW w).heap[w.heap.size + 3]? = some (.cells #[.pointer none] 83 (0, 0)) := by
  unfold faultW
  refine ⟨?_, ?_, ?_, ?_⟩
  · rw [Below.heap_alloc _ _ _ (by simp <;> omega), Below.heap_alloc _ _ _ (by simp <;> omega), Below.heap_alloc _ _ _ (by simp)]
    exact heap_alloc_new _ _
  · rw [Below.heap_alloc _ _ _ (by simp <;> omega), Below.heap_alloc _ _ _ (by simp)]
    exact heap_alloc_at _ _ _ (by simp)
  · rw [Below.heap_alloc _ _ _ (by simp)]
    exact heap_alloc_at _ _ _ (by simp)
  · exact heap_alloc_at _ _ _ (by simp)
theorem one_c {w : World} {b : Nat} {p : Value} {t : TypeId} (h : w.heap[b]? = some (.cells #[p] t (0, 0))) : w.cell? ⟨b, 0, none⟩ = some p ∧ w.frozen? ⟨b, 0, none⟩ = false := by simp [World.cell?, World.frozen?, h]
theorem grown_setNew {w wi : World} (hg : w.grownBy wi none) {n : Nat} (hn : w.heap.size ≤ n) (i : Nat) (a : Value) : w.grownBy (wi.setCell ⟨n, i, none⟩ a) none :=
  ⟨hg.os, hg.tape, hg.output, by have := hg.size; simp [World.setCell] at this ⊢; omega, fun k hk _ => by
    rw [Below.heap_setCell _ _ _ _ (by show k ≠ n; omega)]
    exact hg.block k hk (by simp)⟩
theorem fault_set {w wi : World} (hg : w.grownBy wi none) {n : Nat} (hn : w.heap.size ≤ n) (a b c d e : Value) : w.grownBy (((((wi.setCell ⟨n, 0, none⟩ a).setCell ⟨n, 1, none⟩ b).setCell ⟨n, 2, none⟩ c).setCell ⟨n, 3, none⟩ d).setCell ⟨n, 4, none⟩ e) none :=
  grown_setNew (grown_setNew (grown_setNew (grown_setNew (grown_setNew hg hn 0 a) hn 1 b) hn 2 c) hn 3 d) hn 4 e

set_option maxRecDepth 100000 in
set_option maxHeartbeats 2000000 in
theorem fault_nil (w : World) : Calls Tryz.prog 22 #[.nilIface] w fun e w' => e = .returned (fv 0 0) ∧ w.grownBy w' none := by
  go_enter Tryz.func22, Tryz.ntmps22
  go_wp2_with (go_at_call 37; refine (as_nil _ _).mono ?_; rintro e w' ⟨rfl, rfl⟩)
  refine bodyPost_ret (v := fv 0 0) ?_ rfl ?_
  · have q := five_c (faultW_blocks w).1
    obtain ⟨⟨q0, q1, q2, q3, q4⟩, _⟩ := q
    unfold faultW at q0 q1 q2 q3 q4
    simp [results, Tryz.results22, go_sem]
    rfl
  · exact ⟨rfl, faultW_grown w⟩

set_option maxRecDepth 100000 in
set_option maxHeartbeats 4000000 in
theorem fault_syn (w : World) (ad : Nat → Addr) (cs : Nat → Array Value) (ts : Nat → TypeId) (S : SW w ad cs ts) (b : Nat) (p : Int) (hb : w.heap[b]? = some (.cells #[.int .i64 p] 92 (0, 0))) :
    Calls Tryz.prog 22 #[.iface 81 (.pointer (some ⟨b, 0, none⟩))] w fun e w' => e = .returned (fv 2 p) ∧ w.grownBy w' none := by
  obtain ⟨n0, n1, n2, n3⟩ := faultW_blocks w
  have hbl := lt_of_block hb
  have S4 := hid (S.grown (faultW_grown w))
  have A1 := hid (as_syntax_env (w.heap.size + 3) ⟨b, 0, none⟩ (faultW w) (lt_of_block n3) S4.out.hE (Nat.lt_of_lt_of_le (by decide) S4.out.hsz))
  have B4 := hid (And.intro n0 n1)
  have HB := hid hb
  clear S hb n0 n1 n2 n3
  unfold faultW at A1
  go_enter Tryz.func22, Tryz.ntmps22
  go_wp2_with fail
  refine A1.out.mono ?_
  rintro e w5 ⟨rfl, g5⟩
  have g5' : (faultW w).grownBy w5 none := g5
  have S5 := hid (S4.out.grown g5')
  have n1 : w5.heap[w.heap.size + 1]? = some (.cells #[.pointer none] 81 (0, 0)) := by
    rw [g5'.block _ (lt_of_block B4.out.2) (by simp)]; exact B4.out.2
  have n0 : w5.heap[w.heap.size]? = some (.cells #[.int .i64 0, .int .i64 0, .string (B []), .int .i64 0, .int .i64 0] 23 (0, 0)) := by
    rw [g5'.block _ (lt_of_block B4.out.1) (by simp)]; exact B4.out.1
  have A2 := hid (as_syntax_syntax (w.heap.size + 1) ⟨b, 0, none⟩ (.pointer none) w5 (one_c n1).1 (one_c n1).2 (lt_of_block n1) S5.out.hE (Nat.lt_of_lt_of_le (by decide) S5.out.hsz))
  have G5 := hid ((faultW_grown w).trans g5')
  have hb5 : w5.heap[b]? = some (.cells #[.int .i64 p] 92 (0, 0)) := by
    rw [G5.out.block _ hbl (by simp)]; exact HB.out
  have l0 := lt_of_block n0
  have lb5 := lt_of_block hb5
  clear g5 g5' A1 S4
  go_wp2_with fail
  refine A2.out.mono ?_
  rintro e w6 ⟨rfl, c6, g6⟩
  have n06 : w6.heap[w.heap.size]? = some (.cells #[.int .i64 0, .int .i64 0, .string (B []), .int .i64 0, .int .i64 0] 23 (0, 0)) := by
    rw [g6.block _ l0 (by simp)]; exact n0
  have hb6 : w6.heap[b]? = some (.cells #[.int .i64 p] 92 (0, 0)) := by
    rw [g6.block _ lb5 (by simp; omega)]; exact hb5
  have d6 := (one_c hb6).1
  obtain ⟨⟨q0, q1, q2, q3, q4⟩, f0, f1, f2, f3, f4⟩ := five_c n06
  have G6 : Hid (w.grownBy w6 none) := ⟨g6.os.trans G5.out.os, g6.tape.trans G5.out.tape, g6.output.trans G5.out.output, Nat.le_trans G5.out.size g6.size, fun k hk hn => by
    rw [g6.block k (Nat.lt_of_lt_of_le hk G5.out.size) (by simp; omega)]
    exact G5.out.block k hk hn⟩
  clear g6 n06 hb6 n0 n1 hb5 A2
  go_wp2
  refine bodyPost_ret (v := fv 2 p) (by simp [results, Tryz.results22, go_sem, q0, q1, q2, q3, q4]; rfl) rfl ?_
  exact ⟨rfl, fault_set G6.out (Nat.le_refl _) _ _ _ _ _⟩
end Go.Proofs.YtcdijppegfcoaabGreatDoor

/-
  OUR OWN TEXT. plain.fault: an error of errors.New's make: a map of eight is gone through, in whatever order.
-/
namespace Go.Proofs.YtcdijppegfcoaabGreatDoor
open Go.RowKit

/-- Grown, with whatever was drawn. -/
structure Gn (w w' : World) : Prop where
  os : w'.os = w.os
  output : w'.output = w.output
  size : w.heap.size ≤ w'.heap.size
  block : ∀ k, k < w.heap.size → w'.heap[k]? = w.heap[k]?
theorem Gn.of {w w' : World} (h : w.grownBy w' none) : Gn w w' := ⟨h.os, h.output, h.size, fun k hk => h.block k hk (by simp)⟩
theorem Gn.trans {a b c : World} (h : Gn a b) (k : Gn b c) : Gn a c := ⟨k.os.trans h.os, k.output.trans h.output, Nat.le_trans h.size k.size, fun i hi => (k.block i (Nat.lt_of_lt_of_le hi h.size)).trans (h.block i hi)⟩
theorem Gn.setNew {w wi : World} (hg : Gn w wi) {n : Nat} (hn : w.heap.size ≤ n) (i : Nat) (a : Value) : Gn w (wi.setCell ⟨n, i, none⟩ a) :=
  ⟨hg.os, hg.output, by have := hg.size; simp [World.setCell] at this ⊢; omega, fun k hk => by
    rw [Below.heap_setCell _ _ _ _ (by show k ≠ n; omega)]
    exact hg.block k hk⟩
theorem Gn.set5 {w wi : World} (hg : Gn w wi) {n : Nat} (hn : w.heap.size ≤ n) (a b c d e : Value) : Gn w (((((wi.setCell ⟨n, 0, none⟩ a).setCell ⟨n, 1, none⟩ b).setCell ⟨n, 2, none⟩ c).setCell ⟨n, 3, none⟩ d).setCell ⟨n, 4, none⟩ e) :=
  ((((hg.setNew hn 0 a).setNew hn 1 b).setNew hn 2 c).setNew hn 3 d).setNew hn 4 e
theorem Gn.frame {W w' : World} (h : Gn W w') (may : MemPlace → Prop) : W.keptBut w' may := by
  refine ⟨h.os, h.output, fun i hi => ?_⟩
  rw [h.block i hi]
  split <;> simp_all
theorem Gn.cell {w wx : World} {b i : Nat} {v : Value} (h : w.cell? ⟨b, i, none⟩ = some v) (hl : b < w.heap.size) (hg : Gn w wx) : wx.cell? ⟨b, i, none⟩ = some v := by
  rw [World.cell?_of_block (a := ⟨b, i, none⟩) (hg.block b hl)]
  exact h
theorem set_alloc (w : World) (o o' : Obj) : ({ w.alloc o with heap := (w.alloc o).heap.setIfInBounds w.heap.size o' } : World) = w.alloc o' := by
  have h : (w.heap.push o).setIfInBounds w.heap.size o' = w.heap.push o' := by
    apply Array.ext_getElem?
    intro i
    rw [Array.getElem?_setIfInBounds, Array.getElem?_push, Array.getElem?_push]
    by_cases e : w.heap.size = i
    · subst e; simp
    · rw [if_neg e, if_neg (fun h => e h.symm), if_neg (fun h => e h.symm)]
  show ({ w with heap := (w.heap.push o).setIfInBounds w.heap.size o' } : World) = { w with heap := w.heap.push o' }
  rw [h]
theorem upd_new (w : World) (es : Array MapEntry) (c : Nat) (k : Int) (v : Value) (hf : Instr.findNow (.int .i64) (.int .i64 k) es.toList 0 = some none) :
    (Instr.mapUpdate 96 (.map (some w.heap.size)) (.int .i64 k) v).run Tryz.prog (w.alloc (.map es c)) = .ok () (w.alloc (.map (es.push { key := .int .i64 k, val := v, born := c }) (c + 1))) := by
  have hb : (w.alloc (.map es c)).heap[w.heap.size]? = some (.map es c) := heap_alloc_new _ _
  have hc : (Instr.checkKey false 10000 3 (.int .i64 k)).run Tryz.prog (w.alloc (.map es c)) = .ok () (w.alloc (.map es c)) := MapKept.run_checkKey (k := .int .i64 k) Tryz.underlying3 (by simp [MapKept.IsKey]) false 9999
  simp [Instr.mapUpdate, run_underlying Tryz.underlying96, MapKept.run_getObj_map hb, hc, MapKept.run_findKey Tryz.underlying3 hf, MapKept.run_setObj_map _ hb, Result.andThen]
  exact set_alloc _ _ _

def errNo (i : Nat) : Int := [1, 3, 6, 7, 8, 9, 10, 11].getD i 0
/-- The eight, as the map holds them. -/
def errEs (ad : Nat → Addr) : Array MapEntry := #[{ key := .int .i64 1, val := errV (ad 0), born := 0 }, { key := .int .i64 3, val := errV (ad 1), born := 1 }, { key := .int .i64 6, val := errV (ad 2), born := 2 }, { key := .int .i64 7, val := errV (ad 3), born := 3 }, { key := .int .i64 8, val := errV (ad 4), born := 4 }, { key := .int .i64 9, val := errV (ad 5), born := 5 }, { key := .int .i64 10, val := errV (ad 6), born := 6 }, { key := .int .i64 11, val := errV (ad 7), born := 7 }]
theorem errEs_mem (ad : Nat → Addr) : ∀ x ∈ (errEs ad).toList, ∃ j, j < 8 ∧ x.key = .int .i64 (errNo j) ∧ x.val = errV (ad j) ∧ x.born = j := by
  intro x hx
  simp only [errEs, List.mem_cons, List.not_mem_nil, or_false] at hx
  rcases hx with rfl | rfl | rfl | rfl | rfl | rfl | rfl | rfl
  · exact ⟨0, by decide, rfl, rfl, rfl⟩
  · exact ⟨1, by decide, rfl, rfl, rfl⟩
  · exact ⟨2, by decide, rfl, rfl, rfl⟩
  · exact ⟨3, by decide, rfl, rfl, rfl⟩
  · exact ⟨4, by decide, rfl, rfl, rfl⟩
  · exact ⟨5, by decide, rfl, rfl, rfl⟩
  · exact ⟨6, by decide, rfl, rfl, rfl⟩
  · exact ⟨7, by decide, rfl, rfl, rfl⟩
theorem errEs_at (ad : Nat → Addr) (i : Nat) (hi : i < 8) : ∃ x ∈ (errEs ad).toList, x.born = i := by
  simp only [errEs, List.mem_cons, List.not_mem_nil, or_false]
  match i, hi with
  | 0, _ => exact ⟨_, Or.inl rfl, rfl⟩
  | 1, _ => exact ⟨_, Or.inr (Or.inl rfl), rfl⟩
  | 2, _ => exact ⟨_, Or.inr (Or.inr (Or.inl rfl)), rfl⟩
  | 3, _ => exact ⟨_, Or.inr (Or.inr (Or.inr (Or.inl rfl))), rfl⟩
  | 4, _ => exact ⟨_, Or.inr (Or.inr (Or.inr (Or.inr (Or.inl rfl)))), rfl⟩
  | 5, _ => exact ⟨_, Or.inr (Or.inr (Or.inr (Or.inr (Or.inr (Or.inl rfl))))), rfl⟩
  | 6, _ => exact ⟨_, Or.inr (Or.inr (Or.inr (Or.inr (Or.inr (Or.inr (Or.inl rfl)))))), rfl⟩
  | 7, _ => exact ⟨_, Or.inr (Or.inr (Or.inr (Or.inr (Or.inr (Or.inr (Or.inr (rfl))))))), rfl⟩
theorem errEs_stamped (ad : Nat → Addr) : (∀ x ∈ (errEs ad).toList, x.born < 8) ∧ ((errEs ad).toList.map (·.born)).Nodup := by
  constructor
  · intro x hx
    obtain ⟨j, h1, _, _, h2⟩ := errEs_mem ad x hx
    omega
  · simp [errEs]

set_option maxRecDepth 100000 in
set_option maxHeartbeats 4000000 in
theorem fault_err (w : World) (ad : Nat → Addr) (cs : Nat → Array Value) (ts : Nat → TypeId) (S : SW w ad cs ts) (i : Nat) (hi : i < 8) :
    Calls Tryz.prog 22 #[.iface 372 (.pointer (some (ad i)))] w fun e w' => e = .returned (fv (errNo i) 0) ∧ Gn w w' := by
  have hmm := @run_makeMap Tryz.prog
  have u0 := fun (wx : World) (v : Value) => upd_new wx #[] 0 1 v rfl
  have u1 := fun (wx : World) (v a0 : Value) => upd_new wx #[{ key := .int .i64 1, val := a0, born := 0 }] 1 3 v rfl
  have u2 := fun (wx : World) (v a0 a1 : Value) => upd_new wx #[{ key := .int .i64 1, val := a0, born := 0 }, { key := .int .i64 3, val := a1, born := 1 }] 2 6 v rfl
  have u3 := fun (wx : World) (v a0 a1 a2 : Value) => upd_new wx #[{ key := .int .i64 1, val := a0, born := 0 }, { key := .int .i64 3, val := a1, born := 1 }, { key := .int .i64 6, val := a2, born := 2 }] 3 7 v rfl
  have u4 := fun (wx : World) (v a0 a1 a2 a3 : Value) => upd_new wx #[{ key := .int .i64 1, val := a0, born := 0 }, { key := .int .i64 3, val := a1, born := 1 }, { key := .int .i64 6, val := a2, born := 2 }, { key := .int .i64 7, val := a3, born := 3 }] 4 8 v rfl
  have u5 := fun (wx : World) (v a0 a1 a2 a3 a4 : Value) => upd_new wx #[{ key := .int .i64 1, val := a0, born := 0 }, { key := .int .i64 3, val := a1, born := 1 }, { key := .int .i64 6, val := a2, born := 2 }, { key := .int .i64 7, val := a3, born := 3 }, { key := .int .i64 8, val := a4, born := 4 }] 5 9 v rfl
  have u6 := fun (wx : World) (v a0 a1 a2 a3 a4 a5 : Value) => upd_new wx #[{ key := .int .i64 1, val := a0, born := 0 }, { key := .int .i64 3, val := a1, born := 1 }, { key := .int .i64 6, val := a2, born := 2 }, { key := .int .i64 7, val := a3, born := 3 }, { key := .int .i64 8, val := a4, born := 4 }, { key := .int .i64 9, val := a5, born := 5 }] 6 10 v rfl
  have u7 := fun (wx : World) (v a0 a1 a2 a3 a4 a5 a6 : Value) => upd_new wx #[{ key := .int .i64 1, val := a0, born := 0 }, { key := .int .i64 3, val := a1, born := 1 }, { key := .int .i64 6, val := a2, born := 2 }, { key := .int .i64 7, val := a3, born := 3 }, { key := .int .i64 8, val := a4, born := 4 }, { key := .int .i64 9, val := a5, born := 5 }, { key := .int .i64 10, val := a6, born := 6 }] 7 11 v rfl
  obtain ⟨n0, n1, n2, n3⟩ := faultW_blocks w
  have S4 := hid (S.grown (faultW_grown w))
  have A1 := hid (as_plain_env (w.heap.size + 3) (ad i) (faultW w) (lt_of_block n3) S4.out.hE (Nat.lt_of_lt_of_le (by decide) S4.out.hsz))
  have l1 := lt_of_block n1
  have l2 := lt_of_block n2
  have l0 := lt_of_block n0
  have B4 := hid n0
  clear S n0 n1 n2 n3
  unfold faultW at A1
  go_enter Tryz.func22, Tryz.ntmps22
  go_wp2_with fail
  refine A1.out.mono ?_
  rintro e w5 ⟨rfl, g5⟩
  have g5' : (faultW w).grownBy w5 none := g5
  have S5 := hid (S4.out.grown g5')
  have A2 := hid (as_plain_syntax (w.heap.size + 1) (ad i) w5 (Nat.lt_of_lt_of_le l1 g5'.size) S5.out.hE (Nat.lt_of_lt_of_le (by decide) S5.out.hsz))
  have G5 := hid g5'
  clear g5 g5' A1 S4
  go_wp2_with fail
  refine A2.out.mono ?_
  rintro e w6 ⟨rfl, g6⟩
  have S6 := hid (S5.out.grown g6)
  have G6 := hid (G5.out.trans g6)
  have A3 := hid (as_plain_unbound (w.heap.size + 2) (ad i) w6 (Nat.lt_of_lt_of_le l2 G6.out.size) S6.out.hE (Nat.lt_of_lt_of_le (by decide) S6.out.hsz))
  clear g6 A2 S5 G5
  go_wp2_with fail
  refine A3.out.mono ?_
  rintro e w7 ⟨rfl, g7⟩
  have S7 := S6.out.grown g7
  have G7 := hid (G6.out.trans g7)
  have c0 := fun x => cell_past S7.g0 x
  have c1 := fun x => cell_past S7.g1 x
  have c2 := fun x => cell_past S7.g2 x
  have c3 := fun x => cell_past S7.g3 x
  have c4 := fun x => cell_past S7.g4 x
  have c5 := fun x => cell_past S7.g5 x
  have c6 := fun x => cell_past S7.g6 x
  have c7 := fun x => cell_past S7.g7 x
  have n7 : w7.heap[w.heap.size]? = some (.cells #[.int .i64 0, .int .i64 0, .string (B []), .int .i64 0, .int .i64 0] 23 (0, 0)) := by
    rw [G7.out.block _ l0 (by simp)]; exact B4.out
  have HS7 := hid S7
  obtain ⟨W0, hW0⟩ : ∃ W0, W0 = w7.alloc (.map (errEs ad) 8) := ⟨_, rfl⟩
  have hb0 : W0.heap[w7.heap.size]? = some (.map (errEs ad) 8) := by rw [hW0]; exact heap_alloc_new _ _
  have hsz0 : W0.heap.size = w7.heap.size + 1 := by rw [hW0]; simp
  have old0 : ∀ k, k < w7.heap.size → W0.heap[k]? = w7.heap[k]? := fun k hk => by rw [hW0]; exact Below.heap_alloc _ _ _ hk
  have hrg := run_range_map (P := Tryz.prog) W0 96 3 56 w7.heap.size (errEs ad) 8 Tryz.underlying96 hb0
  have G0 : Hid (w.grownBy W0 none) := by rw [hW0]; exact ((faultW_grown w).trans G7.out).trans (World.grownBy_alloc _ _ _)
  have hrg' := hrg
  rw [hW0] at hrg'
  unfold errEs at hrg'
  clear g7 A3 S6 G6 S7 B4
  go_wp2_with fail
  rw [show (Obj.map #[{ key := Value.int IntKind.i64 1, val := errV (ad 0), born := 0 }, { key := Value.int IntKind.i64 3, val := errV (ad 1), born := 1 }, { key := Value.int IntKind.i64 6, val := errV (ad 2), born := 2 }, { key := Value.int IntKind.i64 7, val := errV (ad 3), born := 3 }, { key := Value.int IntKind.i64 8, val := errV (ad 4), born := 4 }, { key := Value.int IntKind.i64 9, val := errV (ad 5), born := 5 }, { key := Value.int IntKind.i64 10, val := errV (ad 6), born := 6 }, { key := Value.int IntKind.i64 11, val := errV (ad 7), born := 7 }] 8) = Obj.map (errEs ad) 8 from rfl] at *
  rw [← hW0]
  clear hrg hrg' u0 u1 u2 u3 u4 u5 u6 u7 hmm c0 c1 c2 c3 c4 c5 c6 c7
  have hN7 : w.heap.size < w7.heap.size := lt_of_block n7
  have e0 : W0.heap[w.heap.size]? = some (.cells #[.int .i64 0, .int .i64 0, .string (B []), .int .i64 0, .int .i64 0] 23 (0, 0)) := by rw [old0 _ hN7]; exact n7
  have ea : ∀ k, k < 8 → W0.heap[(ad k).block]? = some (.cells (cs k) (ts k) (0, 0)) := fun k hk => by rw [old0 _ (lt_of_block (HS7.out.hb k hk))]; exact HS7.out.hb k hk
  have HE0 := hid e0
  have HEA := hid ea
  have HB0 := hid hb0
  clear hW0 hb0 old0 n7 e0 ea
  go_loopw [] (fun w' => ∃ (w1 : World) (seen : Array Nat), w1.Alike W0 ∧ w' = w1.alloc (.mapIter (some w7.heap.size) 8 seen 8) ∧ Hid (∀ x ∈ (errEs ad).toList, seen.contains x.born = true → x.born ≠ i)) (fun w' => (leftOf (errEs ad) (w'.iterSeen (w7.heap.size + 1))).size)
  case atStart => exact ⟨W0, #[], ⟨rfl, rfl, rfl⟩, rfl, fun x _ h => by simp at h⟩
  case round =>
    obtain ⟨w1, seen, hal, rfl, HNO⟩ := hrel
    have hsz : w1.heap.size = w7.heap.size + 1 := by rw [hal.1]; exact hsz0
    have hb1 : w1.heap[w7.heap.size]? = some (.map (errEs ad) 8) := by rw [hal.1]; exact HB0.out
    have law := run_next_map (P := Tryz.prog) w1 0 w7.heap.size 8 8 seen (errEs ad) 8 hb1 (errEs_stamped ad).1 (Nat.le_refl _)
    rw [hsz] at law
    rcases law with ⟨h0, hrun⟩ | ⟨e, he, w2, hal2, hrun⟩
    · obtain ⟨x, hx, hxb⟩ := errEs_at ad i hi
      exact absurd hxb (HNO.out x hx (all_seen _ _ h0 x hx))
    · obtain ⟨j, hj8, hkey, hval, hborn⟩ := errEs_mem ad e (mem_left he).1
      have hsz2 : w2.heap.size = w7.heap.size + 1 := by rw [hal2.1, hal.1]; exact hsz0
      have hb2 : w2.heap[w7.heap.size]? = some (.map (errEs ad) 8) := by rw [hal2.1]; exact hb1
      have hen := run_entry_map (P := Tryz.prog) w2 w7.heap.size 8 seen (errEs ad) 8 e hb2 (mem_left he).1 (errEs_stamped ad).2
      rw [hkey, hval] at hrun
      rw [hsz2, hkey, hval] at hen
      have hnx : ∀ ty, (Instr.next (.pointer (some ⟨w7.heap.size + 1, 0, none⟩)) false ty).run Tryz.prog (w1.alloc (.mapIter (some w7.heap.size) 8 seen 8)) = _ := fun _ => hrun
      have hal3 : w2.Alike W0 := ⟨hal2.1.trans hal.1, hal2.2.1.trans hal.2.1, hal2.2.2.trans hal.2.2⟩
      obtain ⟨wX, hwX⟩ : ∃ wX, wX = w2.alloc (.mapIter (some w7.heap.size) 8 (seen.push e.born) 8) := ⟨_, rfl⟩
      rw [← hwX] at hnx hen
      have oldX : ∀ k, k < w7.heap.size + 1 → wX.heap[k]? = W0.heap[k]? := fun k hk => by rw [hwX, Below.heap_alloc _ _ _ (by omega), hal3.1]
      have eX := HE0.out
      rw [← oldX _ (by omega)] at eX
      have aX : ∀ k, k < 8 → wX.heap[(ad k).block]? = some (.cells (cs k) (ts k) (0, 0)) := fun k hk => by
        rw [oldX _ (by have := lt_of_block (HEA.out k hk); omega)]
        exact HEA.out k hk
      obtain ⟨⟨q0, q1, q2, q3, q4⟩, f0, f1, f2, f3, f4⟩ := five_c eX
      have HAX := hid aX
      have HWX := hid hwX
      have HAL := hid hal3
      have GX : Hid (Gn w wX) := by
        have g0 := Gn.of G0.out
        show Gn w wX
        rw [hwX]
        exact Gn.trans (b := w2) ⟨hal3.2.1.trans g0.os, hal3.2.2.trans g0.output, by rw [hal3.1]; exact g0.size, fun k hk => by rw [hal3.1]; exact g0.block k hk⟩ (Gn.of (World.grownBy_alloc _ _ _))
      have HE := hid he
      have HBO := hid hborn
      clear hwX oldX eX aX hal hal2 hal3 hb1 hb2 he hkey hval hborn hrun hsz0
      by_cases hji : j = i
      · subst hji
        unfold errV at hnx hen
        go_wp2_with (go_at_call 39; refine (is_same _ _).mono ?_; rintro e w' ⟨rfl, rfl⟩)
        refine bodyPost_ret (v := fv (errNo j) 0) (by simp [results, Tryz.results22, go_sem, q0, q1, q2, q3, q4]; rfl) rfl ?_
        exact ⟨rfl, GX.out.set5 (Nat.le_refl _) _ _ _ _ _⟩
      · have HIO := hid (is_other (ad i) (ad j) (cs i) (cs j) (ts i) (ts j) wX (HS7.out.hne i j hi hj8 (fun e => hji e.symm)) (HAX.out i hi) (HAX.out j hj8))
        unfold errV at hnx hen
        go_wp2_with (go_at_call 39; refine HIO.out.mono ?_; rintro e w' ⟨rfl, rfl⟩)
        go_roundw
        case rel =>
          refine ⟨w2, seen.push e.born, HAL.out, HWX.out, fun x hx hc => ?_⟩
          rw [contains_push] at hc
          rcases Bool.or_eq_true _ _ ▸ hc with h1 | h1
          · exact HNO.out x hx h1
          · rw [beq_iff_eq.1 h1, HBO.out]
            exact hji
        case measure =>
          rw [HWX.out, ← hsz2, World.iterSeen_alloc, hsz2, ← hsz, World.iterSeen_alloc]
          exact left_shrinks (errEs ad) seen e HE.out
end Go.Proofs.YtcdijppegfcoaabGreatDoor

/-
  OUR OWN TEXT. typerlaw.said; faults held against each other; keywords in a later world.
-/
namespace Go.Proofs.YtcdijppegfcoaabGreatDoor
open Go.RowKit

theorem KwO.gn {w w' : World} {kb ko : Nat} {kw : List (List UInt8)} (h : KwO w kb ko kw) (hb : kb < w.heap.size) (hg : Gn w w') : KwO w' kb ko kw := fun j hj => Gn.cell (h j hj) hb hg
theorem Gn.below {w w' : World} (h : Below w.heap.size w w') : Gn w w' := ⟨h.os, h.output, h.size, h.block⟩
end Go.Proofs.YtcdijppegfcoaabGreatDoor

/-
  OUR OWN TEXT. What reading a type tells, in one word for both sides; the program's infer.Instance.
-/
namespace Go.Proofs.YtcdijppegfcoaabGreatDoor
open Go.RowKit

/-- The text is no type: the fault. -/
def RdF (s : ByteArray) (a b : Int) : Prop :=
  (300 < s.size ∧ a = 1 ∧ b = 0) ∨ (s.size ≤ 300 ∧ ∃ x ns s1, arrS (toksOf tyKw s) (s.size + 2) [] ⟨0, -1⟩ = some (x, ns, s1) ∧ s1.k < (toksOf tyKw s).length ∧
    ((0 ≤ (needS (toksOf tyKw s) s1 kEnd).bad ∧ a = 2 ∧ b = (needS (toksOf tyKw s) s1 kEnd).bad) ∨ ((needS (toksOf tyKw s) s1 kEnd).bad < 0 ∧ a = 8 ∧ b = 0 ∧ ∀ N m, TyOk N m x → 120 < tySize m x)))
/-- The text is this type, with these names. -/
def RdT (s : ByteArray) (x : Ty) (ns : List (List UInt8)) : Prop :=
  s.size ≤ 300 ∧ ∃ s1, arrS (toksOf tyKw s) (s.size + 2) [] ⟨0, -1⟩ = some (x, ns, s1) ∧ s1.k < (toksOf tyKw s).length ∧ (needS (toksOf tyKw s) s1 kEnd).bad < 0 ∧ ∀ N m, TyOk N m x → tySize m x ≤ 120
theorem ty_have2 (s : ByteArray) : ∃ x ns s1, arrS (toksOf tyKw s) (s.size + 2) [] ⟨0, -1⟩ = some (x, ns, s1) ∧ s1.k < (toksOf tyKw s).length := by
  obtain ⟨f1, f2, f3⟩ := toks_facts tyKw s (s.size + 1) 0 (Nat.zero_le _) (by omega)
  have hlen := toksOf_len tyKw s
  exact arr_tot (T := toksOf tyKw s) f1 (s.size + 2) [] ⟨0, -1⟩ (by show (-1 : Int) < 0; omega) f1.1 (by show (toksOf tyKw s).length - 0 < s.size + 2; omega)
theorem rd_cases (s : ByteArray) : (∃ a b, RdF s a b ∧ 0 < a) ∨ ∃ x ns, RdT s x ns := by
  by_cases hs : s.size ≤ 300
  · obtain ⟨x, ns, s1, hx, hk⟩ := ty_have2 s
    rcases Int.lt_or_le (needS (toksOf tyKw s) s1 kEnd).bad 0 with hb | hb
    · obtain ⟨m, ok, _, _⟩ := arr_made (toksOf tyKw s) _ [] ⟨0, -1⟩ x ns s1 (by show (-1 : Int) < 0; omega) hx
      by_cases h : 120 < tySize m x
      · exact Or.inl ⟨8, 0, Or.inr ⟨hs, x, ns, s1, hx, hk, Or.inr ⟨hb, rfl, rfl, fun N m' ok' => by rw [(ty_same ok' ok).1]; exact h⟩⟩, by omega⟩
      · exact Or.inr ⟨x, ns, hs, s1, hx, hk, hb, fun N m' ok' => by rw [(ty_same ok' ok).1]; omega⟩
    · exact Or.inl ⟨2, _, Or.inr ⟨hs, x, ns, s1, hx, hk, Or.inl ⟨hb, rfl, rfl⟩⟩, by omega⟩
  · exact Or.inl ⟨1, 0, Or.inl ⟨by omega, rfl, rfl⟩, by omega⟩
theorem RdT.names {s : ByteArray} {x : Ty} {ns : List (List UInt8)} (h : RdT s x ns) : Nms ns.length ns ∧ ns.length ≤ 1000 := by
  obtain ⟨hs, s1, hx, hk, hb, _⟩ := h
  refine ⟨names_of hx ((needS_go _ s1 kEnd).2.2 hb).1, ?_⟩
  have h1 := (arr_went (toksOf tyKw s) _ [] ⟨0, -1⟩ x ns s1 (by show (-1 : Int) < 0; omega) hx)
  have h2 := toksOf_len tyKw s
  have h3 : ns.length + 0 ≤ 0 + s1.k + 1 := h1.2.2.1
  omega

/-- An error of the program's, and the fault that it is. -/
def ErrV (w : World) (ad : Nat → Addr) (v : Value) (a b : Int) : Prop :=
  (∃ i, i < 8 ∧ v = errV (ad i) ∧ a = errNo i ∧ b = 0) ∨ ∃ c, v = .iface 81 (.pointer (some ⟨c, 0, none⟩)) ∧ w.heap[c]? = some (.cells #[.int .i64 b] 92 (0, 0)) ∧ a = 2
theorem ErrV.val {w : World} {ad : Nat → Addr} {v : Value} {a b : Int} (h : ErrV w ad v a b) : ∃ t p, v = .iface t (.pointer (some p)) := by
  rcases h with ⟨i, _, rfl, _⟩ | ⟨c, rfl, _⟩
  · exact ⟨_, _, rfl⟩
  · exact ⟨_, _, rfl⟩
theorem ErrV.grown {w w' : World} {ad : Nat → Addr} {v : Value} {a b : Int} (h : ErrV w ad v a b) (hg : w.grownBy w' none) : ErrV w' ad v a b := by
  rcases h with h | ⟨c, h1, h2, h3⟩
  · exact Or.inl h
  · exact Or.inr ⟨c, h1, by rw [hg.block c (lt_of_block h2) (by simp)]; exact h2, h3⟩
theorem read_f (s : ByteArray) (a b : Int) (w : World) (ad : Nat → Addr) (cs : Nat → Array Value) (ts : Nat → TypeId) (S : SW w ad cs ts) (h : RdF s a b) :
    Calls Tryz.prog 35 #[.string s] w fun e w' => w.grownBy w' none ∧ ∃ v, e = .returned (.tuple #[.nilIface, v]) ∧ ErrV w' ad v a b := by
  rcases h with ⟨hs, rfl, rfl⟩ | ⟨hs, x, ns, s1, hx, hk, h⟩
  · refine (read_qlong s hs w (ad 0) S.g0 (Nat.lt_of_lt_of_le (by decide) S.hsz)).mono ?_
    rintro e w' ⟨rfl, g⟩
    exact ⟨g, _, rfl, Or.inl ⟨0, by omega, rfl, rfl, rfl⟩⟩
  · refine (read_q s hs w _ x ns s1 hx hk (ad 4) S.g4 (Nat.lt_of_lt_of_le (by decide) S.hsz)).mono ?_
    rintro e w' ⟨g, (⟨hb, c, rfl, hc⟩ | ⟨hb, v, H', m, z1, r1, ok, hd⟩)⟩
    · rcases h with ⟨_, rfl, rfl⟩ | ⟨hb', _⟩
      · exact ⟨g, _, rfl, Or.inr ⟨c, rfl, hc, rfl⟩⟩
      · omega
    · rcases h with ⟨hb', _⟩ | ⟨_, rfl, rfl, hbig⟩
      · omega
      · rcases hd with ⟨_, rfl⟩ | ⟨hd, _⟩
        · exact ⟨g, _, rfl, Or.inl ⟨4, by omega, rfl, rfl, rfl⟩⟩
        · exact absurd (hbig _ _ ok) (by omega)
theorem read_t (s : ByteArray) (x : Ty) (ns : List (List UInt8)) (w : World) (ad : Nat → Addr) (cs : Nat → Array Value) (ts : Nat → TypeId) (S : SW w ad cs ts) (h : RdT s x ns) :
    Calls Tryz.prog 35 #[.string s] w fun e w' => w.grownBy w' none ∧ ∃ u H m, e = .returned (.tuple #[u, .nilIface]) ∧ Fz H w' ∧ QRep ns m H u x ∧ TyOk ns.length m x ∧ tySize m x ≤ 120 := by
  obtain ⟨hs, s1, hx, hk, hb, hsz⟩ := h
  refine (read_q s hs w _ x ns s1 hx hk (ad 4) S.g4 (Nat.lt_of_lt_of_le (by decide) S.hsz)).mono ?_
  rintro e w' ⟨g, (⟨hb', _⟩ | ⟨_, v, H', m, z1, r1, ok, (⟨hd, _⟩ | ⟨hd, rfl⟩)⟩)⟩
  · omega
  · exact absurd (hsz _ _ ok) (by omega)
  · exact ⟨g, v, H', m, rfl, z1, r1, ok, hd⟩
end Go.Proofs.YtcdijppegfcoaabGreatDoor

/-
  OUR OWN TEXT. The program's infer.Instance.
-/
namespace Go.Proofs.YtcdijppegfcoaabGreatDoor
open Go.RowKit

theorem one_short {T : List Tok} (hT : Sh T) {A : List (List UInt8) → St → Option (Ty × List (List UInt8) × St)} (hA : ∀ ns s t ns' s', A ns s = some (t, ns', s') → s'.bad < 0 → (∀ n, n ∈ ns → n.length ≤ 8) → ∀ n, n ∈ ns' → n.length ≤ 8) (ns : List (List UInt8)) (s : St) (t : Ty) (ns' : List (List UInt8)) (s' : St)
    (h : oneS A T ns s = some (t, ns', s')) (hb : s'.bad < 0) (hn : ∀ n, n ∈ ns → n.length ≤ 8) : ∀ n, n ∈ ns' → n.length ≤ 8 := by
  unfold oneS at h
  split at h
  · cases h; exact hn
  · split at h
    · cases h; exact hn
    · split at h
      · cases e : A ns s.up with
        | none => rw [e] at h; cases h
        | some q =>
          obtain ⟨t1, n1, s1⟩ := q
          rw [e] at h
          cases h
          exact hA _ _ _ _ _ e ((needS_go T s1 kQs).2.2 hb).1 hn
      · split at h
        · cases e : A ns s.up with
          | none => rw [e] at h; cases h
          | some q =>
            obtain ⟨t1, n1, s1⟩ := q
            rw [e] at h
            simp only at h
            split at h
            · rename_i hc
              cases e2 : A n1 s1.up with
              | none => rw [e2] at h; cases h
              | some q2 =>
                obtain ⟨t2, n2, s2⟩ := q2
                rw [e2] at h
                cases h
                exact hA _ _ _ _ _ e2 ((needS_go T s2 kShut).2.2 hb).1 (hA _ _ _ _ _ e (isS_ok hc) hn)
            · cases h
              exact hA _ _ _ _ _ e ((needS_go T s1 kShut).2.2 hb).1 hn
        · cases h
          have hnm : isS T s kName = true := by
            cases hi : isS T s kName with
            | true => rfl
            | false =>
              have h1 := ((needS_go T s kName).2.2 hb).2
              have h2 := ((needS_go T s kName).2.2 hb).1
              rw [needS, if_neg (by rw [hi]; decide), if_pos h2] at hb
              exact absurd hb (by show ¬ ((tk T s.k).pos : Int) < 0; omega)
          have hk : (tk T s.k).is = kName := by
            simp only [isS, Bool.and_eq_true, beq_iff_eq] at hnm
            exact hnm.2
          intro n hmem
          unfold numS at hmem
          split at hmem
          · exact hn n hmem
          · rcases List.mem_append.1 hmem with h | h
            · exact hn n h
            · rw [List.mem_singleton.1 h]
              exact hT s.k (Or.inl hk)
theorem arr_short {T : List Tok} (hT : Sh T) : ∀ (n : Nat) (ns : List (List UInt8)) (s : St) (t : Ty) (ns' : List (List UInt8)) (s' : St), arrS T n ns s = some (t, ns', s') → s'.bad < 0 → (∀ n, n ∈ ns → n.length ≤ 8) → ∀ n, n ∈ ns' → n.length ≤ 8
  | 0, _, _, _, _, _, h, _, _ => by cases h
  | n + 1, ns, s, t, ns', s', h, hb, hn => by
    rw [arrS] at h
    cases e : oneS (arrS T n) T ns s with
    | none => rw [e] at h; cases h
    | some q =>
      obtain ⟨t1, n1, s1⟩ := q
      rw [e] at h
      simp only at h
      split at h
      · rename_i hc
        have p1 := one_short hT (arr_short hT n) ns s t1 n1 s1 e (isS_ok hc) hn
        cases e2 : arrS T n n1 s1.up with
        | none => rw [e2] at h; cases h
        | some q2 =>
          obtain ⟨t2, n2, s2⟩ := q2
          rw [e2] at h
          cases h
          exact arr_short hT n _ _ _ _ _ e2 hb p1
      · cases h
        exact one_short hT (arr_short hT n) ns s _ _ _ e hb hn
theorem RdT.short {s : ByteArray} {x : Ty} {ns : List (List UInt8)} (h : RdT s x ns) : ∀ i, i < ns.length → (ns.getD i []).length ≤ 300 := by
  obtain ⟨hs, s1, hx, hk, hb, _⟩ := h
  obtain ⟨f1, f2, f3⟩ := toks_facts tyKw s (s.size + 1) 0 (Nat.zero_le _) (by omega)
  intro i hi
  have := arr_short (T := toksOf tyKw s) f2 _ [] ⟨0, -1⟩ x ns s1 hx ((needS_go _ s1 kEnd).2.2 hb).1 (by simp) _ (getD_mem hi)
  omega
theorem text_same2 {N N' m m' : Nat} {t : Ty} (ns : List (List UInt8)) (h : TyOk N m t) (h' : TyOk N' m' t) : tyText m ns t = tyText m' ns t := by
  rcases Nat.le_total m m' with hl | hl
  · exact (TyOk.text ns m m' t h hl).symm
  · exact TyOk.text ns m' m t h' hl
theorem mKids_congr {f f' : Ty → Ty → List (Option (List UInt8)) → Option (List (Option (List UInt8)))} : ∀ (xs ys : List Ty), (∀ a b g, a ∈ xs → b ∈ ys → f a b g = f' a b g) → ∀ g, mKids f xs ys g = mKids f' xs ys g
  | [], ys, _, g => by simp [mKids]
  | a :: xs, [], _, g => by simp [mKids]
  | a :: xs, b :: ys, h, g => by
    rw [mKids, mKids, h a b g (by simp) (by simp)]
    cases f' a b g with
    | none => rfl
    | some g1 => exact mKids_congr xs ys (fun a b g ha hb => h a b g (List.mem_cons_of_mem _ ha) (List.mem_cons_of_mem _ hb)) g1
/-- What variables stand for does not hang on the fuel. -/
theorem match_fuel {Nx Nx' Ny Ny' M M' : Nat} {ns : List (List UInt8)} : ∀ (n n' : Nat) (x y : Ty) (g : List (Option (List UInt8))), TyOk Nx n x → TyOk Nx' n' x → TyOk Ny M y → TyOk Ny' M' y → matchS M ns n x y g = matchS M' ns n' x y g
  | 0, _, _, _, _, h, _, _, _ => absurd h id
  | n + 1, 0, _, _, _, _, h, _, _ => absurd h id
  | n + 1, n' + 1, x, y, g, h1, h2, h3, h4 => by
    by_cases hk : x.kind = []
    · rw [matchS_stand hk, matchS_stand hk, text_same2 ns h3 h4]
    · rw [matchS, matchS, if_neg hk, if_neg hk]
      split
      · refine mKids_congr _ _ (fun a b g ha hb => ?_) g
        have k3 : TyOk Ny M b := by
          cases M with
          | zero => exact absurd h3 id
          | succ M => exact TyOk.up M b (ok_kid h3 hb)
        have k4 : TyOk Ny' M' b := by
          cases M' with
          | zero => exact absurd h4 id
          | succ M' => exact TyOk.up M' b (ok_kid h4 hb)
        exact match_fuel n n' a b g (ok_kid h1 ha) (ok_kid h2 ha) k3 k4
      · rfl

set_option maxRecDepth 100000 in
theorem inst_f1 (s1 s2 : ByteArray) (a b : Int) (w : World) (ad : Nat → Addr) (cs : Nat → Array Value) (ts : Nat → TypeId) (S : SW w ad cs ts) (h : RdF s1 a b) :
    Calls Tryz.prog 23 #[.string s1, .string s2] w fun e w' => w.grownBy w' none ∧ ∃ v, e = .returned (.tuple #[.map none, v]) ∧ ErrV w' ad v a b := by
  have CR := hid (read_f s1 a b w ad cs ts S h)
  clear S h
  go_enter Tryz.func23, Tryz.ntmps23
  go_wp2_with fail
  refine CR.out.mono ?_
  rintro e w1 ⟨g1, v, rfl, hv⟩
  obtain ⟨t, p, rfl⟩ := hv.val
  have Q := hid (And.intro g1 hv)
  clear g1 hv CR
  go_wp2
  go_ret2
  exact ⟨Q.out.1, _, rfl, Q.out.2⟩

set_option maxRecDepth 100000 in
theorem inst_f2 (s1 s2 : ByteArray) (x : Ty) (ns : List (List UInt8)) (a b : Int) (w : World) (ad : Nat → Addr) (cs : Nat → Array Value) (ts : Nat → TypeId) (S : SW w ad cs ts) (h1 : RdT s1 x ns) (h2 : RdF s2 a b) :
    Calls Tryz.prog 23 #[.string s1, .string s2] w fun e w' => w.grownBy w' none ∧ ∃ v, e = .returned (.tuple #[.map none, v]) ∧ ErrV w' ad v a b := by
  have CR := hid (read_t s1 x ns w ad cs ts S h1)
  have HS := hid S
  clear S h1
  go_enter Tryz.func23, Tryz.ntmps23
  go_wp2_with fail
  refine CR.out.mono ?_
  rintro e w1 ⟨g1, u, H, m, rfl, hz, hq, _, _⟩
  obtain ⟨tu, bu, _, rfl, _⟩ := hq.val hz
  have CF := hid (read_f s2 a b w1 ad cs ts (HS.out.grown g1) h2)
  have G1 := hid g1
  clear g1 hz hq CR h2
  go_wp2_with fail
  refine CF.out.mono ?_
  rintro e w2 ⟨g2, v, rfl, hv⟩
  obtain ⟨t, p, rfl⟩ := hv.val
  have Q := hid (And.intro g2 hv)
  clear g2 hv CF
  go_wp2
  go_ret2
  exact ⟨G1.out.trans Q.out.1, _, rfl, Q.out.2⟩

/-- What Instance leaves of two types. -/
def InO (w w' : World) (ad : Nat → Addr) (na : List (List UInt8)) (e : Ending) (res : Option (List (Option (List UInt8)))) : Prop :=
  w.grownBy w' none ∧ ((res = none ∧ e = .returned (.tuple #[.map none, errV (ad 7)])) ∨ ∃ g mb, res = some g ∧ e = .returned (.tuple #[.map (some mb), .nilIface]) ∧ FM w' mb na g)

set_option maxRecDepth 100000 in
set_option maxHeartbeats 2000000 in
theorem inst_ok (s1 s2 : ByteArray) (x y : Ty) (na nb : List (List UInt8)) (K K' Nx Ny : Nat) (w : World) (ad : Nat → Addr) (cs : Nat → Array Value) (ts : Nat → TypeId) (S : SW w ad cs ts) (h1 : RdT s1 x na) (h2 : RdT s2 y nb) (kx : TyOk Nx K x) (ky : TyOk Ny K' y) :
    Calls Tryz.prog 23 #[.string s1, .string s2] w fun e w' => InO w w' ad na e (matchS K' nb K x y (List.replicate na.length none)) := by
  have CR := hid (read_t s1 x na w ad cs ts S h1)
  have HS := hid S
  obtain ⟨n1, l1⟩ := h1.names
  obtain ⟨n2, l2⟩ := h2.names
  have hnb := h2.short
  obtain ⟨res, hres⟩ : ∃ res, res = matchS K' nb K x y (List.replicate na.length none) := ⟨_, rfl⟩
  rw [← hres]
  have HRES := hid hres
  clear hres
  have HN := hid (And.intro n1.nd (And.intro l1 hnb))
  have KX := hid (And.intro kx ky)
  clear S h1 n1 l1 n2 l2 hnb kx ky
  go_enter Tryz.func23, Tryz.ntmps23
  go_wp2_with fail
  refine CR.out.mono ?_
  rintro e w1 ⟨g1, u, H1, m1, rfl, z1, q1, o1, _⟩
  obtain ⟨tu, bu, _, rfl, _⟩ := q1.val z1
  have CF := hid (read_t s2 y nb w1 ad cs ts (HS.out.grown g1) h2)
  have G1 := hid g1
  have A1 := hid (And.intro z1 (And.intro q1 o1))
  clear g1 z1 q1 o1 CR h2
  go_wp2_with fail
  refine CF.out.mono ?_
  rintro e w2 ⟨g2, v, H2, m2, rfl, z2, q2, o2, s2'⟩
  obtain ⟨tv, bv, _, rfl, _⟩ := q2.val z2
  obtain ⟨z1, q1, o1⟩ := A1.out
  obtain ⟨z12, e1, e2⟩ := fz_both (z1.grown g2) z2
  have hM : m1 ≤ max m1 m2 := by omega
  have cm := match_q (N := nb.length) HN.out.2.2 HN.out.1 HN.out.2.1 (both H1 H2) _ _ x y w2 (QRep.ext e1 _ _ _ q1) ((QRep.ext e2 _ _ _ q2).le (show m2 ≤ max m1 m2 by omega)) (o2.le (by omega)) (by rw [TyOk.size m2 (max m1 m2) y o2 (by omega)]; omega) hM z12
  rw [match_fuel m1 K x y _ o1 KX.out.1 (o2.le (show m2 ≤ max m1 m2 by omega)) KX.out.2, ← HRES.out] at cm
  have CM := hid cm
  have hg7 : w2.cell? ⟨7, 0, none⟩ = some (errV (ad 7)) := ((HS.out.grown G1.out).grown g2).g7
  have S2 := hid ((HS.out.grown G1.out).grown g2)
  have G2 := hid (G1.out.trans g2)
  clear g2 z2 q2 o2 s2' z1 q1 o1 z12 e1 e2 hM cm CF A1 G1 KX HN HS
  go_wp2_with fail
  refine CM.out.mono ?_
  rintro e w3 ⟨g3, (⟨rfl, rfl⟩ | ⟨g, mb, rfl, rfl, hF⟩)⟩
  · have hg8 : w3.cell? ⟨7, 0, none⟩ = some (errV (ad 7)) := (S2.out.grown g3).g7
    unfold errV at hg8
    have G3 := hid g3
    clear g3 CM hg7
    go_wp2_with fail
    go_region
    go_wp2
    go_ret2
    exact ⟨grown_drew (G2.out.trans G3.out), Or.inl ⟨rfl, rfl⟩⟩
  · have G3 := hid g3
    have HF := hid hF
    clear g3 CM hg7 hF
    go_wp2
    go_ret2
    exact ⟨G2.out.trans G3.out, Or.inr ⟨g, mb, rfl, rfl, HF.out⟩⟩
end Go.Proofs.YtcdijppegfcoaabGreatDoor

/-
  OUR OWN TEXT. plain.Instance where something is wrong.
-/
namespace Go.Proofs.YtcdijppegfcoaabGreatDoor
open Go.RowKit

theorem fault_of (w : World) (ad : Nat → Addr) (cs : Nat → Array Value) (ts : Nat → TypeId) (S : SW w ad cs ts) {v : Value} {a b : Int} (h : ErrV w ad v a b) : Calls Tryz.prog 22 #[v] w fun e w' => e = .returned (fv a b) ∧ Gn w w' := by
  rcases h with ⟨i, hi, rfl, rfl, rfl⟩ | ⟨c, rfl, hc, rfl⟩
  · exact fault_err w ad cs ts S i hi
  · refine (fault_syn w ad cs ts S c b hc).mono ?_
    rintro e w' ⟨h1, h2⟩
    exact ⟨h1, Gn.of h2⟩
theorem map_nil (w : World) : (binOp .eql 60 (.map none) (.map none)).run Tryz.prog w = .ok (.bool true) w := by kernel_rfl
theorem map_some (b : Nat) (w : World) : (binOp .eql 60 (.map (some b)) (.map none)).run Tryz.prog w = .ok (.bool false) w := by kernel_rfl
theorem keys_c (mb : Option Nat) (W : World) : Calls Tryz.prog 25 #[.map mb] W fun e w' => e = .returned (.func (.func 43) #[] #[.pointer (some ⟨W.heap.size, 0, none⟩)]) ∧ w' = W.alloc (.cells #[.map mb] 60) :=
  callsIn_wide.1 (Tryz.maps_Keys_25 mb W)
theorem sorted_nil (W : World) : Calls Tryz.prog 24 #[.func (.func 43) #[] #[.pointer (some ⟨W.heap.size, 0, none⟩)]] (W.alloc (.cells #[.map none] 60)) fun e w' => e = .returned (.slice none 0 0) ∧ (W.alloc (.cells #[.map none] 60)).grownBy w' none := by
  refine (callsIn_wide.1 (Tryz.slices_Sorted_keys_nil_24_25 W)).mono ?_
  rintro e w' ⟨v, ss, rfl, hs, _, hn, hb⟩
  rw [hn.2 hs]
  exact ⟨rfl, hb.os, hb.tape, hb.output, hb.size, fun k hk _ => hb.block k hk⟩

set_option maxRecDepth 100000 in
set_option maxHeartbeats 4000000 in
theorem pinst_err (s1 s2 : ByteArray) (a b : Int) (w : World) (ad : Nat → Addr) (cs : Nat → Array Value) (ts : Nat → TypeId) (S : SW w ad cs ts)
    (CI : ∀ W, SW W ad cs ts → Calls Tryz.prog 23 #[.string s1, .string s2] W fun e w' => W.grownBy w' none ∧ ∃ v, e = .returned (.tuple #[.map none, v]) ∧ ErrV w' ad v a b) :
    Calls Tryz.prog 9 #[.string s1, .string s2] w fun e w' => e = .returned (.tuple #[.slice none 0 0, .slice none 0 0, .bool true, fv a b]) ∧ Gn w w' := by
  have g0 : w.grownBy (w.alloc (.cells #[.int .i64 0, .int .i64 0, .string (B []), .int .i64 0, .int .i64 0] 23)) none := World.grownBy_alloc _ _ _
  have S0 := S.grown g0
  have HC := hid (CI _ S0)
  have SH := hid S0
  have G0 := hid g0
  clear S S0 g0 CI
  go_enter Tryz.func9, Tryz.ntmps9
  go_wp2_with fail
  refine HC.out.mono ?_
  rintro e w1 ⟨g1, v, rfl, hv⟩
  obtain ⟨t, p, rfl⟩ := hv.val
  have n0 : w1.heap[w.heap.size]? = some (.cells #[.int .i64 0, .int .i64 0, .string (B []), .int .i64 0, .int .i64 0] 23 (0, 0)) := by
    rw [g1.block _ (by simp) (by simp)]
    exact heap_alloc_new _ _
  have l0 := lt_of_block n0
  have S1 := hid (SH.out.grown g1)
  have G1 := hid (G0.out.trans g1)
  have HV := hid hv
  have N0 := hid n0
  clear g1 hv n0 HC
  go_wp2_with fail
  refine (keys_c none w1).mono ?_
  rintro e w2 ⟨rfl, rfl⟩
  go_wp2_with fail
  refine (sorted_nil w1).mono ?_
  rintro e w3 ⟨rfl, g3⟩
  have g13 : w1.grownBy w3 none := (World.grownBy_alloc _ _ _).trans g3
  have S3 := S1.out.grown g13
  have FA := hid (fault_of w3 ad cs ts S3 (HV.out.grown g13))
  have n3 : w3.heap[w.heap.size]? = some (.cells #[.int .i64 0, .int .i64 0, .string (B []), .int .i64 0, .int .i64 0] 23 (0, 0)) := by
    rw [g13.block _ l0 (by simp)]
    exact N0.out
  have N3 := hid n3
  have l3 := lt_of_block n3
  have G3 := hid (G1.out.trans g13)
  clear g3 g13 S3 n3 S1 HV N0
  go_wp2_with fail
  go_loopg [4, 5, 22] 1 (fun gh x y i wi => x = .slice none 0 0 ∧ y = .slice none 0 0 ∧ i = .int .i64 0 ∧ gh = 1 ∧ wi = w3)
  case atStart => exact ⟨rfl, rfl, rfl, rfl, rfl⟩
  case round =>
    obtain ⟨rfl, rfl, rfl, hgh, rfl⟩ := hrel
    have hmn := map_nil
    go_wp2_with fail
    refine FA.out.mono ?_
    rintro e w4 ⟨rfl, g4⟩
    have n4 : w4.heap[w.heap.size]? = some (.cells #[.int .i64 0, .int .i64 0, .string (B []), .int .i64 0, .int .i64 0] 23 (0, 0)) := by
      rw [g4.block _ l3]; exact N3.out
    obtain ⟨⟨q0, q1, q2, q3, q4⟩, f0, f1, f2, f3, f4⟩ := five_c n4
    have G4 := hid ((Gn.of G3.out).trans g4)
    clear g4 n4
    unfold fv
    go_wp2
    refine bodyPost_ret (v := .tuple #[.slice none 0 0, .slice none 0 0, .bool true, fv a b]) (by simp [results, Tryz.results9, go_sem, q0, q1, q2, q3, q4]; rfl) rfl ?_
    exact ⟨rfl, G4.out.set5 (Nat.le_refl _) _ _ _ _ _⟩
end Go.Proofs.YtcdijppegfcoaabGreatDoor

/-
  OUR OWN TEXT. plain.Instance of two types that fit.
-/
namespace Go.Proofs.YtcdijppegfcoaabGreatDoor
open Go.RowKit Go.Maps Go.Sort

/-- The names, rising. -/
def sortS (na : List (List UInt8)) : List (List UInt8) := na.mergeSort (fun x y => decide (x ≤ y))
/-- What the variable of that name stands for. -/
def txtS (na : List (List UInt8)) (g : List (Option (List UInt8))) (k : List UInt8) : List UInt8 := (g.getD (na.idxOf k) none).getD []
theorem FM.perm {w : World} {mb : Nat} {ns : List (List UInt8)} {g : List (Option (List UInt8))} (h : FM w mb ns g) (hd : ns.Nodup) (hall : ∀ v, v < ns.length → (g.getD v none).isSome = true) :
    ∃ D : DataW Unit, ∃ n, w.ownsMap Tryz.prog 9 tyR mb n D ∧ ns.Perm (strKeys D) ∧ Maps.size D ≤ g.length := by
  obtain ⟨D, h1, h2, h3, h4, h5⟩ := h
  refine ⟨D, _, h1, ?_, by rw [h2]; exact List.length_filter_le _ _⟩
  have td := h1.tidy keyLaw
  obtain ⟨es, rfl, hp⟩ := td
  refine perm_strKeys hp (fun p hp' => ?_) hd fun x => ?_
  · have : Maps.has (.map es) p.1 = true := by
      rw [has_eq, List.any_eq_true]
      refine ⟨p, hp', ?_⟩
      obtain ⟨es', e', hk⟩ := h1.keysOf
      cases e'
      obtain ⟨key, hkey⟩ := hk p hp'
      obtain ⟨y, _, hy, _⟩ := Maps.keyOf_str Tryz.underlying9 hkey
      rw [hy]
      simp [Lit.sameKey]
    obtain ⟨v, _, hv⟩ := h5 _ this
    exact ⟨_, hv⟩
  · constructor
    · intro hx
      have hi := List.idxOf_lt_length_of_mem hx
      have e : ns.getD (ns.idxOf x) [] = x := by simp [List.getD, List.getElem?_eq_getElem hi]
      have := h3 (ns.idxOf x) hi
      rw [e, hall _ hi] at this
      exact this
    · intro hx
      obtain ⟨v, hv, e⟩ := h5 _ hx
      have e2 : x = ns.getD v [] := by simpa using e
      rw [e2]
      exact getD_mem hv
theorem sorted_some (W : World) (mb : Nat) (ns : List (List UInt8)) (g : List (Option (List UInt8))) (h : FM W mb ns g) (hd : ns.Nodup) (hall : ∀ v, v < ns.length → (g.getD v none).isSome = true) (hgl : g.length ≤ 1000) :
    Calls Tryz.prog 24 #[.func (.func 43) #[] #[.pointer (some ⟨W.heap.size, 0, none⟩)]] (W.alloc (.cells #[.map (some mb)] 60)) fun e w' => ∃ v, e = .returned v ∧
      w'.ownsRow (W.alloc (.cells #[.map (some mb)] 60)).heap.size 9 1 v (sortS ns).length (strs (sortS ns)) ∧ (W.alloc (.cells #[.map (some mb)] 60)).grownBy w' none := by
  obtain ⟨D, n, h1, h2, h3⟩ := h.perm hd hall
  refine (callsIn_wide.1 (Tryz.slices_Sorted_keys_24_25 mb n D tyR W h1 (by unfold maxLen; omega) (by omega))).mono ?_
  rintro e w' ⟨v, ss, rfl, hp, hrow, _, hb⟩
  have e1 : ss.mergeSort (fun x y => decide (x ≤ y)) = sortS ns := mergeSort_of_perm (hp.trans h2.symm)
  have e2 : ss.length = (sortS ns).length := by rw [← e1, List.length_mergeSort]
  have e3 : (sortS ns).map encStr = strs (sortS ns) := by
    unfold strs
    refine List.map_congr_left fun x _ => ?_
    rfl
  rw [e1, e2, e3] at hrow
  exact ⟨v, rfl, hrow, hb.os, hb.tape, hb.output, hb.size, fun k hk _ => hb.block k hk⟩
end Go.Proofs.YtcdijppegfcoaabGreatDoor

/-
  OUR OWN TEXT. plain.Instance of two types that fit: the walk.
-/
namespace Go.Proofs.YtcdijppegfcoaabGreatDoor
open Go.RowKit

theorem FM.same {w w' : World} {mb : Nat} {ns : List (List UInt8)} {g : List (Option (List UInt8))} (h : FM w mb ns g) (e : w'.heap[mb]? = w.heap[mb]?) : FM w' mb ns g := by
  obtain ⟨D, ⟨es, clock, hb, h1⟩, h2⟩ := h
  exact ⟨D, ⟨es, clock, e.trans hb, h1⟩, h2⟩
theorem set5_other {w3 : World} {fb k : Nat} (v0 v1 v2 v3 v4 : Value) (hk : k ≠ fb) : (((((w3.setCell ⟨fb, 0, none⟩ v0).setCell ⟨fb, 1, none⟩ v1).setCell ⟨fb, 2, none⟩ v2).setCell ⟨fb, 3, none⟩ v3).setCell ⟨fb, 4, none⟩ v4).heap[k]? = w3.heap[k]? := by
  rw [Below.heap_setCell _ _ _ _ hk, Below.heap_setCell _ _ _ _ hk, Below.heap_setCell _ _ _ _ hk, Below.heap_setCell _ _ _ _ hk, Below.heap_setCell _ _ _ _ hk]
theorem typed_field (s : ByteArray) (w : World) : (Instr.field 68 (.agg #[.string s]) 0).run Tryz.prog w = .ok (.string s) w := by kernel_rfl
/-- What plain.Instance leaves of two types that fit: the names, rising; by each what it stands for. -/
def PIO (w w' : World) (e : Ending) (ks ts : List (List UInt8)) : Prop :=
  Gn w w' ∧ ∃ vn vt, e = .returned (.tuple #[vn, vt, .bool false, fv 0 0]) ∧ w'.ownsRow w.heap.size 9 1 vn ks.length (strs ks) ∧ w'.ownsRow w.heap.size 9 1 vt ts.length (strs ts)
/-- The two rows on the way. -/
structure TwoR (base : Nat) (w wi : World) (vn vt : Value) (l1 l2 : List (List UInt8)) : Prop where
  n : wi.ownsRow base 9 1 vn l1.length (strs l1)
  t : wi.ownsRow base 9 1 vt l2.length (strs l2)
  ne : ∀ k, some k = vn.ownBlock → some k ≠ vt.ownBlock
  bel : Below base w wi

theorem TwoR.add1 {base : Nat} {w wi w6 : World} {vn vt : Value} {l1 l2 : List (List UInt8)} (h : TwoR base w wi vn vt l1 l2) (hb : base ≤ wi.heap.size) {k : List UInt8} {o : Obj} {g6 cap6 : Nat}
    (hown : w6.ownsRow base 9 1 (.slice (some ⟨g6, 0, none⟩) (l1.length + 1) cap6) (l1.length + 1) (strs l1 ++ [.string (B k)])) (hg : (wi.alloc o).grownBy w6 vn.ownBlock) (hat : vn.ownBlock = some g6 ∨ g6 = wi.heap.size + 1) :
    TwoR base w w6 (.slice (some ⟨g6, 0, none⟩) (l1.length + 1) cap6) vt (l1 ++ [k]) l2 := by
  have same : ∀ q, q < wi.heap.size → some q ≠ vn.ownBlock → w6.heap[q]? = wi.heap[q]? := fun q h1 h2 => by rw [hg.block q (by simp; omega) h2, Below.heap_alloc _ _ _ h1]
  have e1 : (l1 ++ [k]).length = l1.length + 1 := by simp
  have e2 : strs (l1 ++ [k]) = strs l1 ++ [.string (B k)] := by simp [strs]
  refine ⟨by rw [e1, e2]; exact hown, own_at h.t fun q e => same q (own_lt h.t e).2 (fun e' => h.ne q e' e), fun q e => ?_, h.bel.trans ⟨hg.os, hg.tape, hg.output, Nat.le_trans (by simp) hg.size, fun q hq => same q (by omega) (fun e => by have := (own_lt h.n e).1; omega)⟩⟩
  simp only [Value.ownBlock, Option.some.injEq] at e
  subst e
  intro e3
  rcases hat with h1 | h1
  · exact h.ne q h1.symm e3
  · have := (own_lt h.t e3).2; omega
theorem TwoR.add2 {base : Nat} {w wi w6 : World} {vn vt : Value} {l1 l2 : List (List UInt8)} (h : TwoR base w wi vn vt l1 l2) (hb : base ≤ wi.heap.size) {k : List UInt8} {o : Obj} {g6 cap6 : Nat}
    (hown : w6.ownsRow base 9 1 (.slice (some ⟨g6, 0, none⟩) (l2.length + 1) cap6) (l2.length + 1) (strs l2 ++ [.string (B k)])) (hg : (wi.alloc o).grownBy w6 vt.ownBlock) (hat : vt.ownBlock = some g6 ∨ g6 = wi.heap.size + 1) :
    TwoR base w w6 vn (.slice (some ⟨g6, 0, none⟩) (l2.length + 1) cap6) l1 (l2 ++ [k]) := by
  have same : ∀ q, q < wi.heap.size → some q ≠ vt.ownBlock → w6.heap[q]? = wi.heap[q]? := fun q h1 h2 => by rw [hg.block q (by simp; omega) h2, Below.heap_alloc _ _ _ h1]
  have e1 : (l2 ++ [k]).length = l2.length + 1 := by simp
  have e2 : strs (l2 ++ [k]) = strs l2 ++ [.string (B k)] := by simp [strs]
  refine ⟨own_at h.n fun q e => same q (own_lt h.n e).2 (h.ne q e), by rw [e1, e2]; exact hown, fun q e e3 => ?_, h.bel.trans ⟨hg.os, hg.tape, hg.output, Nat.le_trans (by simp) hg.size, fun q hq => same q (by omega) (fun e => by have := (own_lt h.t e).1; omega)⟩⟩
  simp only [Value.ownBlock, Option.some.injEq] at e3
  subst e3
  rcases hat with h1 | h1
  · exact h.ne q e h1.symm
  · have := (own_lt h.n e).2; omega

set_option maxRecDepth 100000 in
set_option maxHeartbeats 4000000 in
theorem pinst_ok (s1 s2 : ByteArray) (na : List (List UInt8)) (g : List (Option (List UInt8))) (w : World) (ad : Nat → Addr) (cs : Nat → Array Value) (ts : Nat → TypeId) (S : SW w ad cs ts) (hd : na.Nodup) (hL : na.length ≤ 1000) (hnl : ∀ i, i < na.length → (na.getD i []).length ≤ 300) (hall : ∀ v, v < na.length → (g.getD v none).isSome = true) (hgl : g.length = na.length)
    (CI : ∀ W, SW W ad cs ts → Calls Tryz.prog 23 #[.string s1, .string s2] W fun e w' => W.grownBy w' none ∧ ∃ mb, e = .returned (.tuple #[.map (some mb), .nilIface]) ∧ FM w' mb na g) :
    Calls Tryz.prog 9 #[.string s1, .string s2] w fun e w' => PIO w w' e (sortS na) ((sortS na).map (txtS na g)) := by
  have g0 : w.grownBy (w.alloc (.cells #[.int .i64 0, .int .i64 0, .string (B []), .int .i64 0, .int .i64 0] 23)) none := World.grownBy_alloc _ _ _
  have S0 := S.grown g0
  have HC := hid (CI _ S0)
  have G0 := hid g0
  have hKl : (sortS na).length = na.length := by unfold sortS; rw [List.length_mergeSort]
  have HKM := hid (show ∀ k, k ∈ sortS na → k ∈ na from fun k hk => by unfold sortS at hk; exact List.mem_mergeSort.1 hk)
  have HD := hid (And.intro hd (And.intro hall (And.intro hgl hnl)))
  obtain ⟨K, hK⟩ : ∃ K, K = sortS na := ⟨_, rfl⟩
  rw [← hK] at hKl HKM ⊢
  have HK := hid hK
  have hK1 : K.length ≤ 1000 := by omega
  clear S S0 g0 CI hd hall hgl hnl hKl hK
  go_enter Tryz.func9, Tryz.ntmps9
  go_wp2_with fail
  refine HC.out.mono ?_
  rintro e w1 ⟨g1, mb, rfl, hF⟩
  have n0 : w1.heap[w.heap.size]? = some (.cells #[.int .i64 0, .int .i64 0, .string (B []), .int .i64 0, .int .i64 0] 23 (0, 0)) := by
    rw [g1.block _ (by simp) (by simp)]
    exact heap_alloc_new _ _
  have l0 := lt_of_block n0
  have G1 := hid (G0.out.trans g1)
  have HF := hid hF
  have CS := hid (sorted_some w1 mb na g hF HD.out.1 HD.out.2.1 (by have := HD.out.2.2.1; omega))
  rw [← HK.out] at CS
  have N0 := hid n0
  clear g1 hF n0 HC
  go_wp2_with fail
  refine (keys_c (some mb) w1).mono ?_
  rintro e w2 ⟨rfl, rfl⟩
  go_wp2_with fail
  refine CS.out.mono ?_
  rintro e w3 ⟨vs, rfl, hrow, g3⟩
  have g13 : w1.grownBy w3 none := (World.grownBy_alloc _ _ _).trans g3
  obtain ⟨ao, cp, rfl, hview⟩ := own_view hrow
  have HV := hid hview
  have F3 := hid (HF.out.kept g13 (by simp))
  have hml : mb < w3.heap.size := F3.out.lt
  have n3 : w3.heap[w.heap.size]? = some (.cells #[.int .i64 0, .int .i64 0, .string (B []), .int .i64 0, .int .i64 0] 23 (0, 0)) := by
    rw [g13.block _ l0 (by simp)]
    exact N0.out
  have N3 := hid n3
  have l3 := lt_of_block n3
  have G3 := hid (G1.out.trans g13)
  clear g3 g13 n3 HF N0 CS hrow hview
  go_wp2_with fail
  go_loopg [4, 5, 22] (K.length + 1) (fun gh vn vt i wi => ∃ (j : Nat) (k1 k2 : List (List UInt8)), j ≤ K.length ∧ i = .int .i64 j ∧ gh = K.length - j + 1 ∧ Hid (k1 = K.take j ∧ k2 = (K.take j).map (txtS na g)) ∧ Hid (TwoR w3.heap.size w3 wi vn vt k1 k2) ∧ w3.heap.size ≤ wi.heap.size)
  case atStart => exact ⟨0, [], [], by omega, rfl, by omega, hid ⟨by simp, by simp⟩, hid ⟨World.ownsRow_nil _ _ _ _, World.ownsRow_nil _ _ _ _, fun k e => (by cases e), Below.refl _ _⟩, Nat.le_refl _⟩
  case round =>
    obtain ⟨j, k1, k2, hj, rfl, hgj, HL, HT, hws⟩ := hrel
    by_cases hjl : j < K.length
    · obtain ⟨gn, rfl, _, hgn, hcell0⟩ := HV.out j hjl
      obtain ⟨k, hk⟩ : ∃ k, k = K.getD j [] := ⟨_, rfl⟩
      rw [← hk] at hcell0
      have hcell : wr.cell? ⟨gn, j, none⟩ = some (.string (B k)) := by rw [World.cell?_of_block (a := ⟨gn, j, none⟩) (HT.out.bel.block gn hgn)]; exact hcell0
      have hkm : k ∈ na := HKM.out k (by rw [hk]; exact getD_mem hjl)
      have hix := List.idxOf_lt_length_of_mem hkm
      have eix : na.getD (na.idxOf k) [] = k := by simp [List.getD, List.getElem?_eq_getElem hix]
      obtain ⟨t, ht⟩ : ∃ t, g.getD (na.idxOf k) none = some t := Option.isSome_iff_exists.1 (HD.out.2.1 _ hix)
      have LK := hid (show ∀ W : World, W.heap[mb]? = w3.heap[mb]? → (Instr.lookup 60 (.map (some mb)) (.string (B k)) false).run Tryz.prog W = .ok (.agg #[.string (B t)]) W from fun W e => by
        have := (F3.out.same e).look1 hix (HD.out.2.2.2 _ hix) ht
        rw [eix] at this
        exact this)
      have HST := hid (show k1 ++ [k] = K.take (j + 1) ∧ k2 ++ [t] = (K.take (j + 1)).map (txtS na g) by
        have e1 : K[j]? = some k := by rw [List.getElem?_eq_getElem hjl, hk]; simp [List.getD, hjl]
        have e2 : txtS na g k = t := by unfold txtS; rw [ht]; rfl
        rw [HL.out.1, HL.out.2, List.take_add_one, e1]
        simp [e2])
      have hk1 : k1.length ≤ 1000 := by rw [HL.out.1]; simp; omega
      have hk2 : k2.length ≤ 1000 := by rw [HL.out.2]; simp; omega
      have hn := HT.out.n
      have htr := HT.out.t
      obtain ⟨ao1, cp1, hv1, _⟩ := own_view hn
      subst hv1
      obtain ⟨ao2, cp2, hv2, _⟩ := own_view htr
      subst hv2
      obtain ⟨i0, hi, hz0, hz1, hz2⟩ := info_parts info_str
      clear hk hkm hix eix ht hcell0
      go_wp2_with (at_builtin; refine wpList_append_lies _ rfl (.tmp 26) (.tmp 28) 26 rfl w3.heap.size 9 i0 (.string (B [])) 1 16 Tryz.underlying26 hi hz0 hz1 hz2 rfl (by decide) _ _ _ rfl (hn.alloc _) ⟨wr.heap.size, 0, none⟩ 1 1 [.string (B k)] rfl rfl (one_new _ _ _) (one_str _) (by decide) (by unfold maxLen; omega) (by omega) (by simp; omega) (wr.heap.size + 1) (by simp) ?_)
      intro g6 cap6 w6 hown6 hgrow6 hat6 hlt6
      have T6 := HT.out.add1 hws hown6 hgrow6 hat6
      have hs6 : wr.heap.size < w6.heap.size := by have := hgrow6.size; simp at this; omega
      have hlk := LK.out w6 (T6.bel.block mb hml)
      have hfd := typed_field (B t)
      have htr6 := T6.t
      have H6 := hid T6
      clear hown6 hgrow6 hat6 T6 hn htr HT LK
      go_wp2_with (at_builtin; refine wpList_append_lies _ rfl (.tmp 30) (.tmp 35) 26 rfl w3.heap.size 9 i0 (.string (B [])) 1 16 Tryz.underlying26 hi hz0 hz1 hz2 rfl (by decide) _ _ _ rfl (htr6.alloc _) ⟨w6.heap.size, 0, none⟩ 1 1 [.string (B t)] rfl rfl (one_new _ _ _) (one_str _) (by decide) (by unfold maxLen; omega) (by omega) (by simp; omega) (w6.heap.size + 1) (by simp) ?_)
      intro g7 cap7 w7 hown7 hgrow7 hat7 hlt7
      have H7 := hid (H6.out.add2 (by omega) hown7 hgrow7 hat7)
      have hs7 : w6.heap.size < w7.heap.size := by have := hgrow7.size; simp at this; omega
      clear hown7 hgrow7 hat7 htr6 H6 hlk
      go_wp2_with fail
      go_roundg (K.length - (j + 1) + 1)
      case measure => omega
      case rel => exact ⟨j + 1, k1 ++ [k], k2 ++ [t], by omega, by go_num, rfl, HST, H7, by omega⟩
    · have hje : j = K.length := by omega
      subst hje
      have FA := hid (fault_nil wr)
      have hms := map_some mb
      have hl1 : k1 = K := by rw [HL.out.1, List.take_length]
      have hl2 : k2 = K.map (txtS na g) := by rw [HL.out.2, List.take_length]
      subst hl1
      have HL2 := hid hl2
      have hn := HT.out.n
      have htr := HT.out.t
      obtain ⟨ao1, cp1, hv1, _⟩ := own_view hn
      subst hv1
      obtain ⟨ao2, cp2, hv2, _⟩ := own_view htr
      subst hv2
      clear hl2 hn htr
      go_wp2_with fail
      refine FA.out.mono ?_
      rintro e w4 ⟨rfl, g4⟩
      have n4 : w4.heap[w.heap.size]? = some (.cells #[.int .i64 0, .int .i64 0, .string (B []), .int .i64 0, .int .i64 0] 23 (0, 0)) := by
        rw [g4.block _ (by omega) (by simp), HT.out.bel.block _ l3]; exact N3.out
      obtain ⟨⟨q0, q1, q2, q3, q4⟩, f0, f1, f2, f3, f4⟩ := five_c n4
      have b3 := HT.out.bel
      have G4 := hid ((Gn.of G3.out).trans ((Gn.mk b3.os b3.output b3.size b3.block).trans (Gn.of g4)))
      have HT4 := hid (And.intro (own_at HT.out.n fun q e => g4.block q (own_lt HT.out.n e).2 (by simp)) (own_at HT.out.t fun q e => g4.block q (own_lt HT.out.t e).2 (by simp)))
      clear g4 n4 b3
      unfold fv
      go_wp2
      refine bodyPost_ret (v := .tuple #[.slice ao1 k1.length cp1, .slice ao2 k2.length cp2, .bool false, fv 0 0]) (by simp [results, Tryz.results9, go_sem, q0, q1, q2, q3, q4]; rfl) rfl ?_
      refine ⟨G4.out.set5 (Nat.le_refl _) _ _ _ _ _, _, _, rfl, own_base (own_at HT4.out.1 fun q e => set5_other _ _ _ _ _ ?_) (by omega), ?_⟩
      · have := (own_lt HT4.out.1 e).1; omega
      · rw [← HL2.out]
        refine own_base (own_at HT4.out.2 fun q e => set5_other _ _ _ _ _ ?_) (by omega)
        have := (own_lt HT4.out.2 e).1; omega
end Go.Proofs.YtcdijppegfcoaabGreatDoor

/-
  OUR OWN TEXT (written by mkqlaw.py). plain.Canon; the law Canons.
-/
namespace Go.Proofs.YtcdijppegfcoaabGreatDoor
open Go.RowKit

/-- What plain.Canon leaves. -/
def PCOut (w w' : World) (N : Nat) (s2 : St) (e : Ending) (x : Ty) : Prop :=
  Gn w w' ∧ ((0 ≤ s2.bad ∧ e = .returned (.tuple #[.string (B []), fv 2 s2.bad])) ∨
    (s2.bad < 0 ∧ ∃ m, TyOk N m x ∧ ((120 < tySize m x ∧ e = .returned (.tuple #[.string (B []), fv 8 0])) ∨ (tySize m x ≤ 120 ∧ e = .returned (.tuple #[.string (B (tyCanon m x)), fv 0 0])))))

set_option maxRecDepth 100000 in
set_option maxHeartbeats 4000000 in
theorem pcanon_p (s : ByteArray) (hs : s.size ≤ 300) (w : World) (n : Nat) (x : Ty) (ns : List (List UInt8)) (s1 : St) (hx : arrS (toksOf tyKw s) n [] ⟨0, -1⟩ = some (x, ns, s1)) (hk1 : s1.k < (toksOf tyKw s).length) (ad : Nat → Addr) (cs : Nat → Array Value) (ts : Nat → TypeId) (S : SW w ad cs ts) :
    Calls Tryz.prog 8 #[.string s] w fun e w' => PCOut w w' ns.length (needS (toksOf tyKw s) s1 kEnd) e x := by
  have g0 : w.grownBy (w.alloc (.cells #[.int .i64 0, .int .i64 0, .string (B []), .int .i64 0, .int .i64 0] 23)) none := World.grownBy_alloc _ _ _
  have S0 := S.grown g0
  have HC := hid (canon_q s hs _ n x ns s1 hx hk1 (ad 4) S0.g4 (Nat.lt_of_lt_of_le (by decide) S0.hsz))
  have SH := hid S0
  have G0 := hid g0
  clear hx S S0 g0 hk1
  generalize (needS (toksOf tyKw s) s1 kEnd) = s2 at HC ⊢
  go_enter Tryz.func8, Tryz.ntmps8
  go_wp2_with fail
  refine HC.out.mono ?_
  rintro e w1 ⟨g1, ho⟩
  have S1 := hid (SH.out.grown g1)
  have G1 := hid (G0.out.trans g1)
  have n0 : w1.heap[w.heap.size]? = some (.cells #[.int .i64 0, .int .i64 0, .string (B []), .int .i64 0, .int .i64 0] 23 (0, 0)) := by
    rw [g1.block _ (by simp) (by simp)]
    exact heap_alloc_new _ _
  have l0 := lt_of_block n0
  clear g1 HC
  rcases ho with ⟨hb, b, rfl, hbk⟩ | ⟨hb, m, ok, (⟨hd, rfl⟩ | ⟨hd, rfl⟩)⟩
  · have FA := hid (fault_syn w1 ad cs ts S1.out b _ hbk)
    have HB := hid hb
    clear hbk hb
    go_wp2_with fail
    refine FA.out.mono ?_
    rintro e w2 ⟨rfl, g2⟩
    have n2 : w2.heap[w.heap.size]? = some (.cells #[.int .i64 0, .int .i64 0, .string (B []), .int .i64 0, .int .i64 0] 23 (0, 0)) := by
      rw [(Gn.of g2).block _ l0]; exact n0
    obtain ⟨⟨q0, q1, q2, q3, q4⟩, f0, f1, f2, f3, f4⟩ := five_c n2
    have G2 := hid ((Gn.of G1.out).trans (Gn.of g2))
    clear g2 n2 n0
    unfold fv
    go_wp2
    refine bodyPost_ret (v := .tuple #[.string (B []), fv 2 s2.bad]) (by simp [results, Tryz.results8, go_sem, q0, q1, q2, q3, q4]; rfl) rfl ?_
    exact ⟨G2.out.set5 (Nat.le_refl _) _ _ _ _ _, Or.inl ⟨HB.out, rfl⟩⟩
  · have FA := hid (fault_err w1 ad cs ts S1.out 4 (by decide))
    have Q := hid (And.intro hb (And.intro ok hd))
    clear hb ok hd
    unfold errV at FA ⊢
    go_wp2_with fail
    refine FA.out.mono ?_
    rintro e w2 ⟨rfl, g2⟩
    have n2 : w2.heap[w.heap.size]? = some (.cells #[.int .i64 0, .int .i64 0, .string (B []), .int .i64 0, .int .i64 0] 23 (0, 0)) := by
      rw [g2.block _ l0]; exact n0
    obtain ⟨⟨q0, q1, q2, q3, q4⟩, f0, f1, f2, f3, f4⟩ := five_c n2
    have G2 := hid ((Gn.of G1.out).trans g2)
    clear g2 n2 n0
    rw [show errNo 4 = 8 from rfl]
    unfold fv
    go_wp2
    refine bodyPost_ret (v := .tuple #[.string (B []), fv 8 0]) (by simp [results, Tryz.results8, go_sem, q0, q1, q2, q3, q4]; rfl) rfl ?_
    exact ⟨G2.out.set5 (Nat.le_refl _) _ _ _ _ _, Or.inr ⟨Q.out.1, m, Q.out.2.1, Or.inl ⟨Q.out.2.2, rfl⟩⟩⟩
  · have FA := hid (fault_nil w1)
    have Q := hid (And.intro hb (And.intro ok hd))
    obtain ⟨tx, htx⟩ : ∃ tx, tx = tyCanon m x := ⟨_, rfl⟩
    rw [← htx]
    have HTX := hid htx
    clear hb ok hd htx
    go_wp2_with fail
    refine FA.out.mono ?_
    rintro e w2 ⟨rfl, g2⟩
    have n2 : w2.heap[w.heap.size]? = some (.cells #[.int .i64 0, .int .i64 0, .string (B []), .int .i64 0, .int .i64 0] 23 (0, 0)) := by
      rw [(Gn.of g2).block _ l0]; exact n0
    obtain ⟨⟨q0, q1, q2, q3, q4⟩, f0, f1, f2, f3, f4⟩ := five_c n2
    have G2 := hid ((Gn.of G1.out).trans (Gn.of g2))
    clear g2 n2 n0
    unfold fv
    go_wp2
    refine bodyPost_ret (v := .tuple #[.string (B tx), fv 0 0]) (by simp [results, Tryz.results8, go_sem, q0, q1, q2, q3, q4]; rfl) rfl ?_
    exact ⟨G2.out.set5 (Nat.le_refl _) _ _ _ _ _, Or.inr ⟨Q.out.1, m, Q.out.2.1, Or.inr ⟨Q.out.2.2, by rw [HTX.out]⟩⟩⟩

set_option maxRecDepth 100000 in
set_option maxHeartbeats 4000000 in
theorem pcanon_long (s : ByteArray) (hs : 300 < s.size) (w : World) (ad : Nat → Addr) (cs : Nat → Array Value) (ts : Nat → TypeId) (S : SW w ad cs ts) :
    Calls Tryz.prog 8 #[.string s] w fun e w' => e = .returned (.tuple #[.string (B []), fv 1 0]) ∧ Gn w w' := by
  have g0 : w.grownBy (w.alloc (.cells #[.int .i64 0, .int .i64 0, .string (B []), .int .i64 0, .int .i64 0] 23)) none := World.grownBy_alloc _ _ _
  have S0 := S.grown g0
  have HC := hid (canon_qlong s hs _ (ad 0) S0.g0 (Nat.lt_of_lt_of_le (by decide) S0.hsz))
  have SH := hid S0
  have G0 := hid g0
  clear S S0 g0
  go_enter Tryz.func8, Tryz.ntmps8
  go_wp2_with fail
  refine HC.out.mono ?_
  rintro e w1 ⟨rfl, g1⟩
  have n0 : w1.heap[w.heap.size]? = some (.cells #[.int .i64 0, .int .i64 0, .string (B []), .int .i64 0, .int .i64 0] 23 (0, 0)) := by
    rw [g1.block _ (by simp) (by simp)]
    exact heap_alloc_new _ _
  have l0 := lt_of_block n0
  have FA := hid (fault_err w1 ad cs ts (SH.out.grown g1) 0 (by decide))
  have G1 := hid (G0.out.trans g1)
  clear g1 HC
  unfold errV at FA ⊢
  go_wp2_with fail
  refine FA.out.mono ?_
  rintro e w2 ⟨rfl, g2⟩
  have n2 : w2.heap[w.heap.size]? = some (.cells #[.int .i64 0, .int .i64 0, .string (B []), .int .i64 0, .int .i64 0] 23 (0, 0)) := by
    rw [g2.block _ l0]; exact n0
  obtain ⟨⟨q0, q1, q2, q3, q4⟩, f0, f1, f2, f3, f4⟩ := five_c n2
  have G2 := hid ((Gn.of G1.out).trans g2)
  clear g2 n2 n0
  rw [show errNo 0 = 1 from rfl]
  unfold fv
  go_wp2
  refine bodyPost_ret (v := .tuple #[.string (B []), fv 1 0]) (by simp [results, Tryz.results8, go_sem, q0, q1, q2, q3, q4]; rfl) rfl ?_
  exact ⟨rfl, G2.out.set5 (Nat.le_refl _) _ _ _ _ _⟩

theorem ty_have (s : ByteArray) (hs : s.size ≤ 300) : ∃ x ns s1, arrS (toksOf tyKw s) (s.size + 2) [] ⟨0, -1⟩ = some (x, ns, s1) ∧ s1.k < (toksOf tyKw s).length := by
  obtain ⟨f1, f2, f3⟩ := toks_facts tyKw s (s.size + 1) 0 (Nat.zero_le _) (by omega)
  have hlen := toksOf_len tyKw s
  exact arr_tot (T := toksOf tyKw s) f1 (s.size + 2) [] ⟨0, -1⟩ (by show (-1 : Int) < 0; omega) f1.1 (by show (toksOf tyKw s).length - 0 < s.size + 2; omega)

end Go.Proofs.YtcdijppegfcoaabGreatDoor

/-
  OUR OWN TEXT. A type and its one text are instances of each other; types put for two variables are found again; where an arrow stands outside of all brackets.
-/
namespace Go.Proofs.YtcdijppegfcoaabGreatDoor
open Go.RowKit

/-- The text of a type whose variables stand in order, read: that type. -/
theorem read_letters {N n : Nat} {x : Ty} (hN : N ≤ 260) (ok : TyOk N n x) (hv : tyVars n x [] = List.range N) (hl : (tyText n (lettersS N) x).length ≤ 300) (hs : tySize n x ≤ 120) : RdT (B (tyText n (lettersS N) x)) x (lettersS N) := by
  obtain ⟨s1, h1, h2, h3⟩ := read_text (letters_nms hN) letters_short ok
  have hr := rn_self hN n x 0 N ok hv (Nat.le_refl _)
  rw [show lettersS 0 = [] from rfl] at hr
  rw [hr] at h1
  refine ⟨by rw [size_B]; exact hl, s1, h1, h2, h3, fun N' m ok' => ?_⟩
  rcases Nat.le_total m n with h | h
  · rw [← TyOk.size m n x ok' h]; exact hs
  · rw [TyOk.size n m x ok h]; exact hs
theorem RdT.order {s : ByteArray} {x : Ty} {ns : List (List UInt8)} (h : RdT s x ns) : ∃ m, TyOk ns.length m x ∧ tySize m x ≤ 120 ∧ tyVars m x [] = List.range ns.length ∧ ns.length ≤ 120 := by
  obtain ⟨hs, s1, hx, hk, hb, hsz⟩ := h
  obtain ⟨m, ok, _, _⟩ := arr_made (toksOf tyKw s) _ [] ⟨0, -1⟩ x ns s1 (by show (-1 : Int) < 0; omega) hx
  have hv := arr_vars _ [] ⟨0, -1⟩ x ns s1 hx _ m ok
  have h1 := hsz _ _ ok
  refine ⟨m, ok, h1, hv, ?_⟩
  have := tyVars_len m x [] ok
  rw [show ([] : List Nat) = List.range 0 from rfl] at this
  change (tyVars m x (List.range 0)).length ≤ _ at this
  rw [show List.range ([] : List (List UInt8)).length = List.range 0 from rfl] at hv
  rw [hv] at this
  simp at this
  omega
/-- A match of a type with itself: each variable for itself. -/
def SelfG (M : Nat) (nb : List (List UInt8)) (g : List (Option (List UInt8))) : Prop := ∀ v t, g.getD v none = some t → t = tyText M nb ⟨[], v, []⟩
theorem getD_set_cases {g : List (Option (List UInt8))} {v u : Nat} {t t' : List UInt8} (h : (g.set v (some t)).getD u none = some t') : (u = v ∧ t' = t) ∨ g.getD u none = some t' := by
  rw [List.getD, List.getElem?_set] at h
  by_cases e : v = u
  · rw [if_pos e] at h
    by_cases hl : v < g.length
    · rw [if_pos hl] at h
      simp at h
      exact Or.inl ⟨e.symm, h.symm⟩
    · rw [if_neg hl] at h
      simp at h
  · rw [if_neg e] at h
    exact Or.inr h
theorem match_self {M : Nat} {nb : List (List UInt8)} : ∀ (N n : Nat) (x : Ty) (g : List (Option (List UInt8))), TyOk N n x → SelfG M nb g → ∃ g', matchS M nb n x x g = some g' ∧ SelfG M nb g'
  | _, 0, _, _, h, _ => absurd h id
  | N, n + 1, x, g, ok, hg => by
    obtain ⟨kd, vr, ks⟩ := x
    rcases ok with ⟨h1, h2, h3⟩ | ⟨h1, h2, h3⟩ | ⟨h1, h2, a, h3, h4⟩ | ⟨h1, h2, a, b, h3, h4, h5⟩
    · simp only at h1 h2 h3
      subst h1 h3
      rw [matchS, if_pos rfl]
      simp only
      cases e : g.getD vr none with
      | some t =>
        rw [← hg vr t e]
        refine ⟨g, ?_, hg⟩
        show (if t = t then some g else none) = some g
        rw [if_pos rfl]
      | none =>
        refine ⟨_, rfl, fun u t' h => ?_⟩
        rcases getD_set_cases h with ⟨rfl, rfl⟩ | h
        · rfl
        · exact hg u t' h
    · simp only at h1 h2 h3
      subst h2 h3
      have hk : kd ≠ [] := by rcases h1 with h1 | h1 <;> rw [h1] <;> decide
      rw [matchS, if_neg hk, if_pos rfl]
      exact ⟨g, rfl, hg⟩
    · simp only at h1 h2 h3
      subst h2 h3
      have hk : kd ≠ [] := by rw [h1]; decide
      rw [matchS, if_neg hk, if_pos rfl]
      obtain ⟨g1, e1, i1⟩ := match_self N n a g h4 hg
      refine ⟨g1, ?_, i1⟩
      simp only [mKids]
      rw [e1]
    · simp only at h1 h2 h3
      subst h2 h3
      have hk : kd ≠ [] := by rcases h1 with h1 | h1 <;> rw [h1] <;> decide
      rw [matchS, if_neg hk, if_pos rfl]
      obtain ⟨g1, e1, i1⟩ := match_self N n a g h4 hg
      obtain ⟨g2, e2, i2⟩ := match_self N n b g1 h5 i1
      refine ⟨g2, ?_, i2⟩
      simp only [mKids]
      rw [e1]
      simp only
      rw [e2]

/-- p -> (q, [p]). -/
def tyPQ : Ty := ⟨kFun, 0, [⟨[], 0, []⟩, ⟨oPair, 0, [⟨[], 1, []⟩, ⟨oList, 0, [⟨[], 0, []⟩]⟩]⟩]⟩
/-- The same, with types for p and q. -/
def tyXY (x y : Ty) : Ty := ⟨kFun, 0, [x, ⟨oPair, 0, [y, ⟨oList, 0, [x]⟩]⟩]⟩
theorem ok_PQ : TyOk 2 4 tyPQ :=
  Or.inr (Or.inr (Or.inr ⟨Or.inr rfl, rfl, _, _, rfl, Or.inl ⟨rfl, by decide, rfl⟩, Or.inr (Or.inr (Or.inr ⟨Or.inl rfl, rfl, _, _, rfl, Or.inl ⟨rfl, by decide, rfl⟩, Or.inr (Or.inr (Or.inl ⟨rfl, rfl, _, rfl, Or.inl ⟨rfl, by decide, rfl⟩⟩))⟩))⟩))
theorem ok_XY {N m : Nat} {x y : Ty} (hx : TyOk N m x) (hy : TyOk N m y) : TyOk N (m + 3) (tyXY x y) :=
  Or.inr (Or.inr (Or.inr ⟨Or.inr rfl, rfl, _, _, rfl, hx.le (by omega), Or.inr (Or.inr (Or.inr ⟨Or.inl rfl, rfl, _, _, rfl, hy.le (by omega), Or.inr (Or.inr (Or.inl ⟨rfl, rfl, _, rfl, hx⟩))⟩))⟩))
theorem match_PQ (M : Nat) (nb : List (List UInt8)) (x y : Ty) : matchS M nb 4 tyPQ (tyXY x y) (List.replicate 2 none) = some [some (tyText M nb x), some (tyText M nb y)] := by
  simp [matchS, mKids, tyPQ, tyXY, kFun, oPair, oList, List.replicate]
theorem text_XY {m : Nat} {N : Nat} (ns : List (List UInt8)) {x y : Ty} (hx : TyOk N m x) (hy : TyOk N m y) : tyText (m + 3) ns (tyXY x y) = (if x.kind = kFun then [40] ++ tyText m ns x ++ [41] else tyText m ns x) ++ [32, 45, 62, 32] ++ ([40] ++ tyText m ns y ++ [44, 32] ++ ([91] ++ tyText m ns x ++ [93]) ++ [41]) := by
  have e1 : tyText (m + 2) ns x = tyText m ns x := TyOk.text ns m (m + 2) x hx (by omega)
  have e2 : tyText (m + 1) ns y = tyText m ns y := TyOk.text ns m (m + 1) y hy (by omega)
  show tyText (m + 2 + 1) ns (tyXY x y) = _
  rw [tyText, if_neg (show ¬ (tyXY x y).kind = [] from show ¬ kFun = [] by decide)]
  show (if kFun = kFun then _ else _) = _
  rw [if_pos rfl, e1]
  congr 1
  show tyText (m + 1 + 1) ns ⟨oPair, 0, [y, ⟨oList, 0, [x]⟩]⟩ = _
  rw [tyText, if_neg (show ¬ oPair = [] by decide)]
  show (if oPair = kFun then _ else _) = _
  rw [if_neg (by decide), e2]
  congr 2
theorem vars_XY {m k j : Nat} {x y : Ty} {N : Nat} (hx : TyOk N m x) (hy : TyOk N m y) (vx : tyVars m x [] = List.range k) (vy : tyVars m y [] = List.range j) : tyVars (m + 3) (tyXY x y) [] = List.range (max k j) := by
  have up : ∀ (a b : Nat) (t : Ty) (l : List Nat), TyOk N a t → TyOk N b t → tyVars a t l = tyVars b t l := by
    intro a
    induction a with
    | zero => intro b t l h; exact absurd h id
    | succ a ih =>
      intro b t l ha hb
      cases b with
      | zero => exact absurd hb id
      | succ b =>
        rcases ha with ⟨h1, h2, h3⟩ | ⟨h1, h2, h3⟩ | ⟨h1, h2, p, h3, h4⟩ | ⟨h1, h2, p, q, h3, h4, h5⟩
        · rw [tyVars, if_pos h1, tyVars, if_pos h1]
        · have hk : t.kind ≠ [] := by rcases h1 with h1 | h1 <;> rw [h1] <;> decide
          rw [tyVars, if_neg hk, tyVars, if_neg hk, h3]
          rfl
        · have hk : t.kind ≠ [] := by rw [h1]; decide
          rcases hb with ⟨g1, g2, g3⟩ | ⟨g1, g2, g3⟩ | ⟨g1, g2, p', g3, g4⟩ | ⟨g1, g2, p', q', g3, g4, g5⟩
          · exact absurd g1 hk
          · rw [h3] at g3; cases g3
          · rw [h3] at g3
            cases g3
            rw [tyVars, if_neg hk, tyVars, if_neg hk, h3]
            show tyVars a p l = tyVars b p l
            exact ih b p l h4 g4
          · rw [h3] at g3; cases g3
        · have hk : t.kind ≠ [] := by rcases h1 with h1 | h1 <;> rw [h1] <;> decide
          rcases hb with ⟨g1, g2, g3⟩ | ⟨g1, g2, g3⟩ | ⟨g1, g2, p', g3, g4⟩ | ⟨g1, g2, p', q', g3, g4, g5⟩
          · exact absurd g1 hk
          · rw [h3] at g3; cases g3
          · rw [h3] at g3; cases g3
          · rw [h3] at g3
            cases g3
            rw [tyVars, if_neg hk, tyVars, if_neg hk, h3]
            show tyVars a q (tyVars a p l) = tyVars b q (tyVars b p l)
            rw [ih b p l h4 g4, ih b q _ h5 g5]
  show tyVars (m + 2 + 1) (tyXY x y) [] = _
  rw [tyVars, if_neg (show ¬ (tyXY x y).kind = [] from show ¬ kFun = [] by decide)]
  show tyVars (m + 1 + 1) ⟨oPair, 0, [y, ⟨oList, 0, [x]⟩]⟩ (tyVars (m + 2) x []) = _
  rw [tyVars, if_neg (show ¬ oPair = [] by decide)]
  show tyVars (m + 1) ⟨oList, 0, [x]⟩ (tyVars (m + 1) y (tyVars (m + 2) x [])) = _
  rw [tyVars, if_neg (show ¬ oList = [] by decide)]
  show tyVars m x (tyVars (m + 1) y (tyVars (m + 2) x [])) = _
  rw [up (m + 2) m x [] (hx.le (by omega)) hx, vx, up (m + 1) m y _ (hy.le (by omega)) hy]
  rw [vars_more m y 0 j k vy (Nat.zero_le _) ⟨N, hy⟩, vars_more m x 0 k (max k j) vx (Nat.zero_le _) ⟨N, hx⟩]
  congr 1
  omega

/-- A text gone along, with how many brackets are open: none: a - stands outside of all. -/
def scanS : List UInt8 → Int → Option Int
  | [], d => some d
  | c :: r, d => if c = 40 ∨ c = 91 then scanS r (d + 1) else if c = 41 ∨ c = 93 then scanS r (d - 1) else if c = 45 ∧ d = 0 then none else scanS r d
theorem scan_app : ∀ (u r : List UInt8) (d : Int), scanS (u ++ r) d = match scanS u d with | none => none | some e => scanS r e
  | [], r, d => rfl
  | c :: u, r, d => by
    rw [List.cons_append, scanS, scanS]
    split
    · exact scan_app u r _
    · split
      · exact scan_app u r _
      · split
        · rfl
        · exact scan_app u r _
theorem scan_word : ∀ (u : List UInt8) (d : Int), (∀ c, c ∈ u → isC c = true) → scanS u d = some d
  | [], d, _ => rfl
  | c :: u, d, h => by
    have hc := h c (by simp)
    rw [scanS, if_neg (fun e => by rcases e with rfl | rfl <;> exact absurd hc (by decide)), if_neg (fun e => by rcases e with rfl | rfl <;> exact absurd hc (by decide)), if_neg (fun e => by obtain ⟨rfl, _⟩ := e; exact absurd hc (by decide))]
    exact scan_word u d (fun x hx => h x (List.mem_cons_of_mem _ hx))
theorem scan_word_two (d : Int) : scanS [44, 32] d = some d := by
  rw [scanS, if_neg (by decide), if_neg (by decide), if_neg (fun h => by exact absurd h.1 (by decide)), scanS, if_neg (by decide), if_neg (by decide), if_neg (fun h => by exact absurd h.1 (by decide)), scanS]
theorem scan_text {N : Nat} {ns : List (List UInt8)} (hn : Nms N ns) : ∀ (n : Nat) (x : Ty) (d : Int), TyOk N n x → 0 ≤ d → scanS (tyText n ns x) d = if x.kind = kFun ∧ d = 0 then none else some d
  | 0, _, _, h, _ => absurd h id
  | n + 1, x, d, ok, hd => by
    have s0 : ∀ (r : List UInt8) (e : Int), scanS (40 :: r) e = scanS r (e + 1) := fun r e => by rw [scanS, if_pos (Or.inl rfl)]
    have s1 : ∀ (r : List UInt8) (e : Int), scanS (91 :: r) e = scanS r (e + 1) := fun r e => by rw [scanS, if_pos (Or.inr rfl)]
    have s2 : ∀ (e : Int), scanS [41] (e + 1) = some e := fun e => by
      rw [scanS, if_neg (by decide), if_pos (Or.inl rfl), scanS]
      congr 1
      omega
    have s3 : ∀ (e : Int), scanS [93] (e + 1) = some e := fun e => by
      rw [scanS, if_neg (by decide), if_pos (Or.inr rfl), scanS]
      congr 1
      omega
    have inner : ∀ (a : Ty) (e : Int), TyOk N n a → 0 ≤ e → scanS (tyText n ns a) (e + 1) = some (e + 1) := fun a e oka he => by
      rw [scan_text hn n a (e + 1) oka (by omega), if_neg (fun h => by omega)]
    rcases ok with ⟨h1, h2, h3⟩ | ⟨h1, h2, h3⟩ | ⟨h1, h2, a, h3, h4⟩ | ⟨h1, h2, a, b, h3, h4, h5⟩
    · obtain ⟨o1, o2, o3⟩ := hn.ok _ (getD_mem (Nat.lt_of_lt_of_le h2 hn.len))
      rw [tyText, if_pos h1, scan_word _ d o2, if_neg (fun h => by rw [h1] at h; exact absurd h.1 (by decide))]
    · have hk : x.kind ≠ [] := by rcases h1 with h1 | h1 <;> rw [h1] <;> decide
      rw [tyText, if_neg hk, h3]
      simp only
      rw [scan_word _ d (by rcases h1 with h1 | h1 <;> rw [h1] <;> decide), if_neg (fun h => by rcases h1 with h1 | h1 <;> rw [h1] at h <;> exact absurd h.1 (by decide))]
    · have hk : x.kind ≠ [] := by rw [h1]; decide
      rw [tyText, if_neg hk, h3]
      simp only
      rw [List.append_assoc, List.cons_append, List.nil_append, s1, scan_app, inner a d h4 hd]
      simp only
      rw [s3, if_neg (fun h => by rw [h1] at h; exact absurd h.1 (by decide))]
    · have hk : x.kind ≠ [] := by rcases h1 with h1 | h1 <;> rw [h1] <;> decide
      rw [tyText, if_neg hk, h3]
      simp only
      by_cases hf : x.kind = kFun
      · rw [if_pos hf, List.append_assoc, scan_app]
        have left : scanS (if a.kind = kFun then [40] ++ tyText n ns a ++ [41] else tyText n ns a) d = some d := by
          by_cases ha : a.kind = kFun
          · rw [if_pos ha, List.append_assoc, List.cons_append, List.nil_append, s0, scan_app, inner a d h4 hd]
            simp only
            exact s2 d
          · rw [if_neg ha, scan_text hn n a d h4 hd, if_neg (fun h => ha h.1)]
        rw [left]
        simp only
        by_cases h0 : d = 0
        · rw [if_pos ⟨hf, h0⟩]
          subst h0
          rfl
        · rw [if_neg (fun h => h0 h.2)]
          have e4 : scanS ([32, 45, 62, 32] ++ tyText n ns b) d = scanS (tyText n ns b) d := by
            rw [List.cons_append, scanS, if_neg (by decide), if_neg (by decide), if_neg (fun h => by exact absurd h.1 (by decide))]
            rw [List.cons_append, scanS, if_neg (by decide), if_neg (by decide), if_neg (fun h => h0 h.2)]
            rw [List.cons_append, scanS, if_neg (by decide), if_neg (by decide), if_neg (fun h => by exact absurd h.1 (by decide))]
            rw [List.cons_append, scanS, if_neg (by decide), if_neg (by decide), if_neg (fun h => by exact absurd h.1 (by decide))]
            rfl
          rw [e4, scan_text hn n b d h5 hd, if_neg (fun h => h0 h.2)]
      · rw [if_neg hf]
        rw [show [40] ++ tyText n ns a ++ [44, 32] ++ tyText n ns b ++ [41] = 40 :: (tyText n ns a ++ ([44, 32] ++ (tyText n ns b ++ [41]))) from by simp]
        rw [s0, scan_app, inner a d h4 hd]
        simp only
        rw [scan_app, scan_word_two]
        simp only
        rw [scan_app, inner b d h5 hd]
        simp only
        rw [s2, if_neg (fun h => hf h.1)]
end Go.Proofs.YtcdijppegfcoaabGreatDoor
