import Derived.Test.YtcdijppegfcoaaaGreatDoorZT39
import Derived.Test.YtcdijppegfcoaaaGreatDoorZT25
import Derived.Test.YtcdijppegfcoaaaGreatDoorZT22
import Derived.WideMake
import Derived.Carry
import Derived.Laws.IdiomRangeMap
import Derived.Test.YtcdijppegfcoaaaGreatDoorZT38
import Derived.Test.YtcdijppegfcoaaaGreatDoorZT23
/-
  OUR OWN TEXT. plain.fault: nothing, a *SyntaxError.
-/
namespace Go.Proofs.YtcdijppegfcoaaaGreatDoor
open Go.RowKit Go.Extern.Stop Go.Stop Go.Extern
/-- What the row's reading gives: the eight errors of errors.New's make, the handle of the type error. -/
structure SW (W : World) (ad : Nat → Addr) (cs : Nat → Array Value) (ts : Nat → TypeId) : Prop where
  g0 : W.cell? ⟨2, 0, none⟩ = some (errV (ad 0))
  g1 : W.cell? ⟨3, 0, none⟩ = some (errV (ad 1))
  g2 : W.cell? ⟨4, 0, none⟩ = some (errV (ad 2))
  g3 : W.cell? ⟨5, 0, none⟩ = some (errV (ad 3))
  g4 : W.cell? ⟨6, 0, none⟩ = some (errV (ad 4))
  g5 : W.cell? ⟨7, 0, none⟩ = some (errV (ad 5))
  g6 : W.cell? ⟨8, 0, none⟩ = some (errV (ad 6))
  g7 : W.cell? ⟨9, 0, none⟩ = some (errV (ad 7))
  hE : W.cell? ⟨10, 0, none⟩ = some ETy
  hb : ∀ k, k < 8 → W.heap[(ad k).block]? = some (.cells (cs k) (ts k) (0, 0))
  hne : ∀ i j, i < 8 → j < 8 → i ≠ j → ad i ≠ ad j
  hsz : 10 + 1 ≤ W.heap.size
theorem SW.grown {w w' : World} {ad : Nat → Addr} {cs : Nat → Array Value} {ts : Nat → TypeId} (h : SW w ad cs ts) (hg : w.grownBy w' none) : SW w' ad cs ts := by
  have c : ∀ {b : Nat} {v : Value}, b < 10 + 1 → w.cell? ⟨b, 0, none⟩ = some v → w'.cell? ⟨b, 0, none⟩ = some v := fun hl e => grown_cell e (Nat.lt_of_lt_of_le hl h.hsz) hg
  exact ⟨c (by decide) h.g0, c (by decide) h.g1, c (by decide) h.g2, c (by decide) h.g3, c (by decide) h.g4, c (by decide) h.g5, c (by decide) h.g6, c (by decide) h.g7, c (by decide) h.hE,
    fun k hk => by rw [hg.block _ (lt_of_block (h.hb k hk)) (by simp)]; exact h.hb k hk, h.hne, Nat.le_trans h.hsz hg.size⟩

theorem five_c {w : World} {b : Nat} {p q r s u : Value} {t : TypeId} (h : w.heap[b]? = some (.cells #[p, q, r, s, u] t (0, 0))) :
    (w.cell? ⟨b, 0, none⟩ = some p ∧ w.cell? ⟨b, 1, none⟩ = some q ∧ w.cell? ⟨b, 2, none⟩ = some r ∧ w.cell? ⟨b, 3, none⟩ = some s ∧ w.cell? ⟨b, 4, none⟩ = some u) ∧
    w.frozen? ⟨b, 0, none⟩ = false ∧ w.frozen? ⟨b, 1, none⟩ = false ∧ w.frozen? ⟨b, 2, none⟩ = false ∧ w.frozen? ⟨b, 3, none⟩ = false ∧ w.frozen? ⟨b, 4, none⟩ = false := by
  simp [World.cell?, World.frozen?, h]
/-- The four variables of fault. -/
def faultW (w : World) : World := (((w.alloc (.cells #[.int .i64 0, .int .i64 0, .string (B []), .int .i64 0, .int .i64 0] 23)).alloc (.cells #[.pointer none] 134)).alloc (.cells #[.pointer none] 135)).alloc (.cells #[.pointer none] 136)
theorem faultW_grown (w : World) : w.grownBy (faultW w) none := (((World.grownBy_alloc _ _ _).trans (World.grownBy_alloc _ _ _)).trans (World.grownBy_alloc _ _ _)).trans (World.grownBy_alloc _ _ _)
theorem faultW_blocks (w : World) : (faultW w).heap[w.heap.size]? = some (.cells #[.int .i64 0, .int .i64 0, .string (B []), .int .i64 0, .int .i64 0] 23 (0, 0)) ∧ (faultW w).heap[w.heap.size + 1]? = some (.cells #[.pointer none] 134 (0, 0)) ∧
    (faultW w).heap[w.heap.size + 2]? = some (.cells #[.pointer none] 135 (0, 0)) ∧ (faultW w).heap[w.heap.size + 3]? = some (.cells #[.pointer none] 136 (0, 0)) := by
  unfold faultW
  refine ⟨?_, ?_, ?_, ?_⟩
  · rw [Below.heap_alloc _ _ _ (by simp <;> omega), Below.heap_alloc _ _ _ (by simp <;> omega), Below.heap_alloc _ _ _ (by simp)]
    exact heap_alloc_new _ _
  · rw [Below.heap_alloc _ _ _ (by simp <;> omega), Below.heap_alloc _ _ _ (by simp)]
    exact heap_alloc_at _ _ _ (by simp)
  · rw [Below.heap_alloc _ _ _ (by simp)]
    exact heap_alloc_at _ _ _ (by simp)
  · exact heap_alloc_at _ _ _ (by simp)
theorem one_c {w : World} {b : Nat} {p : Value} {t : TypeId} (h : w.heap[b]? = some (.cells #[p] t (0, 0))) : w.cell? ⟨b, 0, none⟩ = some p ∧ w.frozen? ⟨b, 0, none⟩ = false := by simp [World.cell?, World.frozen?, h]
set_option maxRecDepth 100000 in
set_option maxHeartbeats 2000000 in
theorem fault_nil (w : World) : Calls Tryz.prog 37 #[.nilIface] w fun e w' => e = .returned (fv 0 0) ∧ w.grownBy w' none := by
  go_enter Tryz.func37, Tryz.ntmps37
  go_wp2_with (go_at_call 70; refine (as_nil _ _).mono ?_; rintro e w' ⟨rfl, rfl⟩)
  refine bodyPost_ret (v := fv 0 0) ?_ rfl ?_
  · have q := five_c (faultW_blocks w).1
    obtain ⟨⟨q0, q1, q2, q3, q4⟩, _⟩ := q
    unfold faultW at q0 q1 q2 q3 q4
    simp [results, Tryz.results37, go_sem]
    rfl
  · exact ⟨rfl, faultW_grown w⟩

end Go.Proofs.YtcdijppegfcoaaaGreatDoor

/-
  OUR OWN TEXT. plain.fault: an error of errors.New's make: a map of eight is gone through, in whatever order.
-/
namespace Go.Proofs.YtcdijppegfcoaaaGreatDoor
open Go.RowKit
/-- Grown, with whatever was drawn. -/
structure Gn (w w' : World) : Prop where
  os : w'.os = w.os
  output : w'.output = w.output
  size : w.heap.size ≤ w'.heap.size
  block : ∀ k, k < w.heap.size → w'.heap[k]? = w.heap[k]?
theorem Gn.of {w w' : World} (h : w.grownBy w' none) : Gn w w' := ⟨h.os, h.output, h.size, fun k hk => h.block k hk (by simp)⟩
theorem Gn.trans {a b c : World} (h : Gn a b) (k : Gn b c) : Gn a c := ⟨k.os.trans h.os, k.output.trans h.output, Nat.le_trans h.size k.size, fun i hi => (k.block i (Nat.lt_of_lt_of_le hi h.size)).trans (h.block i hi)⟩
theorem Gn.setNew {w wi : World} (hg : Gn w wi) {n : Nat} (hn : w.heap.size ≤ n) (i : Nat) (a : Value) : Gn w (wi.setCell ⟨n, i, none⟩ a) :=
  ⟨hg.os, hg.output, by have := hg.size; simp [World.setCell] at this ⊢; omega, fun k hk => by
    rw [Below.heap_setCell _ _ _ _ (by show k ≠ n; omega)]
    exact hg.block k hk⟩
theorem Gn.set5 {w wi : World} (hg : Gn w wi) {n : Nat} (hn : w.heap.size ≤ n) (a b c d e : Value) : Gn w (((((wi.setCell ⟨n, 0, none⟩ a).setCell ⟨n, 1, none⟩ b).setCell ⟨n, 2, none⟩ c).setCell ⟨n, 3, none⟩ d).setCell ⟨n, 4, none⟩ e) :=
  ((((hg.setNew hn 0 a).setNew hn 1 b).setNew hn 2 c).setNew hn 3 d).setNew hn 4 e
theorem Gn.frame {W w' : World} (h : Gn W w') (may : MemPlace → Prop) : W.keptBut w' may := by
  refine ⟨h.os, h.output, fun i hi => ?_⟩
  rw [h.block i hi]
  split <;> simp_all
theorem Gn.cell {w wx : World} {b i : Nat} {v : Value} (h : w.cell? ⟨b, i, none⟩ = some v) (hl : b < w.heap.size) (hg : Gn w wx) : wx.cell? ⟨b, i, none⟩ = some v := by
  rw [World.cell?_of_block (a := ⟨b, i, none⟩) (hg.block b hl)]
  exact h
def errNo (i : Nat) : Int := [1, 3, 6, 7, 8, 9, 10, 11].getD i 0
end Go.Proofs.YtcdijppegfcoaaaGreatDoor

/-
  OUR OWN TEXT. typerlaw.said; faults held against each other; keywords in a later world.
-/
namespace Go.Proofs.YtcdijppegfcoaaaGreatDoor
open Go.RowKit
theorem KwO.gn {w w' : World} {kb ko : Nat} {kw : List (List UInt8)} (h : KwO w kb ko kw) (hb : kb < w.heap.size) (hg : Gn w w') : KwO w' kb ko kw := fun j hj => Gn.cell (h j hj) hb hg
theorem Gn.below {w w' : World} (h : Below w.heap.size w w') : Gn w w' := ⟨h.os, h.output, h.size, h.block⟩
end Go.Proofs.YtcdijppegfcoaaaGreatDoor

/-
  OUR OWN TEXT. What reading a type tells, in one word for both sides; the program's infer.Instance.
-/
namespace Go.Proofs.YtcdijppegfcoaaaGreatDoor
open Go.RowKit
/-- The text is this type, with these names. -/
def RdT (s : ByteArray) (x : Ty) (ns : List (List UInt8)) : Prop :=
  s.size ≤ 300 ∧ ∃ s1, arrS (toksOf tyKw s) (s.size + 2) [] ⟨0, -1⟩ = some (x, ns, s1) ∧ s1.k < (toksOf tyKw s).length ∧ (needS (toksOf tyKw s) s1 kEnd).bad < 0 ∧ ∀ N m, TyOk N m x → tySize m x ≤ 120
theorem ty_have2 (s : ByteArray) : ∃ x ns s1, arrS (toksOf tyKw s) (s.size + 2) [] ⟨0, -1⟩ = some (x, ns, s1) ∧ s1.k < (toksOf tyKw s).length := by
  obtain ⟨f1, f2, f3⟩ := toks_facts tyKw s (s.size + 1) 0 (Nat.zero_le _) (by omega)
  have hlen := toksOf_len tyKw s
  exact arr_tot (T := toksOf tyKw s) f1 (s.size + 2) [] ⟨0, -1⟩ (by show (-1 : Int) < 0; omega) f1.1 (by show (toksOf tyKw s).length - 0 < s.size + 2; omega)
theorem RdT.names {s : ByteArray} {x : Ty} {ns : List (List UInt8)} (h : RdT s x ns) : Nms ns.length ns ∧ ns.length ≤ 1000 := by
  obtain ⟨hs, s1, hx, hk, hb, _⟩ := h
  refine ⟨names_of hx ((needS_go _ s1 kEnd).2.2 hb).1, ?_⟩
  have h1 := (arr_went (toksOf tyKw s) _ [] ⟨0, -1⟩ x ns s1 (by show (-1 : Int) < 0; omega) hx)
  have h2 := toksOf_len tyKw s
  have h3 : ns.length + 0 ≤ 0 + s1.k + 1 := h1.2.2.1
  omega

/-- An error of the program's, and the fault that it is. -/
def ErrV (w : World) (ad : Nat → Addr) (v : Value) (a b : Int) : Prop :=
  (∃ i, i < 8 ∧ v = errV (ad i) ∧ a = errNo i ∧ b = 0) ∨ ∃ c, v = .iface 134 (.pointer (some ⟨c, 0, none⟩)) ∧ w.heap[c]? = some (.cells #[.int .i64 b] 145 (0, 0)) ∧ a = 2
theorem ErrV.val {w : World} {ad : Nat → Addr} {v : Value} {a b : Int} (h : ErrV w ad v a b) : ∃ t p, v = .iface t (.pointer (some p)) := by
  rcases h with ⟨i, _, rfl, _⟩ | ⟨c, rfl, _⟩
  · exact ⟨_, _, rfl⟩
  · exact ⟨_, _, rfl⟩
theorem ErrV.grown {w w' : World} {ad : Nat → Addr} {v : Value} {a b : Int} (h : ErrV w ad v a b) (hg : w.grownBy w' none) : ErrV w' ad v a b := by
  rcases h with h | ⟨c, h1, h2, h3⟩
  · exact Or.inl h
  · exact Or.inr ⟨c, h1, by rw [hg.block c (lt_of_block h2) (by simp)]; exact h2, h3⟩
theorem read_t (s : ByteArray) (x : Ty) (ns : List (List UInt8)) (w : World) (ad : Nat → Addr) (cs : Nat → Array Value) (ts : Nat → TypeId) (S : SW w ad cs ts) (h : RdT s x ns) :
    Calls Tryz.prog 79 #[.string s] w fun e w' => w.grownBy w' none ∧ ∃ u H m, e = .returned (.tuple #[u, .nilIface]) ∧ Fz H w' ∧ QRep ns m H u x ∧ TyOk ns.length m x ∧ tySize m x ≤ 120 := by
  obtain ⟨hs, s1, hx, hk, hb, hsz⟩ := h
  refine (read_q s hs w _ x ns s1 hx hk (ad 4) S.g4 (Nat.lt_of_lt_of_le (by decide) S.hsz)).mono ?_
  rintro e w' ⟨g, (⟨hb', _⟩ | ⟨_, v, H', m, z1, r1, ok, (⟨hd, _⟩ | ⟨hd, rfl⟩)⟩)⟩
  · omega
  · exact absurd (hsz _ _ ok) (by omega)
  · exact ⟨g, v, H', m, rfl, z1, r1, ok, hd⟩
end Go.Proofs.YtcdijppegfcoaaaGreatDoor
