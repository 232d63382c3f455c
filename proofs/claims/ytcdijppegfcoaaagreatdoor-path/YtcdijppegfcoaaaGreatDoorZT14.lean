import Derived.Test.YtcdijppegfcoaaaGreatDoorZT01
import Derived.Deep.LoopGhost
/-
  OUR OWN TEXT. An expression that is being made: its own block and its two rows may still change; what lies below them doesn't.
-/
namespace Go.Proofs.YtcdijppegfcoaaaGreatDoor
open Go.RowKit
/-- Below n all is as it was, but for the reader's own block. -/
structure KeptTo (n rb : Nat) (w w' : World) : Prop where
  os : w'.os = w.os
  tape : w'.tape = w.tape
  output : w'.output = w.output
  size : w.heap.size ≤ w'.heap.size
  block : ∀ k, k < n → k ≠ rb → w'.heap[k]? = w.heap[k]?
theorem KeptTo.refl (n rb : Nat) (w : World) : KeptTo n rb w w := ⟨rfl, rfl, rfl, Nat.le_refl _, fun _ _ _ => rfl⟩
theorem KeptTo.trans {n rb : Nat} {a b c : World} (h : KeptTo n rb a b) (k : KeptTo n rb b c) : KeptTo n rb a c :=
  ⟨k.os.trans h.os, k.tape.trans h.tape, k.output.trans h.output, Nat.le_trans h.size k.size, fun i hi hn => (k.block i hi hn).trans (h.block i hi hn)⟩
theorem KeptTo.of {n rb : Nat} {a b : World} (h : Kept rb a b) (hn : n ≤ a.heap.size) : KeptTo n rb a b :=
  ⟨h.os, h.tape, h.output, h.size, fun k hk hr => h.block k (by omega) (by simp; exact hr)⟩
theorem KeptTo.toKept {rb : Nat} {a b : World} (h : KeptTo a.heap.size rb a b) : Kept rb a b :=
  ⟨h.os, h.tape, h.output, h.size, fun k hk hr => h.block k hk (fun e => hr (by rw [e]))⟩
theorem KeptTo.drew {n rb : Nat} {a b : World} (h : KeptTo n rb a b) : KeptTo n rb a b.drew := ⟨h.os, h.tape, h.output, h.size, h.block⟩
theorem KeptTo.drewN {n rb : Nat} {a b : World} (h : KeptTo n rb a b) (q : Nat) : KeptTo n rb a (b.drewN q) := ⟨h.os, h.tape, h.output, h.size, h.block⟩
theorem KeptTo.alloc {n rb : Nat} {a b : World} (h : KeptTo n rb a b) (hn : n ≤ b.heap.size) (o : Obj) : KeptTo n rb a (b.alloc o) :=
  h.trans ⟨rfl, rfl, rfl, by simp, fun k hk _ => Below.heap_alloc _ _ _ (by omega)⟩
theorem KeptTo.setCell {n rb : Nat} {a b : World} (h : KeptTo n rb a b) {p : Nat} (hp : n ≤ p) (i : Nat) (v : Value) : KeptTo n rb a (b.setCell ⟨p, i, none⟩ v) :=
  h.trans ⟨rfl, rfl, rfl, by simp [World.setCell], fun k hk _ => Below.heap_setCell _ _ _ _ (by show k ≠ p; omega)⟩
theorem KeptTo.grown {n rb : Nat} {a b c : World} {row : Option Nat} (h : KeptTo n rb a b) (hg : b.grownBy c row) (hn : n ≤ b.heap.size) (hr : ∀ k, some k = row → n ≤ k) : KeptTo n rb a c :=
  h.trans ⟨hg.os, hg.tape, hg.output, hg.size, fun k hk _ => hg.block k (by omega) (fun e => by have := hr k e; omega)⟩

/-- The reader, where its two blocks lie below n, in a world that is kept to n but for the reader's own block, which is as it was. -/
theorem RS.to {n : Nat} {w w' : World} {rb g cap : Nat} {T : List Tok} {s : St} (h : RS w rb g cap T s) (hg : g < n) (hk : ∀ k, k < n → w'.heap[k]? = w.heap[k]?) (hr : rb < n) : RS w' rb g cap T s := by
  obtain ⟨cur, e1, e2⟩ := h.t
  exact ⟨by rw [hk rb hr]; exact h.r, ⟨cur, by rw [hk g hg]; exact e1, e2⟩, h.len, h.pos, h.kle, h.blo, h.bhi⟩

/-- An expression that is being made. -/
structure XM (w : World) (xb : Nat) (H : Nat → Option Obj) (ns ks : Value) (bs : List Nat) (m : Nat) (x : Ex) : Prop where
  blk : w.heap[xb]? = some (.cells #[.string (B x.op), ns, ks, .int .i64 (x.pos : Int)] 86 (0, 0))
  nrow : w.ownsRow xb 9 1 ns x.names.length (strs x.names)
  krow : w.ownsRow xb 26 1 ks bs.length (ptrs bs)
  len : bs.length = x.kids.length
  reps : ∀ (i : Nat) (y : Ex) (c : Nat), bs[i]? = some c → x.kids[i]? = some y → XRep m H c y
  hx : H xb = none
  hn : ∀ k, some k = ns.ownBlock → H k = none
  hk : ∀ k, some k = ks.ownBlock → H k = none

/-- A row of the expression's in a later world that has its block as it was. -/
theorem own_at {w w' : World} {base e size n : Nat} {v : Value} {xs : List Value} (h : w.ownsRow base e size v n xs) (hk : ∀ k, some k = v.ownBlock → w'.heap[k]? = w.heap[k]?) : w'.ownsRow base e size v n xs := by
  obtain ⟨h1, h2⟩ := h
  refine ⟨h1, ?_⟩
  rcases h2 with h2 | ⟨g, cap, cur, rfl, hg, hh, r⟩
  · exact Or.inl h2
  · exact Or.inr ⟨g, cap, cur, rfl, hg, by rw [hk g rfl]; exact hh, r⟩
theorem own_type {w : World} {base e size n k : Nat} {v : Value} {xs : List Value} (h : w.ownsRow base e size v n xs) (hk : some k = v.ownBlock) : ∃ cur, w.heap[k]? = some (.cells cur e (0, 0)) := by
  obtain ⟨_, h2⟩ := h
  rcases h2 with ⟨rfl, _⟩ | ⟨g, cap, cur, rfl, hg, hh, r⟩
  · cases hk
  · simp only [Value.ownBlock, Option.some.injEq] at hk
    subst hk
    exact ⟨cur, hh⟩

/-- It stays as it is where the call of a reader's function keeps all but the reader's block. -/
theorem XM.kept {w w' : World} {xb rb : Nat} {H H' : Nat → Option Obj} {ns ks : Value} {bs : List Nat} {m : Nat} {x : Ex} (h : XM w xb H ns ks bs m x) (hk : Kept rb w w') (he : Ext w.heap.size H H') (hr : rb < xb) : XM w' xb H' ns ks bs m x := by
  have hl := lt_of_block h.blk
  have same : ∀ k, xb ≤ k → k < w.heap.size → w'.heap[k]? = w.heap[k]? := fun k h1 h2 => hk.block k h2 (by simp; omega)
  refine ⟨by rw [same xb (Nat.le_refl _) hl]; exact h.blk, own_at h.nrow fun k e => ?_, own_at h.krow fun k e => ?_, h.len, fun i y c h1 h2 => XRep.ext he _ _ _ (h.reps i y c h1 h2), by rw [he.2 xb hl]; exact h.hx, fun k e => ?_, fun k e => ?_⟩
  · have := own_lt h.nrow e; exact same k this.1 this.2
  · have := own_lt h.krow e; exact same k this.1 this.2
  · rw [he.2 k (own_lt h.nrow e).2]; exact h.hn k e
  · rw [he.2 k (own_lt h.krow e).2]; exact h.hk k e
theorem XM.drew {w : World} {xb : Nat} {H : Nat → Option Obj} {ns ks : Value} {bs : List Nat} {m : Nat} {x : Ex} (h : XM w xb H ns ks bs m x) : XM w.drew xb H ns ks bs m x := ⟨h.blk, h.nrow, h.krow, h.len, h.reps, h.hx, h.hn, h.hk⟩
theorem XM.drewN {w : World} {xb : Nat} {H : Nat → Option Obj} {ns ks : Value} {bs : List Nat} {m : Nat} {x : Ex} (h : XM w xb H ns ks bs m x) (q : Nat) : XM (w.drewN q) xb H ns ks bs m x := ⟨h.blk, h.nrow, h.krow, h.len, h.reps, h.hx, h.hn, h.hk⟩
theorem XM.alloc {w : World} {xb : Nat} {H : Nat → Option Obj} {ns ks : Value} {bs : List Nat} {m : Nat} {x : Ex} (h : XM w xb H ns ks bs m x) (o : Obj) : XM (w.alloc o) xb H ns ks bs m x :=
  ⟨by rw [Below.heap_alloc _ _ _ (lt_of_block h.blk)]; exact h.blk, h.nrow.alloc o, h.krow.alloc o, h.len, h.reps, h.hx, h.hn, h.hk⟩

/-- A new expression, with nothing in it yet. -/
theorem XM.new {w : World} {H : Nat → Option Obj} (hz : Fz H w) (op : List UInt8) (pos : Nat) : XM (w.alloc (.cells #[.string (B op), .slice none 0 0, .slice none 0 0, .int .i64 (pos : Int)] 86)) w.heap.size H (.slice none 0 0) (.slice none 0 0) [] 0 ⟨op, [], [], pos⟩ :=
  ⟨heap_alloc_new _ _, World.ownsRow_nil _ _ _ _, World.ownsRow_nil _ _ _ _, rfl, (fun i y c h => by simp at h), hz.none (Nat.le_refl _), (fun k e => by cases e), (fun k e => by cases e)⟩
theorem row_not {w : World} {base e size n b t : Nat} {v : Value} {xs : List Value} {C : Array Value} (h : w.ownsRow base e size v n xs) (hb : w.heap[b]? = some (.cells C t (0, 0))) (hne : t ≠ e) : ∀ k, some k = v.ownBlock → k ≠ b := by
  intro k hk e'
  obtain ⟨cur, hc⟩ := own_type h hk
  rw [e', hb] at hc
  simp only [Option.some.injEq, Obj.cells.injEq] at hc
  exact hne hc.2.1
theorem row_freeze {w : World} {base e : Nat} {v : Value} {xs : List Value} {H : Nat → Option Obj} (h : w.ownsRow base e 1 v xs.length xs) (hz : Fz H w) (hn : ∀ k, some k = v.ownBlock → H k = none) :
    ∃ H', Fz H' w ∧ Ext base H H' ∧ RowH H' e v xs ∧ ∀ k, some k ≠ v.ownBlock → H' k = H k := by
  obtain ⟨_, h2⟩ := h
  rcases h2 with ⟨rfl, h0⟩ | ⟨g, cap, cur, rfl, hg, hh, _, _, _, ht⟩
  · exact ⟨H, hz, Ext.refl _ _, Or.inl ⟨rfl, List.length_eq_zero_iff.1 h0⟩, fun _ _ => rfl⟩
  · have n0 := hn g rfl
    refine ⟨Fz.more H g (.cells cur e (0, 0)), hz.add hh, (Ext.refl _ _).add hg n0, Or.inr ⟨g, cap, cur, rfl, Fz.more_same _ _ _, by simpa using ht⟩, fun k hk => ?_⟩
    unfold Fz.more
    rw [if_neg (fun e => hk (by rw [e]; rfl))]
/-- An expression that is made. -/
theorem XM.freeze {w : World} {xb : Nat} {H : Nat → Option Obj} {ns ks : Value} {bs : List Nat} {m : Nat} {x : Ex} (h : XM w xb H ns ks bs m x) (hz : Fz H w) : ∃ H', Fz H' w ∧ Ext xb H H' ∧ XRep (m + 1) H' xb x := by
  have ln : (strs x.names).length = x.names.length := by simp [strs]
  have lk : (ptrs bs).length = bs.length := by simp [ptrs]
  obtain ⟨H1, z1, x1, r1, o1⟩ := row_freeze (xs := strs x.names) (by rw [ln]; exact h.nrow) hz h.hn
  have kn : ∀ k, some k = ks.ownBlock → some k ≠ ns.ownBlock := fun k e e' => by
    obtain ⟨c1, q1⟩ := own_type h.krow e
    obtain ⟨c2, q2⟩ := own_type h.nrow e'
    rw [q1] at q2
    simp only [Option.some.injEq, Obj.cells.injEq] at q2
    exact absurd q2.2.1 (by decide)
  obtain ⟨H2, z2, x2, r2, o2⟩ := row_freeze (xs := ptrs bs) (by rw [lk]; exact h.krow) z1 (fun k e => by rw [o1 k (kn k e)]; exact h.hk k e)
  have nx : H2 xb = none := by
    rw [o2 xb (fun e => row_not h.krow h.blk (by decide) xb e rfl), o1 xb (fun e => row_not h.nrow h.blk (by decide) xb e rfl)]
    exact h.hx
  have x3 : Ext xb H2 (Fz.more H2 xb (.cells #[.string (B x.op), ns, ks, .int .i64 (x.pos : Int)] 86 (0, 0))) := (Ext.refl _ _).add (Nat.le_refl _) nx
  have xx := (x1.trans x2 (Nat.le_refl _)).trans x3 (Nat.le_refl _)
  exact ⟨_, z2.add h.blk, xx, ns, ks, bs, Fz.more_same _ _ _, (r1.ext x2).ext x3, r2.ext x3, h.len, fun i y c h1 h2 => XRep.ext xx _ _ _ (h.reps i y c h1 h2)⟩

theorem one_new (w : World) (a : Value) (t : TypeId) : ∀ (j : Nat) (u : Value), [a][j]? = some u → (w.alloc (.cells #[a] t)).cell? (Addr.add ⟨w.heap.size, 0, none⟩ j) = some u := by
  intro j u h
  match j, h with
  | 0, h => simp at h; subst h; simp [Addr.add]
end Go.Proofs.YtcdijppegfcoaaaGreatDoor

/-
  OUR OWN TEXT. typerref's reader: bound.
-/
namespace Go.Proofs.YtcdijppegfcoaaaGreatDoor
open Go.RowKit
theorem Fz.drewN {H : Nat → Option Obj} {w : World} (h : Fz H w) (n : Nat) : Fz H (w.drewN n) := h
/-- A row of texts, as a slice of whatever make. -/
theorem own_view {w : World} {base : Nat} {v : Value} {names : List (List UInt8)} (h : w.ownsRow base 9 1 v names.length (strs names)) :
    ∃ ao cp, v = .slice ao names.length cp ∧ ∀ j, j < names.length → ∃ gn, ao = some ⟨gn, 0, none⟩ ∧ base ≤ gn ∧ gn < w.heap.size ∧ w.cell? ⟨gn, j, none⟩ = some (.string (B (names.getD j []))) := by
  obtain ⟨_, h2⟩ := h
  rcases h2 with ⟨rfl, h0⟩ | ⟨gn, cap, cur, rfl, hg, hh, _, _, _, ht⟩
  · exact ⟨none, 0, by rw [h0], fun j hj => by omega⟩
  · refine ⟨some ⟨gn, 0, none⟩, cap, rfl, fun j hj => ⟨gn, rfl, hg, lt_of_block hh, ?_⟩⟩
    have e : (strs names)[j]? = some (.string (B (names.getD j []))) := by simp [strs, List.getD, hj]
    rw [← ht, List.getElem?_take, if_pos (by omega)] at e
    simp only [World.cell?, hh]
    simpa using e

end Go.Proofs.YtcdijppegfcoaaaGreatDoor
