/-
  OUR OWN TEXT. Names: the plain part: the list of 128 answers, and how it grows by two.
-/
import Derived.WalkKit
namespace Go.Proofs.YtcdijppegfcoaaaDoor
open Go.RowKit

/-- The first n of the answers: number m says whether m / 16 is m % 16 / 2. -/
def bl (n : Nat) : List Value := (List.range n).map fun m => Value.bool (m / 16 == m % 16 / 2)
theorem bl_len (n : Nat) : (bl n).length = n := by simp [bl]
theorem bl_two (k j : Nat) (hj : j < 8) : bl (16 * k + 2 * j) ++ [Value.bool (k == j), Value.bool (k == j)] = bl (16 * k + 2 * (j + 1)) := by
  have e : 16 * k + 2 * (j + 1) = (16 * k + 2 * j + 1) + 1 := by omega
  have a1 : (16 * k + 2 * j) / 16 = k := by omega
  have a2 : (16 * k + 2 * j) % 16 / 2 = j := by omega
  have a3 : (16 * k + 2 * j + 1) / 16 = k := by omega
  have a4 : (16 * k + 2 * j + 1) % 16 / 2 = j := by omega
  rw [e]
  unfold bl
  rw [List.range_succ, List.range_succ]
  simp only [List.map_append, List.map_cons, List.map_nil, a1, a2, a3, a4, List.append_assoc, List.cons_append, List.nil_append]
theorem bl_get (i : Nat) (h : i < 128) : (bl 128)[i]? = some (Value.bool (i / 16 == i % 16 / 2)) := by
  simp [bl, h]
theorem bl_one (n : Nat) : ∀ u ∈ bl n, u.oneCell' = true := by
  intro u hu
  simp only [bl, List.mem_map] at hu
  obtain ⟨m, _, rfl⟩ := hu
  rfl
theorem eight {P : Nat → Prop} (h0 : P 0) (h1 : P 1) (h2 : P 2) (h3 : P 3) (h4 : P 4) (h5 : P 5) (h6 : P 6) (h7 : P 7) : ∀ k, k < 8 → P k := by
  intro k hk
  match k, hk with
  | 0, _ => exact h0
  | 1, _ => exact h1
  | 2, _ => exact h2
  | 3, _ => exact h3
  | 4, _ => exact h4
  | 5, _ => exact h5
  | 6, _ => exact h6
  | 7, _ => exact h7
  | k + 8, h => omega

/-- A slice's own row is no block of another element type. -/
theorem own_other {w : World} {B e size n pb t : Nat} {v : Value} {xs : List Value} {C : Array Value} (h : w.ownsRow B e size v n xs) (hp : w.heap[pb]? = some (.cells C t (0, 0))) (hne : t ≠ e) : some pb ≠ v.ownBlock := by
  obtain ⟨_, h2⟩ := h
  rcases h2 with ⟨rfl, _⟩ | ⟨g, cap, cur, rfl, _, hh, _⟩
  · intro h; cases h
  · intro h
    simp only [Value.ownBlock, Option.some.injEq] at h
    subst h
    rw [hh] at hp
    simp only [Option.some.injEq, Obj.cells.injEq] at hp
    exact hne hp.2.1.symm

theorem two_new (w : World) (a b : Value) (t : TypeId) : ∀ (j : Nat) (u : Value), [a, b][j]? = some u → (w.alloc (.cells #[a, b] t)).cell? (Addr.add ⟨w.heap.size, 0, none⟩ j) = some u := by
  intro j u h
  match j, h with
  | 0, h => simp at h; subst h; simp [Addr.add]
  | 1, h => simp at h; subst h; simp [Addr.add]
theorem two_bools (a b : Bool) : ∀ u, u ∈ [Value.bool a, Value.bool b] → u.oneCell' = true := by
  intro u hu
  simp only [List.mem_cons, List.not_mem_nil, or_false] at hu
  rcases hu with rfl | rfl <;> rfl

theorem inner_step {B : Nat} {u wr w1 : World} {v v' : Value} {k j pb : Nat} {C : Array Value} {o : Obj} (hj : j < 8) (hown : wr.ownsRow B 4 1 v (16 * k + 2 * j) (bl (16 * k + 2 * j)))
    (hpb : wr.heap[pb]? = some (.cells C 32 (0, 0))) (hbel : Below B u wr) (hB : B ≤ wr.heap.size)
    (hown' : w1.ownsRow B 4 1 v' (16 * k + 2 * j + 2) (bl (16 * k + 2 * j) ++ [Value.bool (k == j), Value.bool (k == j)])) (hgrow : (wr.alloc o).grownBy w1 v.ownBlock) :
    w1.ownsRow B 4 1 v' (16 * k + 2 * (j + 1)) (bl (16 * k + 2 * (j + 1))) ∧ w1.heap[pb]? = some (.cells C 32 (0, 0)) ∧ Below B u w1 := by
  have hlt := lt_of_block hpb
  refine ⟨?_, ?_, ?_⟩
  · rw [bl_two k j hj] at hown'
    exact hown'
  · rw [hgrow.block pb (by simp; omega) (own_other hown hpb (by decide)), Below.heap_alloc _ _ _ hlt]
    exact hpb
  · refine (hbel.alloc hB o).grown hgrow (by simp; omega) ?_
    intro q hq
    obtain ⟨_, h2⟩ := hown
    rcases h2 with ⟨rfl, _⟩ | ⟨g, cap, cur, rfl, hg, _⟩
    · cases hq
    · simp only [Value.ownBlock, Option.some.injEq] at hq
      omega
end Go.Proofs.YtcdijppegfcoaaaDoor
