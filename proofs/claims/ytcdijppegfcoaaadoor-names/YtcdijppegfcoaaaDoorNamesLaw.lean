/-
  OUR OWN TEXT. typerlaw.Names: true.
-/
import Derived.Test.YtcdijppegfcoaaaDoorNamesWalk
import Derived.WalkSpells
namespace Go.Proofs.YtcdijppegfcoaaaDoor
open Go.RowKit Go.Extern.Stop Go.Stop Go.Extern

def zs : List Int := [300, 8, 40, 120, 12]
theorem zs_cells (w : World) (b : Nat) (h : w.heap[b]? = some (.cells #[.int .i64 300, .int .i64 8, .int .i64 40, .int .i64 120, .int .i64 12] 3 (0, 0))) :
    ∀ k, k < 5 → w.cell? ⟨b, k, none⟩ = some (.int .i64 (zs.getD k 0)) := by
  intro k hk
  match k, hk with
  | 0, _ => simp [World.cell?, h, zs]
  | 1, _ => simp [World.cell?, h, zs]
  | 2, _ => simp [World.cell?, h, zs]
  | 3, _ => simp [World.cell?, h, zs]
  | 4, _ => simp [World.cell?, h, zs]
  | k + 5, h => omega

theorem bool_int (i : Nat) : (i / 16 == i % 16 / 2) = (((i : Int) / 16) == ((i : Int) % 16 / 2)) := by
  rw [Bool.eq_iff_iff, beq_iff_eq, beq_iff_eq]
  omega

/-- What the row's reading gives the walk. -/
structure Sentinels (W : World) (ad : Nat → Addr) (cs : Nat → Array Value) (ts : Nat → TypeId) : Prop where
  h0 : W.cell? ⟨0, 0, none⟩ = some (.iface 68 (.pointer (some (ad 0))))
  h1 : W.cell? ⟨1, 0, none⟩ = some (.iface 68 (.pointer (some (ad 1))))
  h2 : W.cell? ⟨2, 0, none⟩ = some (.iface 68 (.pointer (some (ad 2))))
  h3 : W.cell? ⟨3, 0, none⟩ = some (.iface 68 (.pointer (some (ad 3))))
  h4 : W.cell? ⟨4, 0, none⟩ = some (.iface 68 (.pointer (some (ad 4))))
  h5 : W.cell? ⟨5, 0, none⟩ = some (.iface 68 (.pointer (some (ad 5))))
  h6 : W.cell? ⟨6, 0, none⟩ = some (.iface 68 (.pointer (some (ad 6))))
  h7 : W.cell? ⟨7, 0, none⟩ = some (.iface 68 (.pointer (some (ad 7))))
  hE : W.cell? ⟨8, 0, none⟩ = some (.iface 54 (.agg #[.pointer (some ⟨9, 28, none⟩)]))
  hb : ∀ k, k < 8 → W.heap[(ad k).block]? = some (.cells (cs k) (ts k) (0, 0))
  hne : ∀ i j, i < 8 → j < 8 → i ≠ j → ad i ≠ ad j
  hsz : 8 < W.heap.size

set_option maxRecDepth 100000 in
set_option maxHeartbeats 2000000 in
theorem law_any (W : World) (ad : Nat → Addr) (cs : Nat → Array Value) (ts : Nat → TypeId) (S : Sentinels W ad cs ts) :
    Calls Tryd.prog 3 #[] W fun e w' => e = .returned (.bool true) ∧ Below W.heap.size W w' := by
  go_enter Tryd.func3, Tryd.ntmps3
  go_wp2_with fail
  refine (names_any W ad cs ts S.h0 S.h1 S.h2 S.h3 S.h4 S.h5 S.h6 S.h7 S.hE S.hb S.hne S.hsz).mono ?_
  rintro e w1 ⟨g, cap, rfl, hbools, hbnd, hgl, hbel⟩
  have hs1 := hbel.size
  have hbl := lt_of_block hbnd
  have HB := (show Hid (∀ i, i < 128 → w1.cell? ⟨g, i, none⟩ = some (.bool (i / 16 == i % 16 / 2))) from hbools)
  have HZ := (show Hid (w1.heap[W.heap.size]? = some (.cells #[.int .i64 300, .int .i64 8, .int .i64 40, .int .i64 120, .int .i64 12] 3 (0, 0))) from hbnd)
  clear hbools hbnd S
  go_wp2
  go_loopw [29, 5] (fun i _ wr => ∃ k : Nat, k ≤ 5 ∧ i = .int .i64 k ∧ Below (w1.heap.size + 1) (w1.alloc (.cells #[.int .i64 300, .int .i64 8, .int .i64 40, .int .i64 120, .int .i64 12] 3)) wr) (fun i _ _ => 5 - (intOf i).toNat)
  case atStart => exact ⟨0, by omega, rfl, Below.refl _ _⟩
  case round =>
    obtain ⟨k, hk, rfl, hb2⟩ := hrel
    by_cases hlt : k < 5
    · have c1 : wr.cell? ⟨W.heap.size, k, none⟩ = some (.int .i64 (zs.getD k 0)) := by
        rw [hb2.cell (by show _ < _; exact Nat.lt_succ_of_lt hbl), World.cell?_alloc_past _ _ _ hbl]
        exact zs_cells _ _ HZ.out k hlt
      have c2 : wr.cell? ⟨w1.heap.size, k, none⟩ = some (.int .i64 (zs.getD k 0)) := by
        rw [hb2.cell (by show _ < _; exact Nat.lt_succ_self _)]
        exact zs_cells _ _ (heap_alloc_new _ _) k hlt
      obtain ⟨z, hz⟩ : ∃ z, z = zs.getD k 0 := ⟨_, rfl⟩
      rw [← hz] at c1 c2
      clear hz
      go_wp2
      go_region
      all_goals
        go_wp2
        go_roundw
        case rel => exact ⟨k + 1, by omega, by go_num, hb2.drew⟩
        case measure => simp [intOf]; omega
    · have hk5 : k = 5 := by omega
      subst hk5
      have hw1 := hb2.size
      simp only [World.size_alloc] at hw1
      have hB1 : ∀ i, i < 128 → wr.cell? ⟨g, i, none⟩ = some (.bool (((i : Int) / 16) == ((i : Int) % 16 / 2))) := fun i hi => by
        rw [hb2.cell (by show g < _; omega), World.cell?_alloc_past _ _ _ hgl, HB.out i hi, bool_int]
      have HB1 := (show Hid (∀ i, i < 128 → wr.cell? ⟨g, i, none⟩ = some (.bool (((i : Int) / 16) == ((i : Int) % 16 / 2)))) from hB1)
      have hfin : Below W.heap.size W wr := (hbel.alloc hs1 _).trans (hb2.mono (by omega))
      clear hB1 hb2 HB HZ
      go_wp2
      go_loop [44, 6] (fun i _ => ∃ k : Nat, k ≤ 128 ∧ i = .int .i64 k) (fun i _ => 128 - (intOf i).toNat)
      case atStart => exact ⟨0, by omega, rfl⟩
      case round =>
        obtain ⟨k, hk, rfl⟩ := hrel
        by_cases hlt : k < 128
        · have c1 := HB1.out k hlt
          go_wp2
          go_round
          case rel => exact ⟨k + 1, by omega, by go_num⟩
          case measure => simp [intOf]; omega
        · go_wp2
          go_ret
          exact ⟨rfl, hfin⟩
end Go.Proofs.YtcdijppegfcoaaaDoor
