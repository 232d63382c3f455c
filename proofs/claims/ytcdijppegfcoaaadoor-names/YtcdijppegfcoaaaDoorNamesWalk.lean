/-
  OUR OWN TEXT. plain.Names: what it answers.
-/
import Derived.Test.YtcdijppegfcoaaaDoorAsEnv
import Derived.Test.YtcdijppegfcoaaaDoorNamesParts
import Derived.Outline
namespace Go.Proofs.YtcdijppegfcoaaaDoor
open Go.RowKit Go.Extern.Stop Go.Stop Go.Extern

theorem info_bool : (Tryd.prog.info? 4).map (fun i => (i.zero, i.size, i.bytes)) = some (some (.bool false), 1, 1) := by kernel_rfl

def bnd : Obj := .cells #[.int .i64 300, .int .i64 8, .int .i64 40, .int .i64 120, .int .i64 12] 3
def lst (ad : Nat → Addr) : Obj := .cells #[.iface 68 (.pointer (some (ad 0))), .iface 68 (.pointer (some (ad 1))), .iface 68 (.pointer (some (ad 2))), .iface 68 (.pointer (some (ad 3))),
  .iface 68 (.pointer (some (ad 4))), .iface 68 (.pointer (some (ad 5))), .iface 68 (.pointer (some (ad 6))), .iface 68 (.pointer (some (ad 7)))] 28
def wld (W : World) (ad : Nat → Addr) : World := (W.alloc bnd).alloc (lst ad)
theorem wld_size (W : World) (ad : Nat → Addr) : (wld W ad).heap.size = W.heap.size + 2 := by simp [wld]
theorem wld_list (W : World) (ad : Nat → Addr) : ∀ k, k < 8 → (wld W ad).cell? ⟨W.heap.size + 1, k, none⟩ = some (.iface 68 (.pointer (some (ad k)))) := by
  have h : ∀ k, (wld W ad).cell? ⟨W.heap.size + 1, k, none⟩ = (#[Value.iface 68 (.pointer (some (ad 0))), .iface 68 (.pointer (some (ad 1))), .iface 68 (.pointer (some (ad 2))), .iface 68 (.pointer (some (ad 3))),
      .iface 68 (.pointer (some (ad 4))), .iface 68 (.pointer (some (ad 5))), .iface 68 (.pointer (some (ad 6))), .iface 68 (.pointer (some (ad 7)))])[k]? := fun k => by
    unfold wld lst
    exact World.cell?_alloc_at _ _ _ _ (by simp)
  refine eight ?_ ?_ ?_ ?_ ?_ ?_ ?_ ?_ <;> (rw [h]; rfl)
theorem wld_bnd (W : World) (ad : Nat → Addr) : (wld W ad).heap[W.heap.size]? = some (.cells #[.int .i64 300, .int .i64 8, .int .i64 40, .int .i64 120, .int .i64 12] 3 (0, 0)) := by
  unfold wld
  rw [Below.heap_alloc _ _ _ (by simp)]
  exact heap_alloc_new _ _
theorem wld_old (W : World) (ad : Nat → Addr) (b : Nat) (h : b < W.heap.size) : (wld W ad).heap[b]? = W.heap[b]? := by
  unfold wld
  rw [Below.heap_alloc _ _ _ (by simp; omega), Below.heap_alloc _ _ _ h]

theorem own_open {w : World} {B : Nat} {v : Value} (h : w.ownsRow B 4 1 v (16 * 8) (bl (16 * 8))) : ∃ g cap cur, v = .slice (some ⟨g, 0, none⟩) 128 cap ∧ B ≤ g ∧ w.heap[g]? = some (.cells cur 4 (0, 0)) ∧
    (∀ i, i < 128 → cur[i]? = some (Value.bool (i / 16 == i % 16 / 2))) := by
  obtain ⟨_, h2⟩ := h
  rcases h2 with ⟨_, h0⟩ | ⟨g, cap, cur, rfl, hg, hh, _, _, _, ht⟩
  · omega
  · refine ⟨g, cap, cur, rfl, hg, hh, fun i hi => ?_⟩
    have e := bl_get i hi
    rw [show bl 128 = bl (16 * 8) from rfl, ← ht, List.getElem?_take, if_pos (by omega)] at e
    simpa using e

theorem asWorld_cell (w : World) (tb : Nat) (q : Addr) (b o : Nat) (h : b < w.heap.size) : (asWorld w tb q).cell? ⟨b, o, none⟩ = (w.setCell ⟨tb, 0, none⟩ (.pointer (some q))).cell? ⟨b, o, none⟩ := by
  have hs : (w.setCell ⟨tb, 0, none⟩ (.pointer (some q))).heap.size = w.heap.size := by simp [World.setCell]
  unfold asWorld
  rw [World.cell?_alloc_past _ _ _ (by simp [hs]; omega), World.cell?_alloc_past _ _ _ (by simp [hs]; omega), World.cell?_alloc_past _ _ _ (by simp [hs]; omega), World.cell?_alloc_past _ _ _ (by rw [hs]; exact h)]

theorem as_below {B : Nat} {u w : World} (tb : Nat) (q : Addr) (h : Below B u w) (ht : B ≤ tb) (hB : B ≤ w.heap.size) : Below B u (asWorld w tb q) := by
  have hs : (w.setCell ⟨tb, 0, none⟩ (.pointer (some q))).heap.size = w.heap.size := by simp [World.setCell]
  unfold asWorld
  exact ((((h.setCell (p := ⟨tb, 0, none⟩) ht _).alloc (by rw [hs]; exact hB) _).alloc (by simp [hs]; omega) _).alloc (by simp [hs]; omega) _).alloc (by simp [hs]; omega) _

theorem as_parts {wr w' : World} {g : Nat} {c : Obj}
    (h : w' = asWorld (((wr.alloc (.cells #[.pointer none] 34)).alloc (.cells #[.int .i64 3] 36)).alloc c) wr.heap.size ⟨wr.heap.size + 1, 0, none⟩) (hg : g < wr.heap.size) :
    w'.cell? ⟨wr.heap.size, 0, none⟩ = some (.pointer (some ⟨wr.heap.size + 1, 0, none⟩)) ∧ w'.cell? ⟨wr.heap.size + 1, 0, none⟩ = some (.int .i64 3) ∧ w'.heap[g]? = wr.heap[g]? ∧ Below wr.heap.size wr w' := by
  subst h
  have hb : Below wr.heap.size wr (((wr.alloc (.cells #[.pointer none] 34)).alloc (.cells #[.int .i64 3] 36)).alloc c) :=
    (((Below.refl _ _).alloc (Nat.le_refl _) _).alloc (by simp) _).alloc (by simp; omega) _
  have hb2 := as_below wr.heap.size ⟨wr.heap.size + 1, 0, none⟩ hb (Nat.le_refl _) hb.size
  refine ⟨?_, ?_, hb2.block g hg, hb2⟩
  · rw [asWorld_cell _ _ _ _ _ (by simp; omega)]
    have h0 : (((wr.alloc (.cells #[.pointer none] 34)).alloc (.cells #[.int .i64 3] 36)).alloc c).cell? ⟨wr.heap.size, 0, none⟩ = some (.pointer none) := by
      rw [World.cell?_alloc_past _ _ _ (by simp; omega), World.cell?_alloc_past _ _ _ (by simp)]; exact World.cell?_alloc_at _ _ _ _ rfl
    exact World.cell?_setCell_same _ _ _ h0
  · rw [asWorld_cell _ _ _ _ _ (by simp), World.cell?_setCell_other _ _ _ _ (by simp), World.cell?_alloc_past _ _ _ (by simp)]
    exact World.cell?_alloc_at _ _ _ _ (by simp)

theorem below_up (W : World) (ad : Nat → Addr) {wr w' : World} (h : Below (W.heap.size + 2) (wld W ad) wr) (k : Below wr.heap.size wr w') : Below W.heap.size W w' := by
  have hs := h.size
  rw [wld_size] at hs
  have h1 : Below W.heap.size W (wld W ad) := ((Below.refl _ _).alloc (Nat.le_refl _) _).alloc (by simp) _
  exact (h1.trans (h.mono (by omega))).trans (k.mono (by omega))

set_option maxHeartbeats 2000000 in
theorem names_any (W : World) (ad : Nat → Addr) (cs : Nat → Array Value) (ts : Nat → TypeId)
    (h0 : W.cell? ⟨0, 0, none⟩ = some (.iface 68 (.pointer (some (ad 0))))) (h1 : W.cell? ⟨1, 0, none⟩ = some (.iface 68 (.pointer (some (ad 1)))))
    (h2 : W.cell? ⟨2, 0, none⟩ = some (.iface 68 (.pointer (some (ad 2))))) (h3 : W.cell? ⟨3, 0, none⟩ = some (.iface 68 (.pointer (some (ad 3)))))
    (h4 : W.cell? ⟨4, 0, none⟩ = some (.iface 68 (.pointer (some (ad 4))))) (h5 : W.cell? ⟨5, 0, none⟩ = some (.iface 68 (.pointer (some (ad 5)))))
    (h6 : W.cell? ⟨6, 0, none⟩ = some (.iface 68 (.pointer (some (ad 6))))) (h7 : W.cell? ⟨7, 0, none⟩ = some (.iface 68 (.pointer (some (ad 7)))))
    (hE : W.cell? ⟨8, 0, none⟩ = some (.iface 54 (.agg #[.pointer (some ⟨9, 28, none⟩)])))
    (hb : ∀ k, k < 8 → W.heap[(ad k).block]? = some (.cells (cs k) (ts k) (0, 0))) (hne : ∀ i j, i < 8 → j < 8 → i ≠ j → ad i ≠ ad j) (hsz : 8 < W.heap.size) :
    Calls Tryd.prog 4 #[] W fun e w' => ∃ g cap, e = .returned (.tuple #[.slice (some ⟨W.heap.size, 0, none⟩) 5 5, .slice (some ⟨g, 0, none⟩) 128 cap, .int .i64 3]) ∧
      (∀ i, i < 128 → w'.cell? ⟨g, i, none⟩ = some (.bool (i / 16 == i % 16 / 2))) ∧ w'.heap[W.heap.size]? = some (.cells #[.int .i64 300, .int .i64 8, .int .i64 40, .int .i64 120, .int .i64 12] 3 (0, 0)) ∧ g < w'.heap.size ∧ Below W.heap.size W w' := by
  have z0 : 0 < W.heap.size := by omega
  have z1 : 1 < W.heap.size := by omega
  have z2 : 2 < W.heap.size := by omega
  have z3 : 3 < W.heap.size := by omega
  have z4 : 4 < W.heap.size := by omega
  have z5 : 5 < W.heap.size := by omega
  have z6 : 6 < W.heap.size := by omega
  have z7 : 7 < W.heap.size := by omega
  have HB := (show Hid (∀ k, k < 8 → W.heap[(ad k).block]? = some (.cells (cs k) (ts k) (0, 0))) from hb)
  have HN := (show Hid (∀ i j, i < 8 → j < 8 → i ≠ j → ad i ≠ ad j) from hne)
  clear hb hne
  go_enter Tryd.func4, Tryd.ntmps4
  go_wp2
  go_loopw [1, 23] (fun v i wr => ∃ k : Nat, k ≤ 8 ∧ i = .int .i64 k ∧ wr.ownsRow (W.heap.size + 2) 4 1 v (16 * k) (bl (16 * k)) ∧ Below (W.heap.size + 2) (wld W ad) wr) (fun _ i _ => 8 - (intOf i).toNat)
  case atStart => exact ⟨0, by omega, rfl, World.ownsRow_nil _ _ _ _, Below.refl _ _⟩
  case round =>
    obtain ⟨k, hk, rfl, hown, hbel⟩ := hrel
    have hws := hbel.size
    rw [wld_size] at hws
    by_cases hlt : k < 8
    · have hl : wr.cell? ⟨W.heap.size + 1, k, none⟩ = some (.iface 68 (.pointer (some (ad k)))) := (hbel.cell (by simp)).trans (wld_list W ad k hlt)
      have hdk : decide ((k : Int) < 8) = true := by simp; omega
      have hlb : ∀ i, i < 8 → (ad i).block < W.heap.size := fun i hi => lt_of_block (HB.out i hi)
      go_wp2
      obtain ⟨pb, hpb⟩ : ∃ pb, pb = wr.heap.size := ⟨_, rfl⟩
      rw [← hpb]
      have hpe : (wr.alloc (Obj.cells #[Value.string { data := #[120] }, Value.iface 68 (Value.pointer (some (ad k)))] 32)).heap[pb]? = some (.cells #[Value.string { data := #[120] }, Value.iface 68 (Value.pointer (some (ad k)))] 32 (0, 0)) := by
        rw [hpb]; exact heap_alloc_new _ _
      have hpl : W.heap.size + 2 ≤ pb := by omega
      have hbel1 := hbel.alloc (by omega) (Obj.cells #[Value.string { data := #[120] }, Value.iface 68 (Value.pointer (some (ad k)))] 32)
      have hown1 := hown.alloc (Obj.cells #[Value.string { data := #[120] }, Value.iface 68 (Value.pointer (some (ad k)))] 32)
      clear hl hpb hown hbel hws
      go_loopw [1, 33] (fun v i wi => ∃ j : Nat, j ≤ 8 ∧ i = .int .i64 j ∧ wi.ownsRow (W.heap.size + 2) 4 1 v (16 * k + 2 * j) (bl (16 * k + 2 * j)) ∧
          wi.heap[pb]? = some (.cells #[Value.string { data := #[120] }, Value.iface 68 (Value.pointer (some (ad k)))] 32 (0, 0)) ∧ Below (W.heap.size + 2) (wld W ad) wi) (fun _ i _ => 8 - (intOf i).toNat)
      case atStart => exact ⟨0, by omega, rfl, hown1, hpe, hbel1⟩
      case round =>
        clear hown1 hpe hbel1
        obtain ⟨j, hj, rfl, hown, hpe, hbel⟩ := hrel
        have hws := hbel.size
        rw [wld_size] at hws
        by_cases hjl : j < 8
        · have hl : wr.cell? ⟨W.heap.size + 1, j, none⟩ = some (.iface 68 (.pointer (some (ad j)))) := (hbel.cell (by simp)).trans (wld_list W ad j hjl)
          have hwhy : wr.cell? ⟨pb, 0 + 1, none⟩ = some (Value.iface 68 (Value.pointer (some (ad k)))) := by simp [World.cell?, hpe]
          have hbk : wr.heap[(ad k).block]? = some (.cells (cs k) (ts k) (0, 0)) := by rw [hbel.block _ (by have := hlb k hlt; omega), wld_old _ _ _ (hlb k hlt)]; exact HB.out k hlt
          have hbj : wr.heap[(ad j).block]? = some (.cells (cs j) (ts j) (0, 0)) := by rw [hbel.block _ (by have := hlb j hjl; omega), wld_old _ _ _ (hlb j hjl)]; exact HB.out j hjl
          have H1 := (show Hid (wr.cell? ⟨pb, 0 + 1, none⟩ = some (Value.iface 68 (Value.pointer (some (ad k))))) from hwhy)
          have H2 := (show Hid (wr.heap[(ad k).block]? = some (.cells (cs k) (ts k) (0, 0))) from hbk)
          have H3 := (show Hid (wr.heap[(ad j).block]? = some (.cells (cs j) (ts j) (0, 0))) from hbj)
          have H4 := (show Hid (wr.heap[pb]? = some (.cells #[Value.string { data := #[120] }, Value.iface 68 (Value.pointer (some (ad k)))] 32 (0, 0))) from hpe)
          clear hwhy hbk hbj hpe
          obtain ⟨i0, hi, hz0, hz1, hz2⟩ := info_parts info_bool
          by_cases hkj : k = j
          · subst hkj
            have hbool : (k == k) = true := by simp
            have HBo := (show Hid ((k == k) = true) from hbool)
            clear hbool
            go_wp2_with fail
            refine (is_same (ad k) _).mono ?_
            rintro e w' ⟨rfl, rfl⟩
            go_wp2_with fail
            refine (is_env_same pb 0 (ad k) _ H1.out).mono ?_
            rintro e w' ⟨rfl, rfl⟩
            go_wp2_with (at_builtin; refine wpList_append_own _ rfl (.tmp 37) (.tmp 44) 23 rfl (W.heap.size + 2) 4 i0 (.bool false) 1 1 Tryd.underlying23 hi hz0 hz1 hz2 rfl (by decide) _ _ _ rfl (hown.alloc _) _ 2 2 [.bool true, .bool true] rfl rfl (two_new _ _ _ _) (two_bools _ _) ?c3true ?c4true ?c5true ?_)
            case c3true => unfold maxLen; omega
            case c4true => omega
            case c5true => simp; omega
            intro v' w1 hown' hgrow _
            have R := inner_step hjl hown H4.out hbel (by omega) (by rw [HBo.out]; exact hown') hgrow
            clear hown' hgrow hown hbel
            go_wp2
            go_roundw
            case rel => first | exact ⟨k + 1, by omega, by go_num, R.1, R.2.1, R.2.2⟩ | ((repeat apply Exists.intro); exact ⟨⟨k + 1, by omega, by go_num, R.1, R.2.1, R.2.2⟩, rfl⟩)
            case measure => simp [intOf]; omega
          · have hbool : (k == j) = false := by simpa using hkj
            have HBo := (show Hid ((k == j) = false) from hbool)
            clear hbool
            go_wp2_with fail
            refine (is_other (ad k) (ad j) _ _ _ _ _ (HN.out k j hlt hjl hkj) H2.out H3.out).mono ?_
            rintro e w' ⟨rfl, rfl⟩
            go_wp2_with fail
            refine (is_env_other pb 0 (ad j) (ad k) _ _ _ _ _ H1.out (HN.out k j hlt hjl hkj) H2.out H3.out).mono ?_
            rintro e w' ⟨rfl, rfl⟩
            go_wp2_with (at_builtin; refine wpList_append_own _ rfl (.tmp 37) (.tmp 44) 23 rfl (W.heap.size + 2) 4 i0 (.bool false) 1 1 Tryd.underlying23 hi hz0 hz1 hz2 rfl (by decide) _ _ _ rfl (hown.alloc _) _ 2 2 [.bool false, .bool false] rfl rfl (two_new _ _ _ _) (two_bools _ _) ?c3false ?c4false ?c5false ?_)
            case c3false => unfold maxLen; omega
            case c4false => omega
            case c5false => simp; omega
            intro v' w1 hown' hgrow _
            have R := inner_step hjl hown H4.out hbel (by omega) (by rw [HBo.out]; exact hown') hgrow
            clear hown' hgrow hown hbel
            go_wp2
            go_roundw
            case rel => first | exact ⟨j + 1, by omega, by go_num, R.1, R.2.1, R.2.2⟩ | ((repeat apply Exists.intro); exact ⟨⟨j + 1, by omega, by go_num, R.1, R.2.1, R.2.2⟩, rfl⟩)
            case measure => simp [intOf]; omega
        · have hj8 : j = 8 := by omega
          subst hj8
          go_wp2
          go_roundw
          case rel => exact ⟨k + 1, by omega, by go_num, hown, hbel⟩
          case measure => simp [intOf]; omega
    · have hk8 : k = 8 := by omega
      subst hk8
      obtain ⟨g, cap, cur, rfl, hg, hcur, hcells⟩ := own_open hown
      have hgl := lt_of_block hcur
      have HC := (show Hid (∀ i, i < 128 → cur[i]? = some (Value.bool (i / 16 == i % 16 / 2))) from hcells)
      have HG := (show Hid (wr.heap[g]? = some (.cells cur 4 (0, 0))) from hcur)
      have HE : wr.cell? ⟨8, 0, none⟩ = some (.iface 54 (.agg #[.pointer (some ⟨9, 28, none⟩)])) := by
        rw [hbel.cell (by show 8 < _; omega), World.cell?_of_block (w := W) (wld_old W ad _ hsz)]; exact hE
      clear hcells hcur hown
      go_wp2_with fail
      refine (as_env_syntax (wr.heap.size + 1 + 1) 0 wr.heap.size ⟨wr.heap.size + 1, 0, none⟩ (.pointer none) _ ?_ ?_ ?_ ?_ ?_ ?_ ?_).mono ?_
      · exact World.cell?_alloc_at _ _ _ _ (by simp)
      · simp
      · rw [World.cell?_alloc_past _ _ _ (by simp; omega), World.cell?_alloc_past _ _ _ (by simp)]; exact World.cell?_alloc_at _ _ _ _ rfl
      · rw [World.frozen?_alloc_past _ _ _ (by simp; omega), World.frozen?_alloc_past _ _ _ (by simp)]; exact World.frozen?_alloc_at _ _ _ _ rfl
      · simp; omega
      · rw [World.cell?_alloc_past _ _ _ (by simp; omega), World.cell?_alloc_past _ _ _ (by simp; omega), World.cell?_alloc_past _ _ _ (by omega)]; exact HE
      · simp; omega
      rintro e w' ⟨rfl, hw'⟩
      obtain ⟨k1, k2, k3, k4⟩ := as_parts hw' hgl
      have K3 := (show Hid (w'.heap[g]? = wr.heap[g]?) from k3)
      clear k3 hw'
      go_wp2
      go_ret3
      refine ⟨g, cap, rfl, ?_, ?_, ?_, ?_⟩
      · intro i hi
        have e1 : w'.cell? ⟨g, i, none⟩ = wr.cell? ⟨g, i, none⟩ := World.cell?_of_block (a := ⟨g, i, none⟩) K3.out
        rw [e1]
        have e2 := HC.out i hi
        have e3 := HG.out
        simp [World.cell?, e3, e2]
      · rw [k4.block _ (by omega), hbel.block _ (by omega)]
        exact wld_bnd W ad
      · have := k4.size
        omega
      · exact below_up W ad hbel k4
end Go.Proofs.YtcdijppegfcoaaaDoor
