/-
  OUR OWN TEXT. The program's expr.above.
-/
import Derived.Test.YtcdijppegfcoaabGreatDoorPTree
namespace Go.Proofs.YtcdijppegfcoaabGreatDoor
open Go.RowKit

theorem mDepthName (b : Nat) (w : World) : (Go.method 502 157 (.pointer (some ⟨b, 0, none⟩)) "Depth").run Tryz.prog w = (do let v ← loadVar 161 ⟨b, 0, none⟩; pure (241, v) : Sem (FuncId × Value)).run Tryz.prog w := by kernel_rfl
theorem mDepthNumber (b : Nat) (w : World) : (Go.method 502 175 (.pointer (some ⟨b, 0, none⟩)) "Depth").run Tryz.prog w = (do let v ← loadVar 161 ⟨b, 0, none⟩; pure (241, v) : Sem (FuncId × Value)).run Tryz.prog w := by kernel_rfl
theorem mDepthFun (b : Nat) (w : World) : (Go.method 502 178 (.pointer (some ⟨b, 0, none⟩)) "Depth").run Tryz.prog w = (do let v ← loadVar 161 ⟨b, 0, none⟩; pure (241, v) : Sem (FuncId × Value)).run Tryz.prog w := by kernel_rfl
theorem mDepthIf (b : Nat) (w : World) : (Go.method 502 181 (.pointer (some ⟨b, 0, none⟩)) "Depth").run Tryz.prog w = (do let v ← loadVar 161 ⟨b, 0, none⟩; pure (241, v) : Sem (FuncId × Value)).run Tryz.prog w := by kernel_rfl
theorem mDepthLet (b : Nat) (w : World) : (Go.method 502 184 (.pointer (some ⟨b, 0, none⟩)) "Depth").run Tryz.prog w = (do let v ← loadVar 161 ⟨b, 0, none⟩; pure (241, v) : Sem (FuncId × Value)).run Tryz.prog w := by kernel_rfl
theorem mDepthLetRec (b : Nat) (w : World) : (Go.method 502 190 (.pointer (some ⟨b, 0, none⟩)) "Depth").run Tryz.prog w = (do let v ← loadVar 161 ⟨b, 0, none⟩; pure (241, v) : Sem (FuncId × Value)).run Tryz.prog w := by kernel_rfl
theorem mDepthApply (b : Nat) (w : World) : (Go.method 502 195 (.pointer (some ⟨b, 0, none⟩)) "Depth").run Tryz.prog w = (do let v ← loadVar 161 ⟨b, 0, none⟩; pure (241, v) : Sem (FuncId × Value)).run Tryz.prog w := by kernel_rfl
theorem mDepthPair (b : Nat) (w : World) : (Go.method 502 198 (.pointer (some ⟨b, 0, none⟩)) "Depth").run Tryz.prog w = (do let v ← loadVar 161 ⟨b, 0, none⟩; pure (241, v) : Sem (FuncId × Value)).run Tryz.prog w := by kernel_rfl
theorem grown_set {w wi : World} {o : Obj} (hg : (w.alloc o).grownBy wi none) (v : Value) : w.grownBy (wi.setCell ⟨w.heap.size, 0, none⟩ v) none :=
  ⟨hg.os, hg.tape, hg.output, by have := hg.size; simp [World.setCell] at this ⊢; omega, fun k hk _ => by
    rw [Below.heap_setCell _ _ _ _ (by show k ≠ w.heap.size; omega), hg.block k (by simp; omega) (by simp), Below.heap_alloc _ _ _ hk]⟩
theorem load_part (b : Nat) (d : Nat) (w : World) (h : w.cell? ⟨b, 0, none⟩ = some (.int .i64 (d : Int))) : (loadVar 161 ⟨b, 0, none⟩).run Tryz.prog w = .ok (.agg #[.int .i64 (d : Int)]) w := by
  simp [go_sem, h]
theorem bind_part (b : Nat) (d : Nat) (w : World) (h : w.cell? ⟨b, 0, none⟩ = some (.int .i64 (d : Int))) : (do let v ← loadVar 161 ⟨b, 0, none⟩; pure (241, v) : Sem (FuncId × Value)).run Tryz.prog w = .ok (241, .agg #[.int .i64 (d : Int)]) w := by
  simp [go_sem, h]
theorem mDepth_any {t : TypeId} (ht : IsTy t) (b d : Nat) (w : World) (h : w.cell? ⟨b, 0, none⟩ = some (.int .i64 (d : Int))) : (Go.method 502 t (.pointer (some ⟨b, 0, none⟩)) "Depth").run Tryz.prog w = .ok (241, .agg #[.int .i64 (d : Int)]) w := by
  rcases ht with rfl | rfl | rfl | rfl | rfl | rfl | rfl | rfl
  · rw [mDepthName]; exact bind_part b d w h
  · rw [mDepthNumber]; exact bind_part b d w h
  · rw [mDepthFun]; exact bind_part b d w h
  · rw [mDepthIf]; exact bind_part b d w h
  · rw [mDepthLet]; exact bind_part b d w h
  · rw [mDepthLetRec]; exact bind_part b d w h
  · rw [mDepthApply]; exact bind_part b d w h
  · rw [mDepthPair]; exact bind_part b d w h

set_option maxRecDepth 100000 in
theorem depth_p (d : Nat) (w : World) : Calls Tryz.prog 241 #[.agg #[.int .i64 (d : Int)]] w fun e w' => e = .returned (.int .i64 (d : Int)) ∧ w' = w.alloc (.cells #[.int .i64 (d : Int)] 161) := by
  go_enter Tryz.func241, Tryz.ntmps241
  go_wp2
  go_ret
  exact ⟨rfl, rfl⟩

set_option maxRecDepth 100000 in
set_option maxHeartbeats 2000000 in
theorem above_p (w : World) (ao : Option Addr) (cap : Nat) (us : List Value) (ds : List Nat) (hl : ds.length = us.length) (hn : us.length ≤ 1000) (hrow : ∀ (i : Nat) (u : Value), us[i]? = some u → ∃ g, ao = some ⟨g, 0, none⟩ ∧ g < w.heap.size ∧ w.cell? ⟨g, i, none⟩ = some u) (hd : ∀ (i : Nat) (u : Value) (d : Nat), us[i]? = some u → ds[i]? = some d → DAt w u d) (hb : maxl ds ≤ 1000) :
    Calls Tryz.prog 143 #[.slice ao us.length cap] w fun e w' => e = .returned (.agg #[.int .i64 ((maxl ds + 1 : Nat) : Int)]) ∧ w.grownBy w' none := by
  go_enter Tryz.func143, Tryz.ntmps143
  go_wp2_with fail
  go_loopg [3, 8] (us.length + 1) (fun q m i wi => ∃ j : Nat, j ≤ us.length ∧ i = .int .i64 j ∧ q = us.length - j + 1 ∧ m = .int .i64 ((maxl (ds.take j) : Nat) : Int) ∧ (w.alloc (.cells #[.int .i64 0] 161)).grownBy wi none)
  case atStart => exact ⟨0, by omega, rfl, by omega, rfl, World.grownBy.refl _ _⟩
  case round =>
    obtain ⟨j, hj, rfl, hq, rfl, hgr⟩ := hrel
    by_cases hlt : j < us.length
    · obtain ⟨u, hu⟩ : ∃ u, us[j]? = some u := ⟨us[j], List.getElem?_eq_getElem _⟩
      obtain ⟨d, hdd⟩ : ∃ d, ds[j]? = some d := ⟨ds[j]'(by omega), List.getElem?_eq_getElem _⟩
      have hgr2 := (World.grownBy_alloc w (.cells #[.int .i64 0] 161) none).trans hgr
      obtain ⟨g, rfl, hg, hc⟩ := hrow j u hu
      rw [← World.cell?_of_block (a := ⟨g, j, none⟩) (hgr2.block g hg (by simp))] at hc
      obtain ⟨t, b, ht, rfl, hbl, hbc⟩ := (hd j u d hu hdd).grown hgr2
      have hts : maxl (ds.take (j + 1)) = max (maxl (ds.take j)) d := by
        rw [List.take_add_one, hdd]
        exact maxl_snoc _ _
      have htk := maxl_take ds (j + 1)
      have hmm : ((max (maxl (ds.take j)) d : Nat) : Int) = max ((maxl (ds.take j) : Nat) : Int) (d : Int) := by omega
      have hj2 : (j : Int) < (us.length : Int) := by omega
      have HG := hid hgr
      have HT := hid hts
      have HM := hid hmm
      clear hgr hgr2 hrow hd hts hmm
      have hme := mDepth_any ht b d _ hbc
      go_wp2_with (go_at_call 241; refine (depth_p d _).mono ?_; rintro e w' ⟨rfl, rfl⟩)
      all_goals
        go_roundg (us.length - (j + 1) + 1)
        case measure => omega
        case rel => exact ⟨j + 1, by omega, by go_num, rfl, by rw [HT.out]; congr 1; omega, HG.out.trans (World.grownBy_alloc _ _ _)⟩
    · have hj3 : j = us.length := by omega
      subst hj3
      rw [List.take_of_length_le (by omega)] at *
      have HG := hid hgr
      have hle : ((maxl ds : Nat) : Int) ≤ 1000 := by omega
      rename World => wi
      have e0 : wi.heap[w.heap.size]? = some (.cells #[.int .i64 0] 161 (0, 0)) := by
        rw [hgr.block w.heap.size (by simp) (by simp)]
        exact heap_alloc_new _ _
      have l0 := lt_of_block e0
      have c0 : wi.cell? ⟨w.heap.size, 0, none⟩ = some (.int .i64 0) := by simp [World.cell?, e0]
      have f0 : wi.frozen? ⟨w.heap.size, 0, none⟩ = false := by simp [World.frozen?, e0]
      clear hgr hrow hd
      go_wp2
      refine bodyPost_ret (v := .agg #[.int .i64 ((maxl ds + 1 : Nat) : Int)]) (by simp [results, Tryz.results143, go_sem, c0]) rfl ?_
      exact ⟨rfl, grown_set HG.out _⟩

theorem above_0 (w : World) : Calls Tryz.prog 143 #[.slice none 0 0] w fun e w' => e = .returned (.agg #[.int .i64 1]) ∧ w.grownBy w' none :=
  above_p w none 0 [] [] rfl (by simp) (fun i u h => by simp at h) (fun i u d h => by simp at h) (by simp [maxl])
end Go.Proofs.YtcdijppegfcoaabGreatDoor
