import Derived.Test.YtcdijppegfcoaabGreatDoorZK05
set_option maxRecDepth 100000
set_option maxHeartbeats 1000000
namespace Go.Proofs.YtcdijppegfcoaabGreatDoor
open Go.RowKit
theorem lk_Basic_List (b : Nat) (w : World) : (Instr.typeAssert (.iface 275 (.pointer (some ⟨b,0,none⟩))) 77 279 true).run Tryz.prog w = .ok (.tuple #[.pointer none,.bool false]) w := by kernel_rfl
theorem lk_Basic_Pair (b : Nat) (w : World) : (Instr.typeAssert (.iface 275 (.pointer (some ⟨b,0,none⟩))) 77 291 true).run Tryz.prog w = .ok (.tuple #[.pointer none,.bool false]) w := by kernel_rfl
theorem lk_Basic_Arrow (b : Nat) (w : World) : (Instr.typeAssert (.iface 275 (.pointer (some ⟨b,0,none⟩))) 77 209 true).run Tryz.prog w = .ok (.tuple #[.pointer none,.bool false]) w := by kernel_rfl
theorem lk_List_List (b : Nat) (w : World) : (Instr.typeAssert (.iface 279 (.pointer (some ⟨b,0,none⟩))) 77 279 true).run Tryz.prog w = .ok (.tuple #[.pointer (some ⟨b,0,none⟩),.bool true]) w := by kernel_rfl
theorem lk_Pair_List (b : Nat) (w : World) : (Instr.typeAssert (.iface 291 (.pointer (some ⟨b,0,none⟩))) 77 279 true).run Tryz.prog w = .ok (.tuple #[.pointer none,.bool false]) w := by kernel_rfl
theorem lk_Pair_Pair (b : Nat) (w : World) : (Instr.typeAssert (.iface 291 (.pointer (some ⟨b,0,none⟩))) 77 291 true).run Tryz.prog w = .ok (.tuple #[.pointer (some ⟨b,0,none⟩),.bool true]) w := by kernel_rfl
theorem lk_Arrow_List (b : Nat) (w : World) : (Instr.typeAssert (.iface 209 (.pointer (some ⟨b,0,none⟩))) 77 279 true).run Tryz.prog w = .ok (.tuple #[.pointer none,.bool false]) w := by kernel_rfl
theorem lk_Arrow_Pair (b : Nat) (w : World) : (Instr.typeAssert (.iface 209 (.pointer (some ⟨b,0,none⟩))) 77 291 true).run Tryz.prog w = .ok (.tuple #[.pointer none,.bool false]) w := by kernel_rfl
theorem lk_Arrow_Arrow (b : Nat) (w : World) : (Instr.typeAssert (.iface 209 (.pointer (some ⟨b,0,none⟩))) 77 209 true).run Tryz.prog w = .ok (.tuple #[.pointer (some ⟨b,0,none⟩),.bool true]) w := by kernel_rfl
theorem like_basic (b : Nat) (v : Value) (w : World) : Calls Tryz.prog 151 #[.iface 275 (.pointer (some ⟨b,0,none⟩)),v] w fun e w' => e = .returned (.iface 275 (.pointer (some ⟨b,0,none⟩))) ∧ w' = w := by
  have a1 := lk_Basic_List b
  have a2 := lk_Basic_Pair b
  have a3 := lk_Basic_Arrow b
  go_enter Tryz.func151,Tryz.ntmps151
  go_wp2
  go_ret
  exact ⟨rfl,rfl⟩
theorem like_list (b gn cp t1 b1 : Nat) (w : World) (h : w.cell? ⟨gn,0,none⟩ = some (.iface t1 (.pointer (some ⟨b1,0,none⟩)))) : Calls Tryz.prog 151 #[.iface 279 (.pointer (some ⟨b,0,none⟩)),.slice (some ⟨gn,0,none⟩) 1 cp] w fun e w' => w.grownBy w' none ∧ ∃ p,e = .returned (.iface 279 (.pointer (some ⟨p,0,none⟩))) ∧ w.heap.size ≤ p ∧ w'.heap[p]? = some (.cells #[(.iface t1 (.pointer (some ⟨b1,0,none⟩)))] 281 (0,0)) := by
  have a1 := lk_List_List b
  go_enter Tryz.func151,Tryz.ntmps151
  go_wp2
  go_ret
  exact ⟨World.grownBy_alloc _ _ _,_,rfl,Nat.le_refl _,heap_alloc_new _ _⟩
theorem like_pair (b gn cp t1 b1 t2 b2 : Nat) (w : World) (h : w.cell? ⟨gn,0,none⟩ = some (.iface t1 (.pointer (some ⟨b1,0,none⟩)))) (h2 : w.cell? ⟨gn,1,none⟩ = some (.iface t2 (.pointer (some ⟨b2,0,none⟩)))) : Calls Tryz.prog 151 #[.iface 291 (.pointer (some ⟨b,0,none⟩)),.slice (some ⟨gn,0,none⟩) 2 cp] w fun e w' => w.grownBy w' none ∧ ∃ p,e = .returned (.iface 291 (.pointer (some ⟨p,0,none⟩))) ∧ w.heap.size ≤ p ∧ w'.heap[p]? = some (.cells #[(.iface t1 (.pointer (some ⟨b1,0,none⟩))),(.iface t2 (.pointer (some ⟨b2,0,none⟩)))] 319 (0,0)) := by
  have a1 := lk_Pair_List b
  have a2 := lk_Pair_Pair b
  go_enter Tryz.func151,Tryz.ntmps151
  go_wp2_with fail
  (try go_region)
  go_wp2
  go_ret
  exact ⟨grown_drew (World.grownBy_alloc _ _ _),_,rfl,Nat.le_refl _,heap_alloc_at _ _ _ rfl⟩
theorem like_arrow (b gn cp t1 b1 t2 b2 : Nat) (w : World) (h : w.cell? ⟨gn,0,none⟩ = some (.iface t1 (.pointer (some ⟨b1,0,none⟩)))) (h2 : w.cell? ⟨gn,1,none⟩ = some (.iface t2 (.pointer (some ⟨b2,0,none⟩)))) : Calls Tryz.prog 151 #[.iface 209 (.pointer (some ⟨b,0,none⟩)),.slice (some ⟨gn,0,none⟩) 2 cp] w fun e w' => w.grownBy w' none ∧ ∃ p,e = .returned (.iface 209 (.pointer (some ⟨p,0,none⟩))) ∧ w.heap.size ≤ p ∧ w'.heap[p]? = some (.cells #[(.iface t1 (.pointer (some ⟨b1,0,none⟩))),(.iface t2 (.pointer (some ⟨b2,0,none⟩)))] 211 (0,0)) := by
  have a1 := lk_Arrow_List b
  have a2 := lk_Arrow_Pair b
  have a3 := lk_Arrow_Arrow b
  go_enter Tryz.func151,Tryz.ntmps151
  go_wp2_with fail
  (try go_region)
  go_wp2
  go_ret
  exact ⟨grown_drew (World.grownBy_alloc _ _ _),_,rfl,Nat.le_refl _,heap_alloc_at _ _ _ rfl⟩
end Go.Proofs.YtcdijppegfcoaabGreatDoor
