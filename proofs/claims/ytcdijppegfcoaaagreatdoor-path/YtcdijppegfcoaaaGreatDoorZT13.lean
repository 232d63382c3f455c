import Derived.Test.YtcdijppegfcoaaaGreatDoorZT12
/-
  OUR OWN TEXT. The program's types: like; strconv.Itoa of small numbers.
-/
namespace Go.Proofs.YtcdijppegfcoaaaGreatDoor
open Go.RowKit
theorem lk_Basic_List (b : Nat) (w : World) : (Instr.typeAssert (.iface 346 (.pointer (some ⟨b, 0, none⟩))) 156 349 true).run Tryz.prog w = .ok (.tuple #[.pointer none, .bool false]) w := by kernel_rfl
theorem lk_Basic_Pair (b : Nat) (w : World) : (Instr.typeAssert (.iface 346 (.pointer (some ⟨b, 0, none⟩))) 156 361 true).run Tryz.prog w = .ok (.tuple #[.pointer none, .bool false]) w := by kernel_rfl
theorem lk_Basic_Arrow (b : Nat) (w : World) : (Instr.typeAssert (.iface 346 (.pointer (some ⟨b, 0, none⟩))) 156 291 true).run Tryz.prog w = .ok (.tuple #[.pointer none, .bool false]) w := by kernel_rfl
theorem lk_List_List (b : Nat) (w : World) : (Instr.typeAssert (.iface 349 (.pointer (some ⟨b, 0, none⟩))) 156 349 true).run Tryz.prog w = .ok (.tuple #[.pointer (some ⟨b, 0, none⟩), .bool true]) w := by kernel_rfl
theorem lk_Pair_List (b : Nat) (w : World) : (Instr.typeAssert (.iface 361 (.pointer (some ⟨b, 0, none⟩))) 156 349 true).run Tryz.prog w = .ok (.tuple #[.pointer none, .bool false]) w := by kernel_rfl
theorem lk_Pair_Pair (b : Nat) (w : World) : (Instr.typeAssert (.iface 361 (.pointer (some ⟨b, 0, none⟩))) 156 361 true).run Tryz.prog w = .ok (.tuple #[.pointer (some ⟨b, 0, none⟩), .bool true]) w := by kernel_rfl
theorem lk_Arrow_List (b : Nat) (w : World) : (Instr.typeAssert (.iface 291 (.pointer (some ⟨b, 0, none⟩))) 156 349 true).run Tryz.prog w = .ok (.tuple #[.pointer none, .bool false]) w := by kernel_rfl
theorem lk_Arrow_Pair (b : Nat) (w : World) : (Instr.typeAssert (.iface 291 (.pointer (some ⟨b, 0, none⟩))) 156 361 true).run Tryz.prog w = .ok (.tuple #[.pointer none, .bool false]) w := by kernel_rfl
theorem lk_Arrow_Arrow (b : Nat) (w : World) : (Instr.typeAssert (.iface 291 (.pointer (some ⟨b, 0, none⟩))) 156 291 true).run Tryz.prog w = .ok (.tuple #[.pointer (some ⟨b, 0, none⟩), .bool true]) w := by kernel_rfl

set_option maxRecDepth 100000 in
theorem like_basic (b : Nat) (v : Value) (w : World) : Calls Tryz.prog 202 #[.iface 346 (.pointer (some ⟨b, 0, none⟩)), v] w fun e w' => e = .returned (.iface 346 (.pointer (some ⟨b, 0, none⟩))) ∧ w' = w := by
  have a1 := lk_Basic_List b
  have a2 := lk_Basic_Pair b
  have a3 := lk_Basic_Arrow b
  go_enter Tryz.func202, Tryz.ntmps202
  go_wp2
  go_ret
  exact ⟨rfl, rfl⟩
set_option maxRecDepth 100000 in
set_option maxHeartbeats 1000000 in
theorem like_list (b gn cp t1 b1 : Nat) (w : World) (h : w.cell? ⟨gn, 0, none⟩ = some (.iface t1 (.pointer (some ⟨b1, 0, none⟩)))) : Calls Tryz.prog 202 #[.iface 349 (.pointer (some ⟨b, 0, none⟩)), .slice (some ⟨gn, 0, none⟩) 1 cp] w fun e w' => w.grownBy w' none ∧ ∃ p, e = .returned (.iface 349 (.pointer (some ⟨p, 0, none⟩))) ∧ w.heap.size ≤ p ∧ w'.heap[p]? = some (.cells #[(.iface t1 (.pointer (some ⟨b1, 0, none⟩)))] 351 (0, 0)) := by
  have a1 := lk_List_List b
  go_enter Tryz.func202, Tryz.ntmps202
  go_wp2
  go_ret
  exact ⟨World.grownBy_alloc _ _ _, _, rfl, Nat.le_refl _, heap_alloc_new _ _⟩
set_option maxRecDepth 100000 in
set_option maxHeartbeats 1000000 in
theorem like_pair (b gn cp t1 b1 t2 b2 : Nat) (w : World) (h : w.cell? ⟨gn, 0, none⟩ = some (.iface t1 (.pointer (some ⟨b1, 0, none⟩)))) (h2 : w.cell? ⟨gn, 1, none⟩ = some (.iface t2 (.pointer (some ⟨b2, 0, none⟩)))) : Calls Tryz.prog 202 #[.iface 361 (.pointer (some ⟨b, 0, none⟩)), .slice (some ⟨gn, 0, none⟩) 2 cp] w fun e w' => w.grownBy w' none ∧ ∃ p, e = .returned (.iface 361 (.pointer (some ⟨p, 0, none⟩))) ∧ w.heap.size ≤ p ∧ w'.heap[p]? = some (.cells #[(.iface t1 (.pointer (some ⟨b1, 0, none⟩))), (.iface t2 (.pointer (some ⟨b2, 0, none⟩)))] 384 (0, 0)) := by
  have a1 := lk_Pair_List b
  have a2 := lk_Pair_Pair b
  go_enter Tryz.func202, Tryz.ntmps202
  go_wp2_with fail
  (try go_region)
  go_wp2
  go_ret
  exact ⟨grown_drew (World.grownBy_alloc _ _ _), _, rfl, Nat.le_refl _, heap_alloc_at _ _ _ rfl⟩
set_option maxRecDepth 100000 in
set_option maxHeartbeats 1000000 in
theorem like_arrow (b gn cp t1 b1 t2 b2 : Nat) (w : World) (h : w.cell? ⟨gn, 0, none⟩ = some (.iface t1 (.pointer (some ⟨b1, 0, none⟩)))) (h2 : w.cell? ⟨gn, 1, none⟩ = some (.iface t2 (.pointer (some ⟨b2, 0, none⟩)))) : Calls Tryz.prog 202 #[.iface 291 (.pointer (some ⟨b, 0, none⟩)), .slice (some ⟨gn, 0, none⟩) 2 cp] w fun e w' => w.grownBy w' none ∧ ∃ p, e = .returned (.iface 291 (.pointer (some ⟨p, 0, none⟩))) ∧ w.heap.size ≤ p ∧ w'.heap[p]? = some (.cells #[(.iface t1 (.pointer (some ⟨b1, 0, none⟩))), (.iface t2 (.pointer (some ⟨b2, 0, none⟩)))] 293 (0, 0)) := by
  have a1 := lk_Arrow_List b
  have a2 := lk_Arrow_Pair b
  have a3 := lk_Arrow_Arrow b
  go_enter Tryz.func202, Tryz.ntmps202
  go_wp2_with fail
  (try go_region)
  go_wp2
  go_ret
  exact ⟨grown_drew (World.grownBy_alloc _ _ _), _, rfl, Nat.le_refl _, heap_alloc_at _ _ _ rfl⟩

/-- The figures of a number below 100. -/
def dec2 (n : Nat) : List UInt8 := if n < 10 then [UInt8.ofNat (48 + n)] else [UInt8.ofNat (48 + n / 10), UInt8.ofNat (48 + n % 10)]
set_option maxRecDepth 100000 in
theorem ito_0 (w : World) : Calls Tryz.prog 188 #[.int .i64 0] w fun e w' => e = .returned (.string (B (dec2 0))) ∧ w' = w := by go_enter Tryz.func188, Tryz.ntmps188; go_wp2; go_ret; exact ⟨rfl, rfl⟩
set_option maxRecDepth 100000 in
theorem ito_1 (w : World) : Calls Tryz.prog 188 #[.int .i64 1] w fun e w' => e = .returned (.string (B (dec2 1))) ∧ w' = w := by go_enter Tryz.func188, Tryz.ntmps188; go_wp2; go_ret; exact ⟨rfl, rfl⟩
set_option maxRecDepth 100000 in
theorem ito_2 (w : World) : Calls Tryz.prog 188 #[.int .i64 2] w fun e w' => e = .returned (.string (B (dec2 2))) ∧ w' = w := by go_enter Tryz.func188, Tryz.ntmps188; go_wp2; go_ret; exact ⟨rfl, rfl⟩
set_option maxRecDepth 100000 in
theorem ito_3 (w : World) : Calls Tryz.prog 188 #[.int .i64 3] w fun e w' => e = .returned (.string (B (dec2 3))) ∧ w' = w := by go_enter Tryz.func188, Tryz.ntmps188; go_wp2; go_ret; exact ⟨rfl, rfl⟩
set_option maxRecDepth 100000 in
theorem ito_4 (w : World) : Calls Tryz.prog 188 #[.int .i64 4] w fun e w' => e = .returned (.string (B (dec2 4))) ∧ w' = w := by go_enter Tryz.func188, Tryz.ntmps188; go_wp2; go_ret; exact ⟨rfl, rfl⟩
set_option maxRecDepth 100000 in
theorem ito_5 (w : World) : Calls Tryz.prog 188 #[.int .i64 5] w fun e w' => e = .returned (.string (B (dec2 5))) ∧ w' = w := by go_enter Tryz.func188, Tryz.ntmps188; go_wp2; go_ret; exact ⟨rfl, rfl⟩
set_option maxRecDepth 100000 in
theorem ito_6 (w : World) : Calls Tryz.prog 188 #[.int .i64 6] w fun e w' => e = .returned (.string (B (dec2 6))) ∧ w' = w := by go_enter Tryz.func188, Tryz.ntmps188; go_wp2; go_ret; exact ⟨rfl, rfl⟩
set_option maxRecDepth 100000 in
theorem ito_7 (w : World) : Calls Tryz.prog 188 #[.int .i64 7] w fun e w' => e = .returned (.string (B (dec2 7))) ∧ w' = w := by go_enter Tryz.func188, Tryz.ntmps188; go_wp2; go_ret; exact ⟨rfl, rfl⟩
set_option maxRecDepth 100000 in
theorem ito_8 (w : World) : Calls Tryz.prog 188 #[.int .i64 8] w fun e w' => e = .returned (.string (B (dec2 8))) ∧ w' = w := by go_enter Tryz.func188, Tryz.ntmps188; go_wp2; go_ret; exact ⟨rfl, rfl⟩
set_option maxRecDepth 100000 in
theorem ito_9 (w : World) : Calls Tryz.prog 188 #[.int .i64 9] w fun e w' => e = .returned (.string (B (dec2 9))) ∧ w' = w := by go_enter Tryz.func188, Tryz.ntmps188; go_wp2; go_ret; exact ⟨rfl, rfl⟩
set_option maxRecDepth 100000 in
theorem ito_10 (w : World) : Calls Tryz.prog 188 #[.int .i64 10] w fun e w' => e = .returned (.string (B (dec2 10))) ∧ w' = w := by go_enter Tryz.func188, Tryz.ntmps188; go_wp2; go_ret; exact ⟨rfl, rfl⟩
set_option maxRecDepth 100000 in
theorem ito_11 (w : World) : Calls Tryz.prog 188 #[.int .i64 11] w fun e w' => e = .returned (.string (B (dec2 11))) ∧ w' = w := by go_enter Tryz.func188, Tryz.ntmps188; go_wp2; go_ret; exact ⟨rfl, rfl⟩
set_option maxRecDepth 100000 in
theorem ito_12 (w : World) : Calls Tryz.prog 188 #[.int .i64 12] w fun e w' => e = .returned (.string (B (dec2 12))) ∧ w' = w := by go_enter Tryz.func188, Tryz.ntmps188; go_wp2; go_ret; exact ⟨rfl, rfl⟩
set_option maxRecDepth 100000 in
theorem ito_13 (w : World) : Calls Tryz.prog 188 #[.int .i64 13] w fun e w' => e = .returned (.string (B (dec2 13))) ∧ w' = w := by go_enter Tryz.func188, Tryz.ntmps188; go_wp2; go_ret; exact ⟨rfl, rfl⟩
set_option maxRecDepth 100000 in
theorem ito_14 (w : World) : Calls Tryz.prog 188 #[.int .i64 14] w fun e w' => e = .returned (.string (B (dec2 14))) ∧ w' = w := by go_enter Tryz.func188, Tryz.ntmps188; go_wp2; go_ret; exact ⟨rfl, rfl⟩
set_option maxRecDepth 100000 in
theorem ito_15 (w : World) : Calls Tryz.prog 188 #[.int .i64 15] w fun e w' => e = .returned (.string (B (dec2 15))) ∧ w' = w := by go_enter Tryz.func188, Tryz.ntmps188; go_wp2; go_ret; exact ⟨rfl, rfl⟩
set_option maxRecDepth 100000 in
theorem ito_16 (w : World) : Calls Tryz.prog 188 #[.int .i64 16] w fun e w' => e = .returned (.string (B (dec2 16))) ∧ w' = w := by go_enter Tryz.func188, Tryz.ntmps188; go_wp2; go_ret; exact ⟨rfl, rfl⟩
set_option maxRecDepth 100000 in
theorem ito_17 (w : World) : Calls Tryz.prog 188 #[.int .i64 17] w fun e w' => e = .returned (.string (B (dec2 17))) ∧ w' = w := by go_enter Tryz.func188, Tryz.ntmps188; go_wp2; go_ret; exact ⟨rfl, rfl⟩
set_option maxRecDepth 100000 in
theorem ito_18 (w : World) : Calls Tryz.prog 188 #[.int .i64 18] w fun e w' => e = .returned (.string (B (dec2 18))) ∧ w' = w := by go_enter Tryz.func188, Tryz.ntmps188; go_wp2; go_ret; exact ⟨rfl, rfl⟩
set_option maxRecDepth 100000 in
theorem ito_19 (w : World) : Calls Tryz.prog 188 #[.int .i64 19] w fun e w' => e = .returned (.string (B (dec2 19))) ∧ w' = w := by go_enter Tryz.func188, Tryz.ntmps188; go_wp2; go_ret; exact ⟨rfl, rfl⟩
set_option maxRecDepth 100000 in
theorem ito_20 (w : World) : Calls Tryz.prog 188 #[.int .i64 20] w fun e w' => e = .returned (.string (B (dec2 20))) ∧ w' = w := by go_enter Tryz.func188, Tryz.ntmps188; go_wp2; go_ret; exact ⟨rfl, rfl⟩
set_option maxRecDepth 100000 in
theorem ito_21 (w : World) : Calls Tryz.prog 188 #[.int .i64 21] w fun e w' => e = .returned (.string (B (dec2 21))) ∧ w' = w := by go_enter Tryz.func188, Tryz.ntmps188; go_wp2; go_ret; exact ⟨rfl, rfl⟩
set_option maxRecDepth 100000 in
theorem ito_22 (w : World) : Calls Tryz.prog 188 #[.int .i64 22] w fun e w' => e = .returned (.string (B (dec2 22))) ∧ w' = w := by go_enter Tryz.func188, Tryz.ntmps188; go_wp2; go_ret; exact ⟨rfl, rfl⟩
set_option maxRecDepth 100000 in
theorem ito_23 (w : World) : Calls Tryz.prog 188 #[.int .i64 23] w fun e w' => e = .returned (.string (B (dec2 23))) ∧ w' = w := by go_enter Tryz.func188, Tryz.ntmps188; go_wp2; go_ret; exact ⟨rfl, rfl⟩
set_option maxRecDepth 100000 in
theorem ito_24 (w : World) : Calls Tryz.prog 188 #[.int .i64 24] w fun e w' => e = .returned (.string (B (dec2 24))) ∧ w' = w := by go_enter Tryz.func188, Tryz.ntmps188; go_wp2; go_ret; exact ⟨rfl, rfl⟩
set_option maxRecDepth 100000 in
theorem ito_25 (w : World) : Calls Tryz.prog 188 #[.int .i64 25] w fun e w' => e = .returned (.string (B (dec2 25))) ∧ w' = w := by go_enter Tryz.func188, Tryz.ntmps188; go_wp2; go_ret; exact ⟨rfl, rfl⟩
set_option maxRecDepth 100000 in
theorem ito_26 (w : World) : Calls Tryz.prog 188 #[.int .i64 26] w fun e w' => e = .returned (.string (B (dec2 26))) ∧ w' = w := by go_enter Tryz.func188, Tryz.ntmps188; go_wp2; go_ret; exact ⟨rfl, rfl⟩
set_option maxRecDepth 100000 in
theorem ito_27 (w : World) : Calls Tryz.prog 188 #[.int .i64 27] w fun e w' => e = .returned (.string (B (dec2 27))) ∧ w' = w := by go_enter Tryz.func188, Tryz.ntmps188; go_wp2; go_ret; exact ⟨rfl, rfl⟩
set_option maxRecDepth 100000 in
theorem ito_28 (w : World) : Calls Tryz.prog 188 #[.int .i64 28] w fun e w' => e = .returned (.string (B (dec2 28))) ∧ w' = w := by go_enter Tryz.func188, Tryz.ntmps188; go_wp2; go_ret; exact ⟨rfl, rfl⟩
set_option maxRecDepth 100000 in
theorem ito_29 (w : World) : Calls Tryz.prog 188 #[.int .i64 29] w fun e w' => e = .returned (.string (B (dec2 29))) ∧ w' = w := by go_enter Tryz.func188, Tryz.ntmps188; go_wp2; go_ret; exact ⟨rfl, rfl⟩
set_option maxRecDepth 100000 in
theorem ito_30 (w : World) : Calls Tryz.prog 188 #[.int .i64 30] w fun e w' => e = .returned (.string (B (dec2 30))) ∧ w' = w := by go_enter Tryz.func188, Tryz.ntmps188; go_wp2; go_ret; exact ⟨rfl, rfl⟩
set_option maxRecDepth 100000 in
theorem ito_31 (w : World) : Calls Tryz.prog 188 #[.int .i64 31] w fun e w' => e = .returned (.string (B (dec2 31))) ∧ w' = w := by go_enter Tryz.func188, Tryz.ntmps188; go_wp2; go_ret; exact ⟨rfl, rfl⟩
set_option maxRecDepth 100000 in
theorem ito_32 (w : World) : Calls Tryz.prog 188 #[.int .i64 32] w fun e w' => e = .returned (.string (B (dec2 32))) ∧ w' = w := by go_enter Tryz.func188, Tryz.ntmps188; go_wp2; go_ret; exact ⟨rfl, rfl⟩
set_option maxRecDepth 100000 in
theorem ito_33 (w : World) : Calls Tryz.prog 188 #[.int .i64 33] w fun e w' => e = .returned (.string (B (dec2 33))) ∧ w' = w := by go_enter Tryz.func188, Tryz.ntmps188; go_wp2; go_ret; exact ⟨rfl, rfl⟩
set_option maxRecDepth 100000 in
theorem ito_34 (w : World) : Calls Tryz.prog 188 #[.int .i64 34] w fun e w' => e = .returned (.string (B (dec2 34))) ∧ w' = w := by go_enter Tryz.func188, Tryz.ntmps188; go_wp2; go_ret; exact ⟨rfl, rfl⟩
set_option maxRecDepth 100000 in
theorem ito_35 (w : World) : Calls Tryz.prog 188 #[.int .i64 35] w fun e w' => e = .returned (.string (B (dec2 35))) ∧ w' = w := by go_enter Tryz.func188, Tryz.ntmps188; go_wp2; go_ret; exact ⟨rfl, rfl⟩
set_option maxRecDepth 100000 in
theorem ito_36 (w : World) : Calls Tryz.prog 188 #[.int .i64 36] w fun e w' => e = .returned (.string (B (dec2 36))) ∧ w' = w := by go_enter Tryz.func188, Tryz.ntmps188; go_wp2; go_ret; exact ⟨rfl, rfl⟩
set_option maxRecDepth 100000 in
theorem ito_37 (w : World) : Calls Tryz.prog 188 #[.int .i64 37] w fun e w' => e = .returned (.string (B (dec2 37))) ∧ w' = w := by go_enter Tryz.func188, Tryz.ntmps188; go_wp2; go_ret; exact ⟨rfl, rfl⟩
set_option maxRecDepth 100000 in
theorem ito_38 (w : World) : Calls Tryz.prog 188 #[.int .i64 38] w fun e w' => e = .returned (.string (B (dec2 38))) ∧ w' = w := by go_enter Tryz.func188, Tryz.ntmps188; go_wp2; go_ret; exact ⟨rfl, rfl⟩
set_option maxRecDepth 100000 in
theorem ito_39 (w : World) : Calls Tryz.prog 188 #[.int .i64 39] w fun e w' => e = .returned (.string (B (dec2 39))) ∧ w' = w := by go_enter Tryz.func188, Tryz.ntmps188; go_wp2; go_ret; exact ⟨rfl, rfl⟩
set_option maxRecDepth 100000 in
theorem ito_40 (w : World) : Calls Tryz.prog 188 #[.int .i64 40] w fun e w' => e = .returned (.string (B (dec2 40))) ∧ w' = w := by go_enter Tryz.func188, Tryz.ntmps188; go_wp2; go_ret; exact ⟨rfl, rfl⟩
set_option maxRecDepth 100000 in
theorem ito_41 (w : World) : Calls Tryz.prog 188 #[.int .i64 41] w fun e w' => e = .returned (.string (B (dec2 41))) ∧ w' = w := by go_enter Tryz.func188, Tryz.ntmps188; go_wp2; go_ret; exact ⟨rfl, rfl⟩
set_option maxRecDepth 100000 in
theorem ito_42 (w : World) : Calls Tryz.prog 188 #[.int .i64 42] w fun e w' => e = .returned (.string (B (dec2 42))) ∧ w' = w := by go_enter Tryz.func188, Tryz.ntmps188; go_wp2; go_ret; exact ⟨rfl, rfl⟩
set_option maxRecDepth 100000 in
theorem ito_43 (w : World) : Calls Tryz.prog 188 #[.int .i64 43] w fun e w' => e = .returned (.string (B (dec2 43))) ∧ w' = w := by go_enter Tryz.func188, Tryz.ntmps188; go_wp2; go_ret; exact ⟨rfl, rfl⟩
set_option maxRecDepth 100000 in
theorem ito_44 (w : World) : Calls Tryz.prog 188 #[.int .i64 44] w fun e w' => e = .returned (.string (B (dec2 44))) ∧ w' = w := by go_enter Tryz.func188, Tryz.ntmps188; go_wp2; go_ret; exact ⟨rfl, rfl⟩
set_option maxRecDepth 100000 in
theorem ito_45 (w : World) : Calls Tryz.prog 188 #[.int .i64 45] w fun e w' => e = .returned (.string (B (dec2 45))) ∧ w' = w := by go_enter Tryz.func188, Tryz.ntmps188; go_wp2; go_ret; exact ⟨rfl, rfl⟩
set_option maxRecDepth 100000 in
theorem ito_46 (w : World) : Calls Tryz.prog 188 #[.int .i64 46] w fun e w' => e = .returned (.string (B (dec2 46))) ∧ w' = w := by go_enter Tryz.func188, Tryz.ntmps188; go_wp2; go_ret; exact ⟨rfl, rfl⟩
set_option maxRecDepth 100000 in
theorem ito_47 (w : World) : Calls Tryz.prog 188 #[.int .i64 47] w fun e w' => e = .returned (.string (B (dec2 47))) ∧ w' = w := by go_enter Tryz.func188, Tryz.ntmps188; go_wp2; go_ret; exact ⟨rfl, rfl⟩
set_option maxRecDepth 100000 in
theorem ito_48 (w : World) : Calls Tryz.prog 188 #[.int .i64 48] w fun e w' => e = .returned (.string (B (dec2 48))) ∧ w' = w := by go_enter Tryz.func188, Tryz.ntmps188; go_wp2; go_ret; exact ⟨rfl, rfl⟩
set_option maxRecDepth 100000 in
theorem ito_49 (w : World) : Calls Tryz.prog 188 #[.int .i64 49] w fun e w' => e = .returned (.string (B (dec2 49))) ∧ w' = w := by go_enter Tryz.func188, Tryz.ntmps188; go_wp2; go_ret; exact ⟨rfl, rfl⟩
set_option maxRecDepth 100000 in
theorem ito_50 (w : World) : Calls Tryz.prog 188 #[.int .i64 50] w fun e w' => e = .returned (.string (B (dec2 50))) ∧ w' = w := by go_enter Tryz.func188, Tryz.ntmps188; go_wp2; go_ret; exact ⟨rfl, rfl⟩
set_option maxRecDepth 100000 in
theorem ito_51 (w : World) : Calls Tryz.prog 188 #[.int .i64 51] w fun e w' => e = .returned (.string (B (dec2 51))) ∧ w' = w := by go_enter Tryz.func188, Tryz.ntmps188; go_wp2; go_ret; exact ⟨rfl, rfl⟩
set_option maxRecDepth 100000 in
theorem ito_52 (w : World) : Calls Tryz.prog 188 #[.int .i64 52] w fun e w' => e = .returned (.string (B (dec2 52))) ∧ w' = w := by go_enter Tryz.func188, Tryz.ntmps188; go_wp2; go_ret; exact ⟨rfl, rfl⟩
set_option maxRecDepth 100000 in
theorem ito_53 (w : World) : Calls Tryz.prog 188 #[.int .i64 53] w fun e w' => e = .returned (.string (B (dec2 53))) ∧ w' = w := by go_enter Tryz.func188, Tryz.ntmps188; go_wp2; go_ret; exact ⟨rfl, rfl⟩
set_option maxRecDepth 100000 in
theorem ito_54 (w : World) : Calls Tryz.prog 188 #[.int .i64 54] w fun e w' => e = .returned (.string (B (dec2 54))) ∧ w' = w := by go_enter Tryz.func188, Tryz.ntmps188; go_wp2; go_ret; exact ⟨rfl, rfl⟩
set_option maxRecDepth 100000 in
theorem ito_55 (w : World) : Calls Tryz.prog 188 #[.int .i64 55] w fun e w' => e = .returned (.string (B (dec2 55))) ∧ w' = w := by go_enter Tryz.func188, Tryz.ntmps188; go_wp2; go_ret; exact ⟨rfl, rfl⟩
set_option maxRecDepth 100000 in
theorem ito_56 (w : World) : Calls Tryz.prog 188 #[.int .i64 56] w fun e w' => e = .returned (.string (B (dec2 56))) ∧ w' = w := by go_enter Tryz.func188, Tryz.ntmps188; go_wp2; go_ret; exact ⟨rfl, rfl⟩
set_option maxRecDepth 100000 in
theorem ito_57 (w : World) : Calls Tryz.prog 188 #[.int .i64 57] w fun e w' => e = .returned (.string (B (dec2 57))) ∧ w' = w := by go_enter Tryz.func188, Tryz.ntmps188; go_wp2; go_ret; exact ⟨rfl, rfl⟩
set_option maxRecDepth 100000 in
theorem ito_58 (w : World) : Calls Tryz.prog 188 #[.int .i64 58] w fun e w' => e = .returned (.string (B (dec2 58))) ∧ w' = w := by go_enter Tryz.func188, Tryz.ntmps188; go_wp2; go_ret; exact ⟨rfl, rfl⟩
set_option maxRecDepth 100000 in
theorem ito_59 (w : World) : Calls Tryz.prog 188 #[.int .i64 59] w fun e w' => e = .returned (.string (B (dec2 59))) ∧ w' = w := by go_enter Tryz.func188, Tryz.ntmps188; go_wp2; go_ret; exact ⟨rfl, rfl⟩
set_option maxRecDepth 100000 in
theorem ito_60 (w : World) : Calls Tryz.prog 188 #[.int .i64 60] w fun e w' => e = .returned (.string (B (dec2 60))) ∧ w' = w := by go_enter Tryz.func188, Tryz.ntmps188; go_wp2; go_ret; exact ⟨rfl, rfl⟩
set_option maxRecDepth 100000 in
theorem ito_61 (w : World) : Calls Tryz.prog 188 #[.int .i64 61] w fun e w' => e = .returned (.string (B (dec2 61))) ∧ w' = w := by go_enter Tryz.func188, Tryz.ntmps188; go_wp2; go_ret; exact ⟨rfl, rfl⟩
set_option maxRecDepth 100000 in
theorem ito_62 (w : World) : Calls Tryz.prog 188 #[.int .i64 62] w fun e w' => e = .returned (.string (B (dec2 62))) ∧ w' = w := by go_enter Tryz.func188, Tryz.ntmps188; go_wp2; go_ret; exact ⟨rfl, rfl⟩
set_option maxRecDepth 100000 in
theorem ito_63 (w : World) : Calls Tryz.prog 188 #[.int .i64 63] w fun e w' => e = .returned (.string (B (dec2 63))) ∧ w' = w := by go_enter Tryz.func188, Tryz.ntmps188; go_wp2; go_ret; exact ⟨rfl, rfl⟩
set_option maxRecDepth 100000 in
theorem ito_64 (w : World) : Calls Tryz.prog 188 #[.int .i64 64] w fun e w' => e = .returned (.string (B (dec2 64))) ∧ w' = w := by go_enter Tryz.func188, Tryz.ntmps188; go_wp2; go_ret; exact ⟨rfl, rfl⟩
set_option maxRecDepth 100000 in
theorem ito_65 (w : World) : Calls Tryz.prog 188 #[.int .i64 65] w fun e w' => e = .returned (.string (B (dec2 65))) ∧ w' = w := by go_enter Tryz.func188, Tryz.ntmps188; go_wp2; go_ret; exact ⟨rfl, rfl⟩
set_option maxRecDepth 100000 in
theorem ito_66 (w : World) : Calls Tryz.prog 188 #[.int .i64 66] w fun e w' => e = .returned (.string (B (dec2 66))) ∧ w' = w := by go_enter Tryz.func188, Tryz.ntmps188; go_wp2; go_ret; exact ⟨rfl, rfl⟩
set_option maxRecDepth 100000 in
theorem ito_67 (w : World) : Calls Tryz.prog 188 #[.int .i64 67] w fun e w' => e = .returned (.string (B (dec2 67))) ∧ w' = w := by go_enter Tryz.func188, Tryz.ntmps188; go_wp2; go_ret; exact ⟨rfl, rfl⟩
set_option maxRecDepth 100000 in
theorem ito_68 (w : World) : Calls Tryz.prog 188 #[.int .i64 68] w fun e w' => e = .returned (.string (B (dec2 68))) ∧ w' = w := by go_enter Tryz.func188, Tryz.ntmps188; go_wp2; go_ret; exact ⟨rfl, rfl⟩
set_option maxRecDepth 100000 in
theorem ito_69 (w : World) : Calls Tryz.prog 188 #[.int .i64 69] w fun e w' => e = .returned (.string (B (dec2 69))) ∧ w' = w := by go_enter Tryz.func188, Tryz.ntmps188; go_wp2; go_ret; exact ⟨rfl, rfl⟩
set_option maxRecDepth 100000 in
theorem ito_70 (w : World) : Calls Tryz.prog 188 #[.int .i64 70] w fun e w' => e = .returned (.string (B (dec2 70))) ∧ w' = w := by go_enter Tryz.func188, Tryz.ntmps188; go_wp2; go_ret; exact ⟨rfl, rfl⟩
set_option maxRecDepth 100000 in
theorem ito_71 (w : World) : Calls Tryz.prog 188 #[.int .i64 71] w fun e w' => e = .returned (.string (B (dec2 71))) ∧ w' = w := by go_enter Tryz.func188, Tryz.ntmps188; go_wp2; go_ret; exact ⟨rfl, rfl⟩
set_option maxRecDepth 100000 in
theorem ito_72 (w : World) : Calls Tryz.prog 188 #[.int .i64 72] w fun e w' => e = .returned (.string (B (dec2 72))) ∧ w' = w := by go_enter Tryz.func188, Tryz.ntmps188; go_wp2; go_ret; exact ⟨rfl, rfl⟩
set_option maxRecDepth 100000 in
theorem ito_73 (w : World) : Calls Tryz.prog 188 #[.int .i64 73] w fun e w' => e = .returned (.string (B (dec2 73))) ∧ w' = w := by go_enter Tryz.func188, Tryz.ntmps188; go_wp2; go_ret; exact ⟨rfl, rfl⟩
set_option maxRecDepth 100000 in
theorem ito_74 (w : World) : Calls Tryz.prog 188 #[.int .i64 74] w fun e w' => e = .returned (.string (B (dec2 74))) ∧ w' = w := by go_enter Tryz.func188, Tryz.ntmps188; go_wp2; go_ret; exact ⟨rfl, rfl⟩
set_option maxRecDepth 100000 in
theorem ito_75 (w : World) : Calls Tryz.prog 188 #[.int .i64 75] w fun e w' => e = .returned (.string (B (dec2 75))) ∧ w' = w := by go_enter Tryz.func188, Tryz.ntmps188; go_wp2; go_ret; exact ⟨rfl, rfl⟩
set_option maxRecDepth 100000 in
theorem ito_76 (w : World) : Calls Tryz.prog 188 #[.int .i64 76] w fun e w' => e = .returned (.string (B (dec2 76))) ∧ w' = w := by go_enter Tryz.func188, Tryz.ntmps188; go_wp2; go_ret; exact ⟨rfl, rfl⟩
set_option maxRecDepth 100000 in
theorem ito_77 (w : World) : Calls Tryz.prog 188 #[.int .i64 77] w fun e w' => e = .returned (.string (B (dec2 77))) ∧ w' = w := by go_enter Tryz.func188, Tryz.ntmps188; go_wp2; go_ret; exact ⟨rfl, rfl⟩
set_option maxRecDepth 100000 in
theorem ito_78 (w : World) : Calls Tryz.prog 188 #[.int .i64 78] w fun e w' => e = .returned (.string (B (dec2 78))) ∧ w' = w := by go_enter Tryz.func188, Tryz.ntmps188; go_wp2; go_ret; exact ⟨rfl, rfl⟩
set_option maxRecDepth 100000 in
theorem ito_79 (w : World) : Calls Tryz.prog 188 #[.int .i64 79] w fun e w' => e = .returned (.string (B (dec2 79))) ∧ w' = w := by go_enter Tryz.func188, Tryz.ntmps188; go_wp2; go_ret; exact ⟨rfl, rfl⟩
set_option maxRecDepth 100000 in
theorem ito_80 (w : World) : Calls Tryz.prog 188 #[.int .i64 80] w fun e w' => e = .returned (.string (B (dec2 80))) ∧ w' = w := by go_enter Tryz.func188, Tryz.ntmps188; go_wp2; go_ret; exact ⟨rfl, rfl⟩
set_option maxRecDepth 100000 in
theorem ito_81 (w : World) : Calls Tryz.prog 188 #[.int .i64 81] w fun e w' => e = .returned (.string (B (dec2 81))) ∧ w' = w := by go_enter Tryz.func188, Tryz.ntmps188; go_wp2; go_ret; exact ⟨rfl, rfl⟩
set_option maxRecDepth 100000 in
theorem ito_82 (w : World) : Calls Tryz.prog 188 #[.int .i64 82] w fun e w' => e = .returned (.string (B (dec2 82))) ∧ w' = w := by go_enter Tryz.func188, Tryz.ntmps188; go_wp2; go_ret; exact ⟨rfl, rfl⟩
set_option maxRecDepth 100000 in
theorem ito_83 (w : World) : Calls Tryz.prog 188 #[.int .i64 83] w fun e w' => e = .returned (.string (B (dec2 83))) ∧ w' = w := by go_enter Tryz.func188, Tryz.ntmps188; go_wp2; go_ret; exact ⟨rfl, rfl⟩
set_option maxRecDepth 100000 in
theorem ito_84 (w : World) : Calls Tryz.prog 188 #[.int .i64 84] w fun e w' => e = .returned (.string (B (dec2 84))) ∧ w' = w := by go_enter Tryz.func188, Tryz.ntmps188; go_wp2; go_ret; exact ⟨rfl, rfl⟩
set_option maxRecDepth 100000 in
theorem ito_85 (w : World) : Calls Tryz.prog 188 #[.int .i64 85] w fun e w' => e = .returned (.string (B (dec2 85))) ∧ w' = w := by go_enter Tryz.func188, Tryz.ntmps188; go_wp2; go_ret; exact ⟨rfl, rfl⟩
set_option maxRecDepth 100000 in
theorem ito_86 (w : World) : Calls Tryz.prog 188 #[.int .i64 86] w fun e w' => e = .returned (.string (B (dec2 86))) ∧ w' = w := by go_enter Tryz.func188, Tryz.ntmps188; go_wp2; go_ret; exact ⟨rfl, rfl⟩
set_option maxRecDepth 100000 in
theorem ito_87 (w : World) : Calls Tryz.prog 188 #[.int .i64 87] w fun e w' => e = .returned (.string (B (dec2 87))) ∧ w' = w := by go_enter Tryz.func188, Tryz.ntmps188; go_wp2; go_ret; exact ⟨rfl, rfl⟩
set_option maxRecDepth 100000 in
theorem ito_88 (w : World) : Calls Tryz.prog 188 #[.int .i64 88] w fun e w' => e = .returned (.string (B (dec2 88))) ∧ w' = w := by go_enter Tryz.func188, Tryz.ntmps188; go_wp2; go_ret; exact ⟨rfl, rfl⟩
set_option maxRecDepth 100000 in
theorem ito_89 (w : World) : Calls Tryz.prog 188 #[.int .i64 89] w fun e w' => e = .returned (.string (B (dec2 89))) ∧ w' = w := by go_enter Tryz.func188, Tryz.ntmps188; go_wp2; go_ret; exact ⟨rfl, rfl⟩
set_option maxRecDepth 100000 in
theorem ito_90 (w : World) : Calls Tryz.prog 188 #[.int .i64 90] w fun e w' => e = .returned (.string (B (dec2 90))) ∧ w' = w := by go_enter Tryz.func188, Tryz.ntmps188; go_wp2; go_ret; exact ⟨rfl, rfl⟩
set_option maxRecDepth 100000 in
theorem ito_91 (w : World) : Calls Tryz.prog 188 #[.int .i64 91] w fun e w' => e = .returned (.string (B (dec2 91))) ∧ w' = w := by go_enter Tryz.func188, Tryz.ntmps188; go_wp2; go_ret; exact ⟨rfl, rfl⟩
set_option maxRecDepth 100000 in
theorem ito_92 (w : World) : Calls Tryz.prog 188 #[.int .i64 92] w fun e w' => e = .returned (.string (B (dec2 92))) ∧ w' = w := by go_enter Tryz.func188, Tryz.ntmps188; go_wp2; go_ret; exact ⟨rfl, rfl⟩
set_option maxRecDepth 100000 in
theorem ito_93 (w : World) : Calls Tryz.prog 188 #[.int .i64 93] w fun e w' => e = .returned (.string (B (dec2 93))) ∧ w' = w := by go_enter Tryz.func188, Tryz.ntmps188; go_wp2; go_ret; exact ⟨rfl, rfl⟩
set_option maxRecDepth 100000 in
theorem ito_94 (w : World) : Calls Tryz.prog 188 #[.int .i64 94] w fun e w' => e = .returned (.string (B (dec2 94))) ∧ w' = w := by go_enter Tryz.func188, Tryz.ntmps188; go_wp2; go_ret; exact ⟨rfl, rfl⟩
set_option maxRecDepth 100000 in
theorem ito_95 (w : World) : Calls Tryz.prog 188 #[.int .i64 95] w fun e w' => e = .returned (.string (B (dec2 95))) ∧ w' = w := by go_enter Tryz.func188, Tryz.ntmps188; go_wp2; go_ret; exact ⟨rfl, rfl⟩
set_option maxRecDepth 100000 in
theorem ito_96 (w : World) : Calls Tryz.prog 188 #[.int .i64 96] w fun e w' => e = .returned (.string (B (dec2 96))) ∧ w' = w := by go_enter Tryz.func188, Tryz.ntmps188; go_wp2; go_ret; exact ⟨rfl, rfl⟩
set_option maxRecDepth 100000 in
theorem ito_97 (w : World) : Calls Tryz.prog 188 #[.int .i64 97] w fun e w' => e = .returned (.string (B (dec2 97))) ∧ w' = w := by go_enter Tryz.func188, Tryz.ntmps188; go_wp2; go_ret; exact ⟨rfl, rfl⟩
set_option maxRecDepth 100000 in
theorem ito_98 (w : World) : Calls Tryz.prog 188 #[.int .i64 98] w fun e w' => e = .returned (.string (B (dec2 98))) ∧ w' = w := by go_enter Tryz.func188, Tryz.ntmps188; go_wp2; go_ret; exact ⟨rfl, rfl⟩
set_option maxRecDepth 100000 in
theorem ito_99 (w : World) : Calls Tryz.prog 188 #[.int .i64 99] w fun e w' => e = .returned (.string (B (dec2 99))) ∧ w' = w := by go_enter Tryz.func188, Tryz.ntmps188; go_wp2; go_ret; exact ⟨rfl, rfl⟩
theorem itoa_2 (n : Nat) (h : n < 100) (w : World) : Calls Tryz.prog 188 #[.int .i64 (n : Int)] w fun e w' => e = .returned (.string (B (dec2 n))) ∧ w' = w := by
  match n, h with
  | 0, _ => exact ito_0 w
  | 1, _ => exact ito_1 w
  | 2, _ => exact ito_2 w
  | 3, _ => exact ito_3 w
  | 4, _ => exact ito_4 w
  | 5, _ => exact ito_5 w
  | 6, _ => exact ito_6 w
  | 7, _ => exact ito_7 w
  | 8, _ => exact ito_8 w
  | 9, _ => exact ito_9 w
  | 10, _ => exact ito_10 w
  | 11, _ => exact ito_11 w
  | 12, _ => exact ito_12 w
  | 13, _ => exact ito_13 w
  | 14, _ => exact ito_14 w
  | 15, _ => exact ito_15 w
  | 16, _ => exact ito_16 w
  | 17, _ => exact ito_17 w
  | 18, _ => exact ito_18 w
  | 19, _ => exact ito_19 w
  | 20, _ => exact ito_20 w
  | 21, _ => exact ito_21 w
  | 22, _ => exact ito_22 w
  | 23, _ => exact ito_23 w
  | 24, _ => exact ito_24 w
  | 25, _ => exact ito_25 w
  | 26, _ => exact ito_26 w
  | 27, _ => exact ito_27 w
  | 28, _ => exact ito_28 w
  | 29, _ => exact ito_29 w
  | 30, _ => exact ito_30 w
  | 31, _ => exact ito_31 w
  | 32, _ => exact ito_32 w
  | 33, _ => exact ito_33 w
  | 34, _ => exact ito_34 w
  | 35, _ => exact ito_35 w
  | 36, _ => exact ito_36 w
  | 37, _ => exact ito_37 w
  | 38, _ => exact ito_38 w
  | 39, _ => exact ito_39 w
  | 40, _ => exact ito_40 w
  | 41, _ => exact ito_41 w
  | 42, _ => exact ito_42 w
  | 43, _ => exact ito_43 w
  | 44, _ => exact ito_44 w
  | 45, _ => exact ito_45 w
  | 46, _ => exact ito_46 w
  | 47, _ => exact ito_47 w
  | 48, _ => exact ito_48 w
  | 49, _ => exact ito_49 w
  | 50, _ => exact ito_50 w
  | 51, _ => exact ito_51 w
  | 52, _ => exact ito_52 w
  | 53, _ => exact ito_53 w
  | 54, _ => exact ito_54 w
  | 55, _ => exact ito_55 w
  | 56, _ => exact ito_56 w
  | 57, _ => exact ito_57 w
  | 58, _ => exact ito_58 w
  | 59, _ => exact ito_59 w
  | 60, _ => exact ito_60 w
  | 61, _ => exact ito_61 w
  | 62, _ => exact ito_62 w
  | 63, _ => exact ito_63 w
  | 64, _ => exact ito_64 w
  | 65, _ => exact ito_65 w
  | 66, _ => exact ito_66 w
  | 67, _ => exact ito_67 w
  | 68, _ => exact ito_68 w
  | 69, _ => exact ito_69 w
  | 70, _ => exact ito_70 w
  | 71, _ => exact ito_71 w
  | 72, _ => exact ito_72 w
  | 73, _ => exact ito_73 w
  | 74, _ => exact ito_74 w
  | 75, _ => exact ito_75 w
  | 76, _ => exact ito_76 w
  | 77, _ => exact ito_77 w
  | 78, _ => exact ito_78 w
  | 79, _ => exact ito_79 w
  | 80, _ => exact ito_80 w
  | 81, _ => exact ito_81 w
  | 82, _ => exact ito_82 w
  | 83, _ => exact ito_83 w
  | 84, _ => exact ito_84 w
  | 85, _ => exact ito_85 w
  | 86, _ => exact ito_86 w
  | 87, _ => exact ito_87 w
  | 88, _ => exact ito_88 w
  | 89, _ => exact ito_89 w
  | 90, _ => exact ito_90 w
  | 91, _ => exact ito_91 w
  | 92, _ => exact ito_92 w
  | 93, _ => exact ito_93 w
  | 94, _ => exact ito_94 w
  | 95, _ => exact ito_95 w
  | 96, _ => exact ito_96 w
  | 97, _ => exact ito_97 w
  | 98, _ => exact ito_98 w
  | 99, _ => exact ito_99 w
  | n + 100, h => exact absurd h (by omega)
end Go.Proofs.YtcdijppegfcoaaaGreatDoor
