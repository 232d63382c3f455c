import Derived.Test.YtcdijppegfcoaabGreatDoorZK39
set_option maxRecDepth 100000
set_option maxHeartbeats 4000000
namespace Go.Proofs.YtcdijppegfcoaabGreatDoor
open Go.RowKit
theorem fault_unb (w : World) (ad : Nat → Addr) (cs : Nat → Array Value) (ts : Nat → TypeId) (S : SW w ad cs ts) (b : Nat) (p : Int) (nm : ByteArray) (hb : w.heap[b]? = some (.cells #[.int .i64 p,.string nm] 95 (0,0))) :
    Calls Tryz.prog 22 #[.iface 82 (.pointer (some ⟨b,0,none⟩))] w fun e w' => e = .returned (f5 4 p nm 0 0) ∧ w.grownBy w' none := by
  obtain ⟨n0,n1,n2,n3⟩ := faultW_blocks w
  have hbl := lt_of_block hb
  have S4 := hid (S.grown (faultW_grown w))
  have A1 := hid (as_unb_env (w.heap.size + 3) ⟨b,0,none⟩ (faultW w) (lt_of_block n3) S4.out.hE (Nat.lt_of_lt_of_le (by decide) S4.out.hsz))
  have B4 := hid (And.intro n0 (And.intro n1 n2))
  have HB := hid hb
  clear S hb n0 n1 n2 n3
  unfold faultW at A1
  go_enter Tryz.func22,Tryz.ntmps22
  go_wp2_with fail
  refine A1.out.mono ?_
  rintro e w5 ⟨rfl,g5⟩
  have g5' : (faultW w).grownBy w5 none := g5
  have S5 := hid (S4.out.grown g5')
  have n1 : w5.heap[w.heap.size + 1]? = some (.cells #[.pointer none] 81 (0,0)) := by
    rw [g5'.block _ (lt_of_block B4.out.2.1) (by simp)]; exact B4.out.2.1
  have A2 := hid (as_unb_syn (w.heap.size + 1) ⟨b,0,none⟩ w5 (lt_of_block n1) S5.out.hE (Nat.lt_of_lt_of_le (by decide) S5.out.hsz))
  have G5 := hid g5'
  clear g5 g5' A1 S4 n1
  go_wp2_with fail
  refine A2.out.mono ?_
  rintro e w6 ⟨rfl,g6⟩
  have g6' := G5.out.trans g6
  have S6 := hid (S5.out.grown g6)
  have n2 : w6.heap[w.heap.size + 2]? = some (.cells #[.pointer none] 82 (0,0)) := by
    rw [g6'.block _ (lt_of_block B4.out.2.2) (by simp)]; exact B4.out.2.2
  have n0 : w6.heap[w.heap.size]? = some (.cells #[.int .i64 0,.int .i64 0,.string (B []),.int .i64 0,.int .i64 0] 23 (0,0)) := by
    rw [g6'.block _ (lt_of_block B4.out.1) (by simp)]; exact B4.out.1
  have A3 := hid (as_unb_unb (w.heap.size + 2) ⟨b,0,none⟩ (.pointer none) w6 (one_c n2).1 (one_c n2).2 (lt_of_block n2) S6.out.hE (Nat.lt_of_lt_of_le (by decide) S6.out.hsz))
  have G6 := hid ((faultW_grown w).trans g6')
  have hb6 : w6.heap[b]? = some (.cells #[.int .i64 p,.string nm] 95 (0,0)) := by
    rw [G6.out.block _ hbl (by simp)]; exact HB.out
  have l0 := lt_of_block n0
  have lb6 := lt_of_block hb6
  clear g6 g6' A2 S5 S6 G5
  go_wp2_with fail
  refine A3.out.mono ?_
  rintro e w7 ⟨rfl,c7,g7⟩
  have n07 : w7.heap[w.heap.size]? = some (.cells #[.int .i64 0,.int .i64 0,.string (B []),.int .i64 0,.int .i64 0] 23 (0,0)) := by
    rw [g7.block _ l0 (by simp)]; exact n0
  have hb7 : w7.heap[b]? = some (.cells #[.int .i64 p,.string nm] 95 (0,0)) := by
    rw [g7.block _ lb6 (by simp; omega)]; exact hb6
  have d7 := blk_c hb7 0 rfl
  have d8 := blk_c hb7 1 rfl
  obtain ⟨⟨q0,q1,q2,q3,q4⟩,f0,f1,f2,f3,f4⟩ := five_c n07
  have G7 : Hid (w.grownBy w7 none) := ⟨g7.os.trans G6.out.os,g7.tape.trans G6.out.tape,g7.output.trans G6.out.output,Nat.le_trans G6.out.size g7.size,fun k hk hn => by
    rw [g7.block k (Nat.lt_of_lt_of_le hk G6.out.size) (by simp; omega)]
    exact G6.out.block k hk hn⟩
  have c8 : w7.cell? ⟨w.heap.size + 1 + 1,0,none⟩ = some (.pointer (some ⟨b,0,none⟩)) := c7
  clear g7 n07 hb7 n0 n2 hb6 A3 c7
  go_wp2_with fail
  go_region
  go_wp2
  refine bodyPost_ret (v := f5 4 p nm 0 0) (by simp [results,Tryz.results22,go_sem,q0,q1,q2,q3,q4]; rfl) rfl ?_
  first
    | exact ⟨rfl,fault_set (grown_drew G7.out) (Nat.le_refl _) _ _ _ _ _⟩
    | exact ⟨rfl,fault_set G7.out (Nat.le_refl _) _ _ _ _ _⟩
    | exact ⟨rfl,grown_drew (fault_set G7.out (Nat.le_refl _) _ _ _ _ _)⟩
end Go.Proofs.YtcdijppegfcoaabGreatDoor
