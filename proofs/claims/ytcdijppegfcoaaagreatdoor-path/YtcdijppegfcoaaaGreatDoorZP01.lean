import Derived.Test.YtcdijppegfcoaaaGreatDoorZT48
import Derived.Test.YtcdijppegfcoaaaGreatDoorZP00
/-
  OUR OWN TEXT. typerkeep: pick of four.
-/
namespace Go.Proofs.YtcdijppegfcoaaaGreatDoor
open Go.RowKit
set_option maxRecDepth 100000 in
set_option maxHeartbeats 4000000 in
theorem pick_4 (c : Int) (h1 : -9223372036854775808 ≤ c) (h2 : c ≤ 9223372036854775807) : ∃ n : Nat, n < 4 ∧ ∀ w, Calls Tryz.prog 32 #[.int .i64 c, .int .i64 4] w fun e w' => e = .returned (.int .i64 n) ∧ w' = w := by
  by_cases hc : c < 0
  · obtain ⟨m, hm⟩ : ∃ m : Nat, -(c + 1) = (m : Int) := ⟨(-(c + 1)).toNat, by omega⟩
    have E1 := hid (show (m : Int) % 4 = ((m % 4 : Nat) : Int) by omega)
    refine ⟨m % 4, Nat.mod_lt _ (by omega), fun w => ?_⟩
    obtain ⟨z, hz⟩ : ∃ z, z = m % 4 := ⟨_, rfl⟩
    rw [← hz] at E1 ⊢
    clear hz
    go_enter Tryz.func32, Tryz.ntmps32
    go_wp2
    rw [E1.out]
    go_ret
    exact ⟨rfl, rfl⟩
  · obtain ⟨m, hm⟩ : ∃ m : Nat, c = (m : Int) := ⟨c.toNat, by omega⟩
    have E1 := hid (show (m : Int) % 4 = ((m % 4 : Nat) : Int) by omega)
    refine ⟨m % 4, Nat.mod_lt _ (by omega), fun w => ?_⟩
    obtain ⟨z, hz⟩ : ∃ z, z = m % 4 := ⟨_, rfl⟩
    rw [← hz] at E1 ⊢
    clear hz
    go_enter Tryz.func32, Tryz.ntmps32
    go_wp2
    rw [E1.out]
    go_ret
    exact ⟨rfl, rfl⟩
end Go.Proofs.YtcdijppegfcoaaaGreatDoor

/-
  OUR OWN TEXT. The expressions of Path, worked out by the kernel.
-/
namespace Go.Proofs.YtcdijppegfcoaaaGreatDoor
open Go.RowKit
theorem pk_0_ : hasK (paX 0 []) (trS 0 [] 0).2.1 = true := by kernel_rfl
theorem pk_1_0 : hasK (paX 1 [0]) (trS 1 [0] 0).2.1 = true := by kernel_rfl
theorem pk_1_1 : hasK (paX 1 [1]) (trS 1 [1] 0).2.1 = true := by kernel_rfl
theorem pk_2_00 : hasK (paX 2 [0, 0]) (trS 2 [0, 0] 0).2.1 = true := by kernel_rfl
theorem pk_2_01 : hasK (paX 2 [0, 1]) (trS 2 [0, 1] 0).2.1 = true := by kernel_rfl
theorem pk_2_10 : hasK (paX 2 [1, 0]) (trS 2 [1, 0] 0).2.1 = true := by kernel_rfl
theorem pk_2_11 : hasK (paX 2 [1, 1]) (trS 2 [1, 1] 0).2.1 = true := by kernel_rfl
theorem pk_3_000 : hasK (paX 3 [0, 0, 0]) (trS 3 [0, 0, 0] 0).2.1 = true := by kernel_rfl
theorem pk_3_001 : hasK (paX 3 [0, 0, 1]) (trS 3 [0, 0, 1] 0).2.1 = true := by kernel_rfl
theorem pk_3_010 : hasK (paX 3 [0, 1, 0]) (trS 3 [0, 1, 0] 0).2.1 = true := by kernel_rfl
theorem pk_3_011 : hasK (paX 3 [0, 1, 1]) (trS 3 [0, 1, 1] 0).2.1 = true := by kernel_rfl
theorem pk_3_100 : hasK (paX 3 [1, 0, 0]) (trS 3 [1, 0, 0] 0).2.1 = true := by kernel_rfl
theorem pk_3_101 : hasK (paX 3 [1, 0, 1]) (trS 3 [1, 0, 1] 0).2.1 = true := by kernel_rfl
theorem pk_3_110 : hasK (paX 3 [1, 1, 0]) (trS 3 [1, 1, 0] 0).2.1 = true := by kernel_rfl
theorem pk_3_111 : hasK (paX 3 [1, 1, 1]) (trS 3 [1, 1, 1] 0).2.1 = true := by kernel_rfl
theorem pa_all (d : Nat) (hd : d < 4) (p : List UInt8) (hp : d ≤ p.length) : hasK (paX d p) (trS d p 0).2.1 = true := by
  obtain ⟨e1, e2⟩ := paX_bits d p
  rw [← e1, ← e2]
  match d, p, hd, hp with
  | 0, _, _, _ => exact pk_0_
  | 1, a :: _, _, _ =>
    show hasK (paX 1 [a % 2]) (trS 1 [a % 2] 0).2.1 = true
    rcases bit_or a with e | e <;> rw [e]
    · exact pk_1_0
    · exact pk_1_1
  | 2, a :: b :: _, _, _ =>
    show hasK (paX 2 [a % 2, b % 2]) (trS 2 [a % 2, b % 2] 0).2.1 = true
    rcases bit_or a with e | e <;> rw [e] <;> rcases bit_or b with f | f <;> rw [f]
    · exact pk_2_00
    · exact pk_2_01
    · exact pk_2_10
    · exact pk_2_11
  | 3, a :: b :: c :: _, _, _ =>
    show hasK (paX 3 [a % 2, b % 2, c % 2]) (trS 3 [a % 2, b % 2, c % 2] 0).2.1 = true
    rcases bit_or a with e | e <;> rw [e] <;> rcases bit_or b with f | f <;> rw [f] <;> rcases bit_or c with g | g <;> rw [g]
    · exact pk_3_000
    · exact pk_3_001
    · exact pk_3_010
    · exact pk_3_011
    · exact pk_3_100
    · exact pk_3_101
    · exact pk_3_110
    · exact pk_3_111
  | 1, [], _, h => exact absurd h (by simp)
  | 2, [], _, h => exact absurd h (by simp)
  | 2, [_], _, h => exact absurd h (by simp)
  | 3, [], _, h => exact absurd h (by simp)
  | 3, [_], _, h => exact absurd h (by simp)
  | 3, [_, _], _, h => exact absurd h (by simp)
  | d + 4, _, h, _ => exact absurd h (by omega)
end Go.Proofs.YtcdijppegfcoaaaGreatDoor

/-
  OUR OWN TEXT. typerkeep.Path.
-/
namespace Go.Proofs.YtcdijppegfcoaaaGreatDoor
open Go.RowKit
theorem path_any (s : ByteArray) (k : Int) (h1 : -9223372036854775808 ≤ k) (h2 : k ≤ 9223372036854775807) (w : World) (ad : Nat → Addr) (cs : Nat → Array Value) (ts : Nat → TypeId) (S : SW w ad cs ts) :
    Calls Tryz.prog 12 #[.string s, .int .i64 k] w fun e w' => e = .returned (.bool true) ∧ Gn w w' := by
  obtain ⟨d, hd, hp⟩ := pick_4 k h1 h2
  refine (path_w s k d hd hp w fun hdp w' g0 => ?_).mono fun e w' h => ⟨h.1, h.2.os, h.2.output, h.2.size, h.2.block⟩
  have g : Gn w w' := ⟨g0.os, g0.output, g0.size, g0.block⟩
  have hl : d ≤ (six s).data.toList.length := by rw [Array.length_toList]; exact hdp
  obtain ⟨hs, x, hx, ht⟩ := hasK_out (pa_all d hd (six s).data.toList hl)
  exact (has_g (kinfer_ok hs hx ht w' ad cs ts (S.gn g)) rfl).mono fun e w'' h => ⟨h.1, h.2.os, h.2.output, h.2.size, h.2.block⟩
end Go.Proofs.YtcdijppegfcoaaaGreatDoor
