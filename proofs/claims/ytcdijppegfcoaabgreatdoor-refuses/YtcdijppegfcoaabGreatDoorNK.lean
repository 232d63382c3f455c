import Derived.Test.YtcdijppegfcoaabGreatDoorNI
import Derived.Test.YtcdijppegfcoaabGreatDoorNJ
/-
  OUR OWN TEXT (written by mkfao.py). Refuses: the long text.
-/
namespace Go.Proofs.YtcdijppegfcoaabGreatDoor
open Go.RowKit

def xs (n : Nat) : List UInt8 := List.replicate n 120
theorem xs_step (j : Nat) : B (xs j) ++ ({ data := #[120] } : ByteArray) = B (xs (j + 1)) := by
  show B (xs j) ++ B [120] = _
  rw [append_B]
  unfold xs
  rw [List.replicate_succ']
theorem xs_size (j : Nat) : (B (xs j)).size = j := by rw [size_B]; simp [xs]
theorem carry {w w' : World} {b : Nat} {o o' : Obj} (h : w.heap[b]? = some o) (g : Gn w w') : (w'.alloc o').heap[b]? = some o := (Below.heap_alloc _ _ _ (Nat.lt_of_lt_of_le (lt_of_block h) g.size)).trans ((g.block _ (lt_of_block h)).trans h)
theorem onto {w w1 w' : World} {o : Obj} (h : Gn w w1) (g : Gn w1 w') : Gn w (w'.alloc o) := (h.trans g).trans (Gn.of (World.grownBy_alloc _ _ _))
end Go.Proofs.YtcdijppegfcoaabGreatDoor

/-
  OUR OWN TEXT (written by mkfao.py). Refuses: case 0.
-/
namespace Go.Proofs.YtcdijppegfcoaabGreatDoor
open Go.RowKit

set_option maxRecDepth 100000 in
set_option maxHeartbeats 2000000 in
theorem refuses_0 (k : Int) (hp : ∀ w, Calls Tryz.prog 11 #[.int .i64 k, .int .i64 63] w fun e w' => e = .returned (.int .i64 55) ∧ w' = w) (w : World) (ad : Nat → Addr) (cs : Nat → Array Value) (ts : Nat → TypeId) (S : SW w ad cs ts) :
    Calls Tryz.prog 7 #[.int .i64 k] w fun e w' => e = .returned (.bool true) ∧ Gn w w' := by
  have HF := hid (faults_p w)
  have HP := hid hp
  have HS := hid S
  have tB : (B []).toList = [] := toList_B []
  clear S hp
  go_enter Tryz.func7, Tryz.ntmps7
  go_wp2_with fail
  refine HF.out.mono ?_
  rintro e w1 ⟨g1, b, rfl, hb, hat⟩
  have G0 := hid (Gn.of g1)
  have S0 := hid (HS.out.grown g1)
  clear g1 hb hat HF HS
  go_wp2_with fail
  refine (HP.out _).mono ?_
  rintro e w2 ⟨rfl, rfl⟩
  clear HP
  go_wp2_with fail
  go_loopg [9] 302 (fun gh x wi => ∃ j : Nat, j ≤ 301 ∧ x = .string (B (xs j)) ∧ gh = 302 - j ∧ wi = w2)
  case atStart => exact ⟨0, by omega, rfl, by omega, rfl⟩
  case round =>
    obtain ⟨j, hj, rfl, hgj, rfl⟩ := hrel
    have hsz := xs_size j
    by_cases hjl : j < 301
    · have e1 := xs_step j
      have hj2 : (j : Int) ≤ 300 := by omega
      go_wp2_with fail
      go_roundg (302 - (j + 1))
      case measure => omega
      case rel => exact ⟨j + 1, by omega, rfl, rfl, rfl⟩
    · have hje : j = 301 := by omega
      subst hje
      clear hj hgj hjl
      obtain ⟨lg, hlg⟩ : ∃ lg, lg = B (xs 301) := ⟨_, rfl⟩
      have hz : 300 < lg.size := by rw [hlg, xs_size]; decide
      rw [← hlg]
      rw [← hlg] at hsz
      have HLG := hid hlg
      have HZ := hid hz
      clear hz hlg
      go_wp2_with fail
      refine (pshow_long lg HZ.out _ ad cs ts S0.out).mono ?_
      rintro e v1 ⟨rfl, g⟩
      have B1 := hid (heap_alloc_new v1 (.cells #[.int .i64 1, .int .i64 0, .string (B []), .int .i64 0, .int .i64 0] 23))
      have S1 := hid ((S0.out.gn g).gn (Gn.of (World.grownBy_alloc v1 (.cells #[.int .i64 1, .int .i64 0, .string (B []), .int .i64 0, .int .i64 0] 23) none)))
      have G1 := hid (onto (o := (.cells #[.int .i64 1, .int .i64 0, .string (B []), .int .i64 0, .int .i64 0] 23)) G0.out g)
      clear g S0 G0
      unfold fv
      go_wp2_with fail
      refine (pc_f lg 1 0 _ ad cs ts S1.out (Or.inl ⟨HZ.out, rfl, rfl⟩)).mono ?_
      rintro e v2 ⟨rfl, g⟩
      have B1 := hid (carry (o' := (.cells #[.int .i64 1, .int .i64 0, .string (B []), .int .i64 0, .int .i64 0] 23)) B1.out g)
      have B2 := hid (heap_alloc_new v2 (.cells #[.int .i64 1, .int .i64 0, .string (B []), .int .i64 0, .int .i64 0] 23))
      have S2 := hid ((S1.out.gn g).gn (Gn.of (World.grownBy_alloc v2 (.cells #[.int .i64 1, .int .i64 0, .string (B []), .int .i64 0, .int .i64 0] 23) none)))
      have G2 := hid (onto (o := (.cells #[.int .i64 1, .int .i64 0, .string (B []), .int .i64 0, .int .i64 0] 23)) G1.out g)
      clear g S1 G1
      unfold fv
      go_wp2_with fail
      refine (pinf_long lg HZ.out _ ad cs ts S2.out).mono ?_
      rintro e v3 ⟨g, r3, rfl⟩
      have B1 := hid (carry (o' := (.cells #[.int .i64 1, .int .i64 0, .string (B []), .int .i64 0, .int .i64 0] 23)) B1.out g)
      have B2 := hid (carry (o' := (.cells #[.int .i64 1, .int .i64 0, .string (B []), .int .i64 0, .int .i64 0] 23)) B2.out g)
      have B3 := hid (heap_alloc_new v3 (.cells #[.int .i64 1, .int .i64 0, .string (B []), .int .i64 0, .int .i64 0] 23))
      have S3 := hid ((S2.out.gn g).gn (Gn.of (World.grownBy_alloc v3 (.cells #[.int .i64 1, .int .i64 0, .string (B []), .int .i64 0, .int .i64 0] 23) none)))
      have G3 := hid (onto (o := (.cells #[.int .i64 1, .int .i64 0, .string (B []), .int .i64 0, .int .i64 0] 23)) G2.out g)
      clear g S2 G2
      unfold fv
      obtain ⟨⟨p10, p11, p12, p13, p14⟩, _⟩ := five_c B1.out
      obtain ⟨⟨p20, p21, p22, p23, p24⟩, _⟩ := five_c B2.out
      obtain ⟨⟨p30, p31, p32, p33, p34⟩, _⟩ := five_c B3.out
      clear B1 B2 B3 S3
      go_wp2
      go_ret
      exact ⟨rfl, G3.out⟩
end Go.Proofs.YtcdijppegfcoaabGreatDoor

/-
  OUR OWN TEXT (written by mkfao.py). Refuses: case 1.
-/
namespace Go.Proofs.YtcdijppegfcoaabGreatDoor
open Go.RowKit

set_option maxRecDepth 100000 in
set_option maxHeartbeats 2000000 in
theorem refuses_1 (k : Int) (hp : ∀ w, Calls Tryz.prog 11 #[.int .i64 k, .int .i64 63] w fun e w' => e = .returned (.int .i64 56) ∧ w' = w) (w : World) (ad : Nat → Addr) (cs : Nat → Array Value) (ts : Nat → TypeId) (S : SW w ad cs ts) :
    Calls Tryz.prog 7 #[.int .i64 k] w fun e w' => e = .returned (.bool true) ∧ Gn w w' := by
  have HF := hid (faults_p w)
  have HP := hid hp
  have HS := hid S
  have tB : (B []).toList = [] := toList_B []
  clear S hp
  go_enter Tryz.func7, Tryz.ntmps7
  go_wp2_with fail
  refine HF.out.mono ?_
  rintro e w1 ⟨g1, b, rfl, hb, hat⟩
  have G0 := hid (Gn.of g1)
  have S0 := hid (HS.out.grown g1)
  clear g1 hb hat HF HS
  go_wp2_with fail
  refine (HP.out _).mono ?_
  rintro e w2 ⟨rfl, rfl⟩
  clear HP
  go_wp2_with fail
  go_loopg [9] 302 (fun gh x wi => ∃ j : Nat, j ≤ 301 ∧ x = .string (B (xs j)) ∧ gh = 302 - j ∧ wi = w2)
  case atStart => exact ⟨0, by omega, rfl, by omega, rfl⟩
  case round =>
    obtain ⟨j, hj, rfl, hgj, rfl⟩ := hrel
    have hsz := xs_size j
    by_cases hjl : j < 301
    · have e1 := xs_step j
      have hj2 : (j : Int) ≤ 300 := by omega
      go_wp2_with fail
      go_roundg (302 - (j + 1))
      case measure => omega
      case rel => exact ⟨j + 1, by omega, rfl, rfl, rfl⟩
    · have hje : j = 301 := by omega
      subst hje
      clear hj hgj hjl
      obtain ⟨lg, hlg⟩ : ∃ lg, lg = B (xs 301) := ⟨_, rfl⟩
      have hz : 300 < lg.size := by rw [hlg, xs_size]; decide
      rw [← hlg]
      rw [← hlg] at hsz
      have HLG := hid hlg
      have HZ := hid hz
      clear hz hlg
      go_wp2_with fail
      refine (pinf_arg 0 (Or.inl rfl) _ ad cs ts S0.out).mono ?_
      rintro e v1 ⟨g, r1, rfl⟩
      have B1 := hid (heap_alloc_new v1 (.cells #[.int .i64 6, .int .i64 0, .string (B []), .int .i64 0, .int .i64 0] 23))
      have S1 := hid ((S0.out.gn g).gn (Gn.of (World.grownBy_alloc v1 (.cells #[.int .i64 6, .int .i64 0, .string (B []), .int .i64 0, .int .i64 0] 23) none)))
      have G1 := hid (onto (o := (.cells #[.int .i64 6, .int .i64 0, .string (B []), .int .i64 0, .int .i64 0] 23)) G0.out g)
      clear g S0 G0
      unfold fv
      go_wp2_with fail
      refine (pinf_arg 13 (Or.inr rfl) _ ad cs ts S1.out).mono ?_
      rintro e v2 ⟨g, r2, rfl⟩
      have B1 := hid (carry (o' := (.cells #[.int .i64 6, .int .i64 0, .string (B []), .int .i64 0, .int .i64 0] 23)) B1.out g)
      have B2 := hid (heap_alloc_new v2 (.cells #[.int .i64 6, .int .i64 0, .string (B []), .int .i64 0, .int .i64 0] 23))
      have S2 := hid ((S1.out.gn g).gn (Gn.of (World.grownBy_alloc v2 (.cells #[.int .i64 6, .int .i64 0, .string (B []), .int .i64 0, .int .i64 0] 23) none)))
      have G2 := hid (onto (o := (.cells #[.int .i64 6, .int .i64 0, .string (B []), .int .i64 0, .int .i64 0] 23)) G1.out g)
      clear g S1 G1
      unfold fv
      go_wp2_with fail
      refine (pinf_num _ ad cs ts S2.out).mono ?_
      rintro e v3 ⟨g, r3, rfl⟩
      have B1 := hid (carry (o' := (.cells #[.int .i64 0, .int .i64 0, .string (B []), .int .i64 0, .int .i64 0] 23)) B1.out g)
      have B2 := hid (carry (o' := (.cells #[.int .i64 0, .int .i64 0, .string (B []), .int .i64 0, .int .i64 0] 23)) B2.out g)
      have B3 := hid (heap_alloc_new v3 (.cells #[.int .i64 0, .int .i64 0, .string (B []), .int .i64 0, .int .i64 0] 23))
      have S3 := hid ((S2.out.gn g).gn (Gn.of (World.grownBy_alloc v3 (.cells #[.int .i64 0, .int .i64 0, .string (B []), .int .i64 0, .int .i64 0] 23) none)))
      have G3 := hid (onto (o := (.cells #[.int .i64 0, .int .i64 0, .string (B []), .int .i64 0, .int .i64 0] 23)) G2.out g)
      clear g S2 G2
      unfold fv
      obtain ⟨⟨p10, p11, p12, p13, p14⟩, _⟩ := five_c B1.out
      obtain ⟨⟨p20, p21, p22, p23, p24⟩, _⟩ := five_c B2.out
      obtain ⟨⟨p30, p31, p32, p33, p34⟩, _⟩ := five_c B3.out
      clear B1 B2 B3 S3
      go_wp2
      go_ret
      exact ⟨rfl, G3.out⟩
end Go.Proofs.YtcdijppegfcoaabGreatDoor

/-
  OUR OWN TEXT (written by mkfao.py). Refuses: case 2.
-/
namespace Go.Proofs.YtcdijppegfcoaabGreatDoor
open Go.RowKit

set_option maxRecDepth 100000 in
set_option maxHeartbeats 2000000 in
theorem refuses_2 (k : Int) (hp : ∀ w, Calls Tryz.prog 11 #[.int .i64 k, .int .i64 63] w fun e w' => e = .returned (.int .i64 57) ∧ w' = w) (w : World) (ad : Nat → Addr) (cs : Nat → Array Value) (ts : Nat → TypeId) (S : SW w ad cs ts) :
    Calls Tryz.prog 7 #[.int .i64 k] w fun e w' => e = .returned (.bool true) ∧ Gn w w' := by
  have HF := hid (faults_p w)
  have HP := hid hp
  have HS := hid S
  have tB : (B []).toList = [] := toList_B []
  clear S hp
  go_enter Tryz.func7, Tryz.ntmps7
  go_wp2_with fail
  refine HF.out.mono ?_
  rintro e w1 ⟨g1, b, rfl, hb, hat⟩
  have G0 := hid (Gn.of g1)
  have S0 := hid (HS.out.grown g1)
  clear g1 hb hat HF HS
  go_wp2_with fail
  refine (HP.out _).mono ?_
  rintro e w2 ⟨rfl, rfl⟩
  clear HP
  go_wp2_with fail
  go_loopg [9] 302 (fun gh x wi => ∃ j : Nat, j ≤ 301 ∧ x = .string (B (xs j)) ∧ gh = 302 - j ∧ wi = w2)
  case atStart => exact ⟨0, by omega, rfl, by omega, rfl⟩
  case round =>
    obtain ⟨j, hj, rfl, hgj, rfl⟩ := hrel
    have hsz := xs_size j
    by_cases hjl : j < 301
    · have e1 := xs_step j
      have hj2 : (j : Int) ≤ 300 := by omega
      go_wp2_with fail
      go_roundg (302 - (j + 1))
      case measure => omega
      case rel => exact ⟨j + 1, by omega, rfl, rfl, rfl⟩
    · have hje : j = 301 := by omega
      subst hje
      clear hj hgj hjl
      obtain ⟨lg, hlg⟩ : ∃ lg, lg = B (xs 301) := ⟨_, rfl⟩
      have hz : 300 < lg.size := by rw [hlg, xs_size]; decide
      rw [← hlg]
      rw [← hlg] at hsz
      have HLG := hid hlg
      have HZ := hid hz
      clear hz hlg
      go_wp2_with fail
      have gA : Gn wr ((wr.alloc (.cells #[.string (B [120]), .string (B [98]), .string (B [99])] 9)).alloc (.cells #[.string (B [105, 110, 116]), .string (B [40]), .string (B [41])] 9)) := Gn.of ((World.grownBy_alloc _ _ _).trans (World.grownBy_alloc _ _ _))
      have S0 := hid (S0.out.gn gA)
      have G0 := hid (G0.out.trans gA)
      clear gA
      refine (pinf_xbc _ _ _ (SRow.three (by rw [Below.heap_alloc _ _ _ (by simp)]; exact heap_alloc_new _ _)) (SRow.three (heap_alloc_at _ _ _ (by simp))) ad cs ts S0.out).mono ?_
      rintro e v1 ⟨g, r1, rfl⟩
      have B1 := hid (heap_alloc_new v1 (.cells #[.int .i64 5, .int .i64 0, .string (B [98]), .int .i64 2, .int .i64 1] 23))
      have S1 := hid ((S0.out.gn g).gn (Gn.of (World.grownBy_alloc v1 (.cells #[.int .i64 5, .int .i64 0, .string (B [98]), .int .i64 2, .int .i64 1] 23) none)))
      have G1 := hid (onto (o := (.cells #[.int .i64 5, .int .i64 0, .string (B [98]), .int .i64 2, .int .i64 1] 23)) G0.out g)
      clear g S0 G0
      unfold fe
      obtain ⟨⟨p10, p11, p12, p13, p14⟩, _⟩ := five_c B1.out
      clear B1 S1
      have tS : (B [98]).toList = [98] := toList_B _
      have tS2 : ({ data := #[98] } : ByteArray).toList = [98] := toList_B [98]
      go_wp2
      go_ret
      exact ⟨rfl, G1.out⟩
end Go.Proofs.YtcdijppegfcoaabGreatDoor

/-
  OUR OWN TEXT (written by mkfao.py). Refuses: case 3.
-/
namespace Go.Proofs.YtcdijppegfcoaabGreatDoor
open Go.RowKit

set_option maxRecDepth 100000 in
set_option maxHeartbeats 2000000 in
theorem refuses_3 (k : Int) (hp : ∀ w, Calls Tryz.prog 11 #[.int .i64 k, .int .i64 63] w fun e w' => e = .returned (.int .i64 58) ∧ w' = w) (w : World) (ad : Nat → Addr) (cs : Nat → Array Value) (ts : Nat → TypeId) (S : SW w ad cs ts) :
    Calls Tryz.prog 7 #[.int .i64 k] w fun e w' => e = .returned (.bool true) ∧ Gn w w' := by
  have HF := hid (faults_p w)
  have HP := hid hp
  have HS := hid S
  have tB : (B []).toList = [] := toList_B []
  clear S hp
  go_enter Tryz.func7, Tryz.ntmps7
  go_wp2_with fail
  refine HF.out.mono ?_
  rintro e w1 ⟨g1, b, rfl, hb, hat⟩
  have G0 := hid (Gn.of g1)
  have S0 := hid (HS.out.grown g1)
  clear g1 hb hat HF HS
  go_wp2_with fail
  refine (HP.out _).mono ?_
  rintro e w2 ⟨rfl, rfl⟩
  clear HP
  go_wp2_with fail
  go_loopg [9] 302 (fun gh x wi => ∃ j : Nat, j ≤ 301 ∧ x = .string (B (xs j)) ∧ gh = 302 - j ∧ wi = w2)
  case atStart => exact ⟨0, by omega, rfl, by omega, rfl⟩
  case round =>
    obtain ⟨j, hj, rfl, hgj, rfl⟩ := hrel
    have hsz := xs_size j
    by_cases hjl : j < 301
    · have e1 := xs_step j
      have hj2 : (j : Int) ≤ 300 := by omega
      go_wp2_with fail
      go_roundg (302 - (j + 1))
      case measure => omega
      case rel => exact ⟨j + 1, by omega, rfl, rfl, rfl⟩
    · have hje : j = 301 := by omega
      subst hje
      clear hj hgj hjl
      obtain ⟨lg, hlg⟩ : ∃ lg, lg = B (xs 301) := ⟨_, rfl⟩
      have hz : 300 < lg.size := by rw [hlg, xs_size]; decide
      rw [← hlg]
      rw [← hlg] at hsz
      have HLG := hid hlg
      have HZ := hid hz
      clear hz hlg
      go_wp2_with fail
      have gA : Gn wr ((wr.alloc (.cells #[.string (B [108, 101, 116])] 9)).alloc (.cells #[.string (B [105, 110, 116])] 9)) := Gn.of ((World.grownBy_alloc _ _ _).trans (World.grownBy_alloc _ _ _))
      have S0 := hid (S0.out.gn gA)
      have G0 := hid (G0.out.trans gA)
      clear gA
      refine (pinf_let _ _ _ (SRow.one (by rw [Below.heap_alloc _ _ _ (by simp)]; exact heap_alloc_new _ _)) (SRow.one (heap_alloc_at _ _ _ (by simp))) ad cs ts S0.out).mono ?_
      rintro e v1 ⟨g, r1, rfl⟩
      have B1 := hid (heap_alloc_new v1 (.cells #[.int .i64 5, .int .i64 0, .string (B [108, 101, 116]), .int .i64 0, .int .i64 0] 23))
      have S1 := hid ((S0.out.gn g).gn (Gn.of (World.grownBy_alloc v1 (.cells #[.int .i64 5, .int .i64 0, .string (B [108, 101, 116]), .int .i64 0, .int .i64 0] 23) none)))
      have G1 := hid (onto (o := (.cells #[.int .i64 5, .int .i64 0, .string (B [108, 101, 116]), .int .i64 0, .int .i64 0] 23)) G0.out g)
      clear g S0 G0
      unfold fe
      obtain ⟨⟨p10, p11, p12, p13, p14⟩, _⟩ := five_c B1.out
      clear B1 S1
      have tS : (B [108, 101, 116]).toList = [108, 101, 116] := toList_B _
      have tS2 : ({ data := #[108, 101, 116] } : ByteArray).toList = [108, 101, 116] := toList_B [108, 101, 116]
      go_wp2
      go_ret
      exact ⟨rfl, G1.out⟩
end Go.Proofs.YtcdijppegfcoaabGreatDoor

/-
  OUR OWN TEXT (written by mkfao.py). Refuses: case 4.
-/
namespace Go.Proofs.YtcdijppegfcoaabGreatDoor
open Go.RowKit

set_option maxRecDepth 100000 in
set_option maxHeartbeats 2000000 in
theorem refuses_4 (k : Int) (hp : ∀ w, Calls Tryz.prog 11 #[.int .i64 k, .int .i64 63] w fun e w' => e = .returned (.int .i64 59) ∧ w' = w) (w : World) (ad : Nat → Addr) (cs : Nat → Array Value) (ts : Nat → TypeId) (S : SW w ad cs ts) :
    Calls Tryz.prog 7 #[.int .i64 k] w fun e w' => e = .returned (.bool true) ∧ Gn w w' := by
  have HF := hid (faults_p w)
  have HP := hid hp
  have HS := hid S
  have tB : (B []).toList = [] := toList_B []
  clear S hp
  go_enter Tryz.func7, Tryz.ntmps7
  go_wp2_with fail
  refine HF.out.mono ?_
  rintro e w1 ⟨g1, b, rfl, hb, hat⟩
  have G0 := hid (Gn.of g1)
  have S0 := hid (HS.out.grown g1)
  clear g1 hb hat HF HS
  go_wp2_with fail
  refine (HP.out _).mono ?_
  rintro e w2 ⟨rfl, rfl⟩
  clear HP
  go_wp2_with fail
  go_loopg [9] 302 (fun gh x wi => ∃ j : Nat, j ≤ 301 ∧ x = .string (B (xs j)) ∧ gh = 302 - j ∧ wi = w2)
  case atStart => exact ⟨0, by omega, rfl, by omega, rfl⟩
  case round =>
    obtain ⟨j, hj, rfl, hgj, rfl⟩ := hrel
    have hsz := xs_size j
    by_cases hjl : j < 301
    · have e1 := xs_step j
      have hj2 : (j : Int) ≤ 300 := by omega
      go_wp2_with fail
      go_roundg (302 - (j + 1))
      case measure => omega
      case rel => exact ⟨j + 1, by omega, rfl, rfl, rfl⟩
    · have hje : j = 301 := by omega
      subst hje
      clear hj hgj hjl
      obtain ⟨lg, hlg⟩ : ∃ lg, lg = B (xs 301) := ⟨_, rfl⟩
      have hz : 300 < lg.size := by rw [hlg, xs_size]; decide
      rw [← hlg]
      rw [← hlg] at hsz
      have HLG := hid hlg
      have HZ := hid hz
      clear hz hlg
      go_wp2_with fail
      have gA : Gn wr ((wr.alloc (.cells #[.string (B [120])] 9)).alloc (.cells #[.string (lg)] 9)) := Gn.of ((World.grownBy_alloc _ _ _).trans (World.grownBy_alloc _ _ _))
      have S0 := hid (S0.out.gn gA)
      have G0 := hid (G0.out.trans gA)
      clear gA
      refine (pinf_xl _ _ (xs 301) (by decide) (by decide) _ (SRow.one (by rw [Below.heap_alloc _ _ _ (by simp)]; exact heap_alloc_new _ _)) (SRow.one (by rw [← HLG.out]; exact heap_alloc_at _ _ _ (by simp))) ad cs ts S0.out).mono ?_
      rintro e v1 ⟨g, r1, rfl⟩
      have B1 := hid (heap_alloc_new v1 (.cells #[.int .i64 5, .int .i64 0, .string (B [120]), .int .i64 1, .int .i64 0] 23))
      have S1 := hid ((S0.out.gn g).gn (Gn.of (World.grownBy_alloc v1 (.cells #[.int .i64 5, .int .i64 0, .string (B [120]), .int .i64 1, .int .i64 0] 23) none)))
      have G1 := hid (onto (o := (.cells #[.int .i64 5, .int .i64 0, .string (B [120]), .int .i64 1, .int .i64 0] 23)) G0.out g)
      clear g S0 G0
      unfold fe
      obtain ⟨⟨p10, p11, p12, p13, p14⟩, _⟩ := five_c B1.out
      clear B1 S1
      have tS : (B [120]).toList = [120] := toList_B _
      have tS2 : ({ data := #[120] } : ByteArray).toList = [120] := toList_B [120]
      go_wp2
      go_ret
      exact ⟨rfl, G1.out⟩
end Go.Proofs.YtcdijppegfcoaabGreatDoor

/-
  OUR OWN TEXT (written by mkfao.py). Refuses: case 5.
-/
namespace Go.Proofs.YtcdijppegfcoaabGreatDoor
open Go.RowKit

set_option maxRecDepth 100000 in
set_option maxHeartbeats 2000000 in
theorem refuses_5 (k : Int) (hp : ∀ w, Calls Tryz.prog 11 #[.int .i64 k, .int .i64 63] w fun e w' => e = .returned (.int .i64 60) ∧ w' = w) (w : World) (ad : Nat → Addr) (cs : Nat → Array Value) (ts : Nat → TypeId) (S : SW w ad cs ts) :
    Calls Tryz.prog 7 #[.int .i64 k] w fun e w' => e = .returned (.bool true) ∧ Gn w w' := by
  have HF := hid (faults_p w)
  have HP := hid hp
  have HS := hid S
  have tB : (B []).toList = [] := toList_B []
  clear S hp
  go_enter Tryz.func7, Tryz.ntmps7
  go_wp2_with fail
  refine HF.out.mono ?_
  rintro e w1 ⟨g1, b, rfl, hb, hat⟩
  have G0 := hid (Gn.of g1)
  have S0 := hid (HS.out.grown g1)
  clear g1 hb hat HF HS
  go_wp2_with fail
  refine (HP.out _).mono ?_
  rintro e w2 ⟨rfl, rfl⟩
  clear HP
  go_wp2_with fail
  go_loopg [9] 302 (fun gh x wi => ∃ j : Nat, j ≤ 301 ∧ x = .string (B (xs j)) ∧ gh = 302 - j ∧ wi = w2)
  case atStart => exact ⟨0, by omega, rfl, by omega, rfl⟩
  case round =>
    obtain ⟨j, hj, rfl, hgj, rfl⟩ := hrel
    have hsz := xs_size j
    by_cases hjl : j < 301
    · have e1 := xs_step j
      have hj2 : (j : Int) ≤ 300 := by omega
      go_wp2_with fail
      go_roundg (302 - (j + 1))
      case measure => omega
      case rel => exact ⟨j + 1, by omega, rfl, rfl, rfl⟩
    · have hje : j = 301 := by omega
      subst hje
      clear hj hgj hjl
      obtain ⟨lg, hlg⟩ : ∃ lg, lg = B (xs 301) := ⟨_, rfl⟩
      have hz : 300 < lg.size := by rw [hlg, xs_size]; decide
      rw [← hlg]
      rw [← hlg] at hsz
      have HLG := hid hlg
      have HZ := hid hz
      clear hz hlg
      go_wp2_with fail
      refine (pi_no _ _ (by decide) (by decide) _ in_1 _ ad cs ts S0.out).mono ?_
      rintro e v1 ⟨rfl, g⟩
      have B1 := hid (heap_alloc_new v1 (.cells #[.int .i64 11, .int .i64 0, .string (B []), .int .i64 0, .int .i64 0] 23))
      have S1 := hid ((S0.out.gn g).gn (Gn.of (World.grownBy_alloc v1 (.cells #[.int .i64 11, .int .i64 0, .string (B []), .int .i64 0, .int .i64 0] 23) none)))
      have G1 := hid (onto (o := (.cells #[.int .i64 11, .int .i64 0, .string (B []), .int .i64 0, .int .i64 0] 23)) G0.out g)
      clear g S0 G0
      unfold fv
      go_wp2_with fail
      refine (pi_no _ _ (by decide) (by decide) _ in_2 _ ad cs ts S1.out).mono ?_
      rintro e v2 ⟨rfl, g⟩
      have B1 := hid (carry (o' := (.cells #[.int .i64 11, .int .i64 0, .string (B []), .int .i64 0, .int .i64 0] 23)) B1.out g)
      have B2 := hid (heap_alloc_new v2 (.cells #[.int .i64 11, .int .i64 0, .string (B []), .int .i64 0, .int .i64 0] 23))
      have S2 := hid ((S1.out.gn g).gn (Gn.of (World.grownBy_alloc v2 (.cells #[.int .i64 11, .int .i64 0, .string (B []), .int .i64 0, .int .i64 0] 23) none)))
      have G2 := hid (onto (o := (.cells #[.int .i64 11, .int .i64 0, .string (B []), .int .i64 0, .int .i64 0] 23)) G1.out g)
      clear g S1 G1
      unfold fv
      go_wp2_with fail
      refine (pi_no _ _ (by decide) (by decide) _ in_3 _ ad cs ts S2.out).mono ?_
      rintro e v3 ⟨rfl, g⟩
      have B1 := hid (carry (o' := (.cells #[.int .i64 11, .int .i64 0, .string (B []), .int .i64 0, .int .i64 0] 23)) B1.out g)
      have B2 := hid (carry (o' := (.cells #[.int .i64 11, .int .i64 0, .string (B []), .int .i64 0, .int .i64 0] 23)) B2.out g)
      have B3 := hid (heap_alloc_new v3 (.cells #[.int .i64 11, .int .i64 0, .string (B []), .int .i64 0, .int .i64 0] 23))
      have S3 := hid ((S2.out.gn g).gn (Gn.of (World.grownBy_alloc v3 (.cells #[.int .i64 11, .int .i64 0, .string (B []), .int .i64 0, .int .i64 0] 23) none)))
      have G3 := hid (onto (o := (.cells #[.int .i64 11, .int .i64 0, .string (B []), .int .i64 0, .int .i64 0] 23)) G2.out g)
      clear g S2 G2
      unfold fv
      obtain ⟨⟨p10, p11, p12, p13, p14⟩, _⟩ := five_c B1.out
      obtain ⟨⟨p20, p21, p22, p23, p24⟩, _⟩ := five_c B2.out
      obtain ⟨⟨p30, p31, p32, p33, p34⟩, _⟩ := five_c B3.out
      clear B1 B2 B3 S3
      go_wp2
      go_ret
      exact ⟨rfl, G3.out⟩
end Go.Proofs.YtcdijppegfcoaabGreatDoor

/-
  OUR OWN TEXT (written by mkfao.py). Refuses: case 6.
-/
namespace Go.Proofs.YtcdijppegfcoaabGreatDoor
open Go.RowKit

theorem carry_c {w w' : World} {b i : Nat} {v : Value} {o' : Obj} (h : w.cell? ⟨b, i, none⟩ = some v) (hb : b < w.heap.size) (g : Gn w w') : (w'.alloc o').cell? ⟨b, i, none⟩ = some v := by
  rw [World.cell?_of_block (a := ⟨b, i, none⟩) (Below.heap_alloc _ _ _ (Nat.lt_of_lt_of_le hb g.size)), World.cell?_of_block (a := ⟨b, i, none⟩) (g.block b hb)]
  exact h
theorem pi_4 (w : World) (ad : Nat → Addr) (cs : Nat → Array Value) (ts : Nat → TypeId) (S : SW w ad cs ts) : Calls Tryz.prog 9 #[.string (B [97, 32, 45, 62, 32, 98, 32, 45, 62, 32, 91, 97, 93]), .string (B [40, 120, 44, 32, 121, 41, 32, 45, 62, 32, 105, 110, 116, 32, 45, 62, 32, 91, 40, 120, 44, 32, 121, 41, 93])] w fun e w' => PIO w w' e [[97], [98]] [[40, 120, 44, 32, 121, 41], [105, 110, 116]] := by
  have h := pi_yes _ _ (by decide) (by decide) _ _ in_4 w ad cs ts S
  rw [sort_ab] at h
  exact h
theorem pi_5 (w : World) (ad : Nat → Addr) (cs : Nat → Array Value) (ts : Nat → TypeId) (S : SW w ad cs ts) : Calls Tryz.prog 9 #[.string (B [105, 110, 116]), .string (B [105, 110, 116])] w fun e w' => PIO w w' e [] [] := by
  have h := pi_yes _ _ (by decide) (by decide) _ _ in_5 w ad cs ts S
  rw [sort_nil] at h
  exact h
set_option maxRecDepth 100000 in
set_option maxHeartbeats 2000000 in
theorem refuses_6 (k : Int) (hp : ∀ w, Calls Tryz.prog 11 #[.int .i64 k, .int .i64 63] w fun e w' => e = .returned (.int .i64 61) ∧ w' = w) (w : World) (ad : Nat → Addr) (cs : Nat → Array Value) (ts : Nat → TypeId) (S : SW w ad cs ts) :
    Calls Tryz.prog 7 #[.int .i64 k] w fun e w' => e = .returned (.bool true) ∧ Gn w w' := by
  have HF := hid (faults_p w)
  have HP := hid hp
  have HS := hid S
  have tB : (B []).toList = [] := toList_B []
  clear S hp
  go_enter Tryz.func7, Tryz.ntmps7
  go_wp2_with fail
  refine HF.out.mono ?_
  rintro e w1 ⟨g1, b, rfl, hb, hat⟩
  have G0 := hid (Gn.of g1)
  have S0 := hid (HS.out.grown g1)
  clear g1 hb hat HF HS
  go_wp2_with fail
  refine (HP.out _).mono ?_
  rintro e w2 ⟨rfl, rfl⟩
  clear HP
  go_wp2_with fail
  go_loopg [9] 302 (fun gh x wi => ∃ j : Nat, j ≤ 301 ∧ x = .string (B (xs j)) ∧ gh = 302 - j ∧ wi = w2)
  case atStart => exact ⟨0, by omega, rfl, by omega, rfl⟩
  case round =>
    obtain ⟨j, hj, rfl, hgj, rfl⟩ := hrel
    have hsz := xs_size j
    by_cases hjl : j < 301
    · have e1 := xs_step j
      have hj2 : (j : Int) ≤ 300 := by omega
      go_wp2_with fail
      go_roundg (302 - (j + 1))
      case measure => omega
      case rel => exact ⟨j + 1, by omega, rfl, rfl, rfl⟩
    · have hje : j = 301 := by omega
      subst hje
      clear hj hgj hjl
      obtain ⟨lg, hlg⟩ : ∃ lg, lg = B (xs 301) := ⟨_, rfl⟩
      have hz : 300 < lg.size := by rw [hlg, xs_size]; decide
      rw [← hlg]
      rw [← hlg] at hsz
      have HLG := hid hlg
      have HZ := hid hz
      clear hz hlg
      go_wp2_with fail
      refine (pi_4 _ ad cs ts S0.out).mono ?_
      rintro e v1 ⟨g, vn, vt, rfl, hr1, hr2⟩
      obtain ⟨an, cn, rfl, hv1⟩ := own_view hr1
      obtain ⟨at1, ct, rfl, hv2⟩ := own_view hr2
      obtain ⟨gn, rfl, _, hgn, m0⟩ := hv1 0 (by decide)
      obtain ⟨gt, rfl, _, hgt, t0⟩ := hv2 0 (by decide)
      obtain ⟨gt1, he, _, _, t1⟩ := hv2 1 (by decide)
      cases he
      have B1 := hid (heap_alloc_new v1 (.cells #[.int .i64 0, .int .i64 0, .string (B []), .int .i64 0, .int .i64 0] 23))
      have S1 := hid ((S0.out.gn g).gn (Gn.of (World.grownBy_alloc v1 (.cells #[.int .i64 0, .int .i64 0, .string (B []), .int .i64 0, .int .i64 0] 23) none)))
      have G1 := hid (onto (o := (.cells #[.int .i64 0, .int .i64 0, .string (B []), .int .i64 0, .int .i64 0] 23)) G0.out g)
      have MT := hid (And.intro (cell_past m0 (.cells #[.int .i64 0, .int .i64 0, .string (B []), .int .i64 0, .int .i64 0] 23)) (And.intro (cell_past t0 (.cells #[.int .i64 0, .int .i64 0, .string (B []), .int .i64 0, .int .i64 0] 23)) (cell_past t1 (.cells #[.int .i64 0, .int .i64 0, .string (B []), .int .i64 0, .int .i64 0] 23))))
      have hgn1 : gn < (v1.alloc (.cells #[.int .i64 0, .int .i64 0, .string (B []), .int .i64 0, .int .i64 0] 23)).heap.size := by simp; omega
      have hgt1 : gt < (v1.alloc (.cells #[.int .i64 0, .int .i64 0, .string (B []), .int .i64 0, .int .i64 0] 23)).heap.size := by simp; omega
      clear g S0 G0 hr1 hr2 hv1 hv2 m0 t0 t1 hgn hgt
      unfold fv
      go_wp2_with fail
      refine (pi_5 _ ad cs ts S1.out).mono ?_
      rintro e v2 ⟨g, wn, wt, rfl, hr1, hr2⟩
      obtain ⟨an2, cn2, rfl, -⟩ := own_view hr1
      obtain ⟨at2, ct2, rfl, -⟩ := own_view hr2
      have B1 := hid (carry (o' := (.cells #[.int .i64 0, .int .i64 0, .string (B []), .int .i64 0, .int .i64 0] 23)) B1.out g)
      have B2 := hid (heap_alloc_new v2 (.cells #[.int .i64 0, .int .i64 0, .string (B []), .int .i64 0, .int .i64 0] 23))
      have m0 := carry_c (o' := (.cells #[.int .i64 0, .int .i64 0, .string (B []), .int .i64 0, .int .i64 0] 23)) MT.out.1 hgn1 g
      have t0 := carry_c (o' := (.cells #[.int .i64 0, .int .i64 0, .string (B []), .int .i64 0, .int .i64 0] 23)) MT.out.2.1 hgt1 g
      have t1 := carry_c (o' := (.cells #[.int .i64 0, .int .i64 0, .string (B []), .int .i64 0, .int .i64 0] 23)) MT.out.2.2 hgt1 g
      have G2 := hid (onto (o := (.cells #[.int .i64 0, .int .i64 0, .string (B []), .int .i64 0, .int .i64 0] 23)) G1.out g)
      clear g S1 G1 hr1 hr2 MT hgn1 hgt1
      obtain ⟨⟨p10, p11, p12, p13, p14⟩, _⟩ := five_c B1.out
      obtain ⟨⟨p20, p21, p22, p23, p24⟩, _⟩ := five_c B2.out
      clear B1 B2
      have ta0 : (B [97]).toList = [97] := toList_B _
      have tb0 : ({ data := #[97] } : ByteArray).toList = [97] := toList_B [97]
      have ta1 : (B [40, 120, 44, 32, 121, 41]).toList = [40, 120, 44, 32, 121, 41] := toList_B _
      have tb1 : ({ data := #[40, 120, 44, 32, 121, 41] } : ByteArray).toList = [40, 120, 44, 32, 121, 41] := toList_B [40, 120, 44, 32, 121, 41]
      have ta2 : (B [105, 110, 116]).toList = [105, 110, 116] := toList_B _
      have tb2 : ({ data := #[105, 110, 116] } : ByteArray).toList = [105, 110, 116] := toList_B [105, 110, 116]
      rw [show [([97] : List UInt8), [98]].getD 0 [] = [97] from rfl] at m0
      rw [show [([40, 120, 44, 32, 121, 41] : List UInt8), [105, 110, 116]].getD 0 [] = [40, 120, 44, 32, 121, 41] from rfl] at t0
      rw [show [([40, 120, 44, 32, 121, 41] : List UInt8), [105, 110, 116]].getD 1 [] = [105, 110, 116] from rfl] at t1
      unfold fv
      go_wp2
      go_ret
      exact ⟨rfl, G2.out⟩
end Go.Proofs.YtcdijppegfcoaabGreatDoor

/-
  OUR OWN TEXT (written by mkfao.py). Refuses: case 7.
-/
namespace Go.Proofs.YtcdijppegfcoaabGreatDoor
open Go.RowKit

set_option maxRecDepth 100000 in
set_option maxHeartbeats 2000000 in
theorem refuses_7 (k : Int) (hp : ∀ w, Calls Tryz.prog 11 #[.int .i64 k, .int .i64 63] w fun e w' => e = .returned (.int .i64 62) ∧ w' = w) (w : World) (ad : Nat → Addr) (cs : Nat → Array Value) (ts : Nat → TypeId) (S : SW w ad cs ts) :
    Calls Tryz.prog 7 #[.int .i64 k] w fun e w' => e = .returned (.bool true) ∧ Gn w w' := by
  have HF := hid (faults_p w)
  have HP := hid hp
  have HS := hid S
  have tB : (B []).toList = [] := toList_B []
  clear S hp
  go_enter Tryz.func7, Tryz.ntmps7
  go_wp2_with fail
  refine HF.out.mono ?_
  rintro e w1 ⟨g1, b, rfl, hb, hat⟩
  have G0 := hid (Gn.of g1)
  have S0 := hid (HS.out.grown g1)
  clear g1 hb hat HF HS
  go_wp2_with fail
  refine (HP.out _).mono ?_
  rintro e w2 ⟨rfl, rfl⟩
  clear HP
  go_wp2_with fail
  go_loopg [9] 302 (fun gh x wi => ∃ j : Nat, j ≤ 301 ∧ x = .string (B (xs j)) ∧ gh = 302 - j ∧ wi = w2)
  case atStart => exact ⟨0, by omega, rfl, by omega, rfl⟩
  case round =>
    obtain ⟨j, hj, rfl, hgj, rfl⟩ := hrel
    have hsz := xs_size j
    by_cases hjl : j < 301
    · have e1 := xs_step j
      have hj2 : (j : Int) ≤ 300 := by omega
      go_wp2_with fail
      go_roundg (302 - (j + 1))
      case measure => omega
      case rel => exact ⟨j + 1, by omega, rfl, rfl, rfl⟩
    · have hje : j = 301 := by omega
      subst hje
      clear hj hgj hjl
      obtain ⟨lg, hlg⟩ : ∃ lg, lg = B (xs 301) := ⟨_, rfl⟩
      have hz : 300 < lg.size := by rw [hlg, xs_size]; decide
      rw [← hlg]
      rw [← hlg] at hsz
      have HLG := hid hlg
      have HZ := hid hz
      clear hz hlg
      go_wp2_with fail
      refine (pi_open _ ad cs ts S0.out).mono ?_
      rintro e v1 ⟨rfl, g⟩
      have B1 := hid (heap_alloc_new v1 (.cells #[.int .i64 2, .int .i64 1, .string (B []), .int .i64 0, .int .i64 0] 23))
      have S1 := hid ((S0.out.gn g).gn (Gn.of (World.grownBy_alloc v1 (.cells #[.int .i64 2, .int .i64 1, .string (B []), .int .i64 0, .int .i64 0] 23) none)))
      have G1 := hid (onto (o := (.cells #[.int .i64 2, .int .i64 1, .string (B []), .int .i64 0, .int .i64 0] 23)) G0.out g)
      clear g S0 G0
      unfold fv
      go_wp2_with fail
      refine (pi_shut _ ad cs ts S1.out).mono ?_
      rintro e v2 ⟨rfl, g⟩
      have B1 := hid (carry (o' := (.cells #[.int .i64 2, .int .i64 0, .string (B []), .int .i64 0, .int .i64 0] 23)) B1.out g)
      have B2 := hid (heap_alloc_new v2 (.cells #[.int .i64 2, .int .i64 0, .string (B []), .int .i64 0, .int .i64 0] 23))
      have S2 := hid ((S1.out.gn g).gn (Gn.of (World.grownBy_alloc v2 (.cells #[.int .i64 2, .int .i64 0, .string (B []), .int .i64 0, .int .i64 0] 23) none)))
      have G2 := hid (onto (o := (.cells #[.int .i64 2, .int .i64 0, .string (B []), .int .i64 0, .int .i64 0] 23)) G1.out g)
      clear g S1 G1
      unfold fv
      obtain ⟨⟨p10, p11, p12, p13, p14⟩, _⟩ := five_c B1.out
      obtain ⟨⟨p20, p21, p22, p23, p24⟩, _⟩ := five_c B2.out
      clear B1 B2 S2
      go_wp2
      go_ret
      exact ⟨rfl, G2.out⟩
end Go.Proofs.YtcdijppegfcoaabGreatDoor

/-
  OUR OWN TEXT. The law Refuses, of any number.
-/
namespace Go.Proofs.YtcdijppegfcoaabGreatDoor
open Go.RowKit

theorem int_range {n : Int} (h : (Lit.int .i64 n).wf = true) : -9223372036854775808 ≤ n ∧ n ≤ 9223372036854775807 := by
  simp only [Lit.wf, Bool.and_eq_true, decide_eq_true_eq] at h
  exact ⟨h.1, h.2⟩
theorem refuses_any (k : Int) (h1 : -9223372036854775808 ≤ k) (h2 : k ≤ 9223372036854775807) (w : World) (ad : Nat → Addr) (cs : Nat → Array Value) (ts : Nat → TypeId) (S : SW w ad cs ts) :
    Calls Tryz.prog 7 #[.int .i64 k] w fun e w' => e = .returned (.bool true) ∧ Gn w w' := by
  obtain ⟨n, hn, hp⟩ := pick_ex k h1 h2
  by_cases h : n < 55
  · exact refuses_lt k n h hp w ad cs ts S
  · have h8 : n = 55 ∨ n = 56 ∨ n = 57 ∨ n = 58 ∨ n = 59 ∨ n = 60 ∨ n = 61 ∨ n = 62 := by omega
    rcases h8 with rfl | rfl | rfl | rfl | rfl | rfl | rfl | rfl
    · exact refuses_0 k hp w ad cs ts S
    · exact refuses_1 k hp w ad cs ts S
    · exact refuses_2 k hp w ad cs ts S
    · exact refuses_3 k hp w ad cs ts S
    · exact refuses_4 k hp w ad cs ts S
    · exact refuses_5 k hp w ad cs ts S
    · exact refuses_6 k hp w ad cs ts S
    · exact refuses_7 k hp w ad cs ts S
end Go.Proofs.YtcdijppegfcoaabGreatDoor
