/-
  OUR OWN TEXT. The program's tokens: measure, Next.
-/
import Derived.Test.YtcdijppegfcoaabGreatDoorPRun
import Derived.Lib.Bytealg
namespace Go.Proofs.YtcdijppegfcoaabGreatDoor
open Go.RowKit

theorem prefix_any (s : ByteArray) (hs : s.size ≤ 300) (w : World) : Calls Tryz.prog 189 #[.string s, .string (B kArrow)] w fun e w' => e = .returned (.bool (decide (2 ≤ s.size) && (s.data.toList.take 2 == kArrow))) ∧ w' = w := by
  by_cases h : 2 ≤ s.size
  · have h2 : (2 : Int) ≤ (s.size : Int) := by omega
    go_enter Tryz.func189, Tryz.ntmps189
    go_wp2
    go_ret
    refine ⟨?_, rfl⟩
    have e1 : (s.extract 0 (B kArrow).size).toList = s.data.toList.take 2 := by
      rw [ext_cut, toList_B]
      simp [cut, B, kArrow, ByteArray.size]
    show Ending.returned (.bool ((s.extract 0 (B kArrow).size).toList == (B kArrow).toList)) = _
    rw [e1, toList_B]
    simp [h]
  · have h2 : ¬ (2 : Int) ≤ (s.size : Int) := by omega
    go_enter Tryz.func189, Tryz.ntmps189
    go_wp2
    go_ret
    exact ⟨rfl, rfl⟩
set_option maxRecDepth 100000 in
theorem ixb_any (s : ByteArray) (c : Int) (w : World) : Calls Tryz.prog 190 #[.string s, .int .u8 c] w fun e w' => e = .returned (.int .i64 (Lib.indexByte s.data.toList c.toNat.toUInt8)) ∧ w' = w := by
  go_enter Tryz.func190, Tryz.ntmps190
  go_wp2
  rw [run_callFunc_extern Tryz.func198 (by kernel_rfl) (by kernel_rfl) (by kernel_rfl) (e := Extern.BytealgIndexByte.indexByte) (by kernel_rfl), Lib.run_indexByteString]
  simp only [Result.andThen]
  rw [Oper.upon_value]
  go_wp2
  go_ret
  exact ⟨rfl, rfl⟩
theorem ix_mem (c : UInt8) : ∀ l : List UInt8, (0 : Int) ≤ Lib.indexByte l c ↔ c ∈ l
  | [] => by simp [Lib.indexByte]
  | b :: l => by
    have ih := ix_mem c l
    have hg := Lib.indexByte_ge l c
    simp only [Lib.indexByte, List.mem_cons]
    by_cases h : b = c
    · simp [h]
    · have h' : (b == c) = false := by simp [h]
      have h2 : ¬ c = b := fun e => h e.symm
      rw [h']
      simp only [Bool.false_eq_true, if_false, h2, false_or]
      rw [← ih]
      by_cases h3 : Lib.indexByte l c = -1
      · simp [h3]
      · have h4 : (Lib.indexByte l c == -1) = false := by simp [h3]
        rw [h4]
        simp only [Bool.false_eq_true, if_false]
        omega
theorem take_arrow (s : ByteArray) (h0 : 0 < s.size) : (decide (2 ≤ s.size) && (s.data.toList.take 2 == kArrow)) = true ↔ ∃ h1 : 1 < s.size, s[0] = 45 ∧ s[1] = 62 := by
  have hc0 : s.data.toList[0]? = some s[0] := byteAt s 0 h0
  constructor
  · intro h
    simp only [Bool.and_eq_true, decide_eq_true_eq, beq_iff_eq] at h
    have h1 : 1 < s.size := by omega
    have hc1 : s.data.toList[1]? = some s[1] := byteAt s 1 h1
    refine ⟨h1, ?_, ?_⟩
    · have := congrArg (fun l => l[0]?) h.2
      simp only [List.getElem?_take] at this
      rw [if_pos (by omega), hc0] at this
      simpa [kArrow] using this
    · have := congrArg (fun l => l[1]?) h.2
      simp only [List.getElem?_take] at this
      rw [if_pos (by omega), hc1] at this
      simpa [kArrow] using this
  · rintro ⟨h1, e0, e1⟩
    have hc1 : s.data.toList[1]? = some s[1] := byteAt s 1 h1
    simp only [Bool.and_eq_true, decide_eq_true_eq, beq_iff_eq]
    refine ⟨by omega, ?_⟩
    refine List.ext_getElem? fun i => ?_
    rw [List.getElem?_take]
    match i with
    | 0 => rw [if_pos (by omega), hc0, e0]; rfl
    | 1 => rw [if_pos (by omega), hc1, e1]; rfl
    | i + 2 => rw [if_neg (by omega)]; rfl
theorem toUInt8_back (c : UInt8) : ((c.toNat : Int).toNat).toUInt8 = c := by
  simp
set_option maxRecDepth 100000 in
theorem measure_any (s : ByteArray) (h0 : 0 < s.size) (hs : s.size ≤ 300) (w : World) : Calls Tryz.prog 124 #[.string s] w fun e w' => e = .returned (.tuple #[.int .i64 ((nxK s.data.toList 0 : Nat) : Int), .int .i64 (((nxT s.data.toList 0).length : Nat) : Int)]) ∧ w' = w := by
  have hsl : s.data.toList.length = s.size := by rw [Array.length_toList]; rfl
  cases hl : low s[0] with
  | true =>
    have hr := raw_name s 0 h0 hl
    have hu := upto_le lowfig s.data.toList 0 (by omega)
    have e1 : upto lowfig s.data.toList 0 = run lowfig s.data.toList := by simp [upto]
    rw [e1] at hr hu
    have cl := cut_size s.data.toList 0 (run lowfig s.data.toList) (by omega) (by omega)
    by_cases hb : 8 < run lowfig s.data.toList
    · have k : nxK s.data.toList 0 = 1 := by simp [nxK, hr, kEnd, kName]; omega
      have t : nxT s.data.toList 0 = [] := by simp [nxT, k]
      have hb2 : (8 : Int) < ((run lowfig s.data.toList : Nat) : Int) := by omega
      rw [k, t]
      go_enter Tryz.func124, Tryz.ntmps124
      go_wp2_with (first | (go_at_call 161; refine (letter_is _ _).mono ?_; rintro e w' ⟨rfl, rfl⟩; rw [hl]) | (go_at_call 122; refine (run_letdig _ hs _).mono ?_; rintro e w' ⟨rfl, rfl⟩) | go_in)
      go_ret2
      exact ⟨rfl, rfl⟩
    · have k : nxK s.data.toList 0 = 2 := by simp [nxK, hr, kEnd, kName]; omega
      have t : (nxT s.data.toList 0).length = run lowfig s.data.toList := by simp [nxT, k, hr, cl]
      have hb2 : ¬ (8 : Int) < ((run lowfig s.data.toList : Nat) : Int) := by omega
      rw [k, t]
      go_enter Tryz.func124, Tryz.ntmps124
      go_wp2_with (first | (go_at_call 161; refine (letter_is _ _).mono ?_; rintro e w' ⟨rfl, rfl⟩; rw [hl]) | (go_at_call 122; refine (run_letdig _ hs _).mono ?_; rintro e w' ⟨rfl, rfl⟩) | go_in)
      go_ret2
      exact ⟨rfl, rfl⟩
  | false =>
    cases hf : fig s[0] with
    | true =>
      have hr := raw_num s 0 h0 hl hf
      have hu := upto_le fig s.data.toList 0 (by omega)
      have e1 : upto fig s.data.toList 0 = run fig s.data.toList := by simp [upto]
      rw [e1] at hr hu
      have cl := cut_size s.data.toList 0 (run fig s.data.toList) (by omega) (by omega)
      by_cases hb : 8 < run fig s.data.toList
      · have k : nxK s.data.toList 0 = 1 := by simp [nxK, hr, kEnd, kName, kNum]; omega
        have t : nxT s.data.toList 0 = [] := by simp [nxT, k]
        have hb2 : (8 : Int) < ((run fig s.data.toList : Nat) : Int) := by omega
        rw [k, t]
        go_enter Tryz.func124, Tryz.ntmps124
        go_wp2_with (first | (go_at_call 161; refine (letter_is _ _).mono ?_; rintro e w' ⟨rfl, rfl⟩; rw [hl]) | (go_at_call 164; refine (digit_is _ _).mono ?_; rintro e w' ⟨rfl, rfl⟩; rw [hf]) | (go_at_call 122; refine (run_digit _ hs _).mono ?_; rintro e w' ⟨rfl, rfl⟩) | go_in)
        go_ret2
        exact ⟨rfl, rfl⟩
      · have k : nxK s.data.toList 0 = 3 := by simp [nxK, hr, kEnd, kName, kNum]; omega
        have t : (nxT s.data.toList 0).length = run fig s.data.toList := by simp [nxT, k, hr, cl]
        have hb2 : ¬ (8 : Int) < ((run fig s.data.toList : Nat) : Int) := by omega
        rw [k, t]
        go_enter Tryz.func124, Tryz.ntmps124
        go_wp2_with (first | (go_at_call 161; refine (letter_is _ _).mono ?_; rintro e w' ⟨rfl, rfl⟩; rw [hl]) | (go_at_call 164; refine (digit_is _ _).mono ?_; rintro e w' ⟨rfl, rfl⟩; rw [hf]) | (go_at_call 122; refine (run_digit _ hs _).mono ?_; rintro e w' ⟨rfl, rfl⟩) | go_in)
        go_ret2
        exact ⟨rfl, rfl⟩
    | false =>
      by_cases ha : (decide (2 ≤ s.size) && (s.data.toList.take 2 == kArrow)) = true
      · have hr : raw s.data.toList 0 = (kArrow, 2) := by
          obtain ⟨h1, e0, e1⟩ := (take_arrow s h0).1 ha
          exact raw_arrow s 0 h0 h1 hl hf e0 e1
        have k : nxK s.data.toList 0 = 4 := by simp [nxK, hr, kEnd, kName, kNum, kNone, kArrow]
        have cl := cut_size s.data.toList 0 2 (by omega) (by obtain ⟨h1, _⟩ := (take_arrow s h0).1 ha; omega)
        have t : (nxT s.data.toList 0).length = 2 := by simp [nxT, k, hr, cl]
        rw [k, t]
        go_enter Tryz.func124, Tryz.ntmps124
        go_wp2_with (first | (go_at_call 161; refine (letter_is _ _).mono ?_; rintro e w' ⟨rfl, rfl⟩; rw [hl]) | (go_at_call 164; refine (digit_is _ _).mono ?_; rintro e w' ⟨rfl, rfl⟩; rw [hf]) | (go_at_call 189; refine (prefix_any _ hs _).mono ?_; rintro e w' ⟨rfl, rfl⟩; rw [ha]) | go_in)
        go_ret2
        exact ⟨rfl, rfl⟩
      · have ha' : (decide (2 ≤ s.size) && (s.data.toList.take 2 == kArrow)) = false := by simpa using ha
        have hro := raw_other s 0 h0 hl hf (fun e0 h1 e1 => ha ((take_arrow s h0).2 ⟨h1, e0, e1⟩))
        by_cases hg : s[0] ∈ signs
        · have hr : raw s.data.toList 0 = ([s[0]], 1) := by
            rw [hro, if_pos hg]
          obtain ⟨m1, m2, m3, m4, m5, m6, m7, m8⟩ := sgn_mem s[0] hg
          have k : nxK s.data.toList 0 = 4 := by simp [nxK, hr, m4, m5, m6, m7]
          have cl := cut_size s.data.toList 0 1 (by omega) (by omega)
          have t : (nxT s.data.toList 0).length = 1 := by simp [nxT, k, hr, cl]
          have hx : (0 : Int) ≤ Lib.indexByte [61, 40, 41, 44, 91, 93] s[0] := (ix_mem s[0] signs).2 hg
          rw [k, t]
          go_enter Tryz.func124, Tryz.ntmps124
          go_wp2_with (first | (go_at_call 161; refine (letter_is _ _).mono ?_; rintro e w' ⟨rfl, rfl⟩; rw [hl]) | (go_at_call 164; refine (digit_is _ _).mono ?_; rintro e w' ⟨rfl, rfl⟩; rw [hf]) | (go_at_call 189; refine (prefix_any _ hs _).mono ?_; rintro e w' ⟨rfl, rfl⟩; rw [ha']) | (go_at_call 190; refine (ixb_any _ _ _).mono ?_; rintro e w' ⟨rfl, rfl⟩; rw [toUInt8_back]) | go_in)
          go_ret2
          exact ⟨rfl, rfl⟩
        · have hr : raw s.data.toList 0 = (kNone, 0) := by
            rw [hro, if_neg hg]
          have k : nxK s.data.toList 0 = 1 := by simp [nxK, hr, kEnd, kName, kNum, kNone]
          have t : nxT s.data.toList 0 = [] := by simp [nxT, k]
          have hx : ¬ (0 : Int) ≤ Lib.indexByte [61, 40, 41, 44, 91, 93] s[0] := fun h => hg ((ix_mem s[0] signs).1 h)
          rw [k, t]
          go_enter Tryz.func124, Tryz.ntmps124
          go_wp2_with (first | (go_at_call 161; refine (letter_is _ _).mono ?_; rintro e w' ⟨rfl, rfl⟩; rw [hl]) | (go_at_call 164; refine (digit_is _ _).mono ?_; rintro e w' ⟨rfl, rfl⟩; rw [hf]) | (go_at_call 189; refine (prefix_any _ hs _).mono ?_; rintro e w' ⟨rfl, rfl⟩; rw [ha']) | (go_at_call 190; refine (ixb_any _ _ _).mono ?_; rintro e w' ⟨rfl, rfl⟩; rw [toUInt8_back]) | go_in)
          go_ret2
          exact ⟨rfl, rfl⟩
end Go.Proofs.YtcdijppegfcoaabGreatDoor
