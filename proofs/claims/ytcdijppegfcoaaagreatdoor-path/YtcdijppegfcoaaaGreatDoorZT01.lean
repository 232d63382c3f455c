import Derived.Test.YtcdijppegfcoaaaGreatDoorZT00
import Derived.Lib.Bytealg
import Derived.Test.YtcdijppegfcoaaaGreatDoorChecked
import Derived.WalkSpells
import Derived.Outline
import Derived.Deep.QuietTactic
import Derived.BigQuiet
import Derived.Deep.RegionWith
import Derived.Deep.RegionHeld3
import Derived.Deep.RegionLaw
import Derived.Deep.AppendLies
import Derived.Deep.DeepCutAuto
import Derived.Deep.CutBlock
/-
  OUR OWN TEXT. The program's tokens: measure, Next.
-/
namespace Go.Proofs.YtcdijppegfcoaaaGreatDoor
open Go.RowKit
theorem prefix_any (s : ByteArray) (hs : s.size ≤ 300) (w : World) : Calls Tryz.prog 240 #[.string s, .string (B kArrow)] w fun e w' => e = .returned (.bool (decide (2 ≤ s.size) && (s.data.toList.take 2 == kArrow))) ∧ w' = w := by
  by_cases h : 2 ≤ s.size
  · have h2 : (2 : Int) ≤ (s.size : Int) := by omega
    go_enter Tryz.func240, Tryz.ntmps240
    go_wp2
    go_ret
    refine ⟨?_, rfl⟩
    have e1 : (s.extract 0 (B kArrow).size).toList = s.data.toList.take 2 := by
      rw [ext_cut, toList_B]
      simp [cut, B, kArrow, ByteArray.size]
    show Ending.returned (.bool ((s.extract 0 (B kArrow).size).toList == (B kArrow).toList)) = _
    rw [e1, toList_B]
    simp [h]
  · have h2 : ¬ (2 : Int) ≤ (s.size : Int) := by omega
    go_enter Tryz.func240, Tryz.ntmps240
    go_wp2
    go_ret
    exact ⟨rfl, rfl⟩
set_option maxRecDepth 100000 in
theorem ixb_any (s : ByteArray) (c : Int) (w : World) : Calls Tryz.prog 241 #[.string s, .int .u8 c] w fun e w' => e = .returned (.int .i64 (Lib.indexByte s.data.toList c.toNat.toUInt8)) ∧ w' = w := by
  go_enter Tryz.func241, Tryz.ntmps241
  go_wp2
  rw [run_callFunc_extern Tryz.func249 (by kernel_rfl) (by kernel_rfl) (by kernel_rfl) (e := Extern.BytealgIndexByte.indexByte) (by kernel_rfl), Lib.run_indexByteString]
  simp only [Result.andThen]
  rw [Oper.upon_value]
  go_wp2
  go_ret
  exact ⟨rfl, rfl⟩
theorem ix_mem (c : UInt8) : ∀ l : List UInt8, (0 : Int) ≤ Lib.indexByte l c ↔ c ∈ l
  | [] => by simp [Lib.indexByte]
  | b :: l => by
    have ih := ix_mem c l
    have hg := Lib.indexByte_ge l c
    simp only [Lib.indexByte, List.mem_cons]
    by_cases h : b = c
    · simp [h]
    · have h' : (b == c) = false := by simp [h]
      have h2 : ¬ c = b := fun e => h e.symm
      rw [h']
      simp only [Bool.false_eq_true, if_false, h2, false_or]
      rw [← ih]
      by_cases h3 : Lib.indexByte l c = -1
      · simp [h3]
      · have h4 : (Lib.indexByte l c == -1) = false := by simp [h3]
        rw [h4]
        simp only [Bool.false_eq_true, if_false]
        omega
theorem take_arrow (s : ByteArray) (h0 : 0 < s.size) : (decide (2 ≤ s.size) && (s.data.toList.take 2 == kArrow)) = true ↔ ∃ h1 : 1 < s.size, s[0] = 45 ∧ s[1] = 62 := by
  have hc0 : s.data.toList[0]? = some s[0] := byteAt s 0 h0
  constructor
  · intro h
    simp only [Bool.and_eq_true, decide_eq_true_eq, beq_iff_eq] at h
    have h1 : 1 < s.size := by omega
    have hc1 : s.data.toList[1]? = some s[1] := byteAt s 1 h1
    refine ⟨h1, ?_, ?_⟩
    · have := congrArg (fun l => l[0]?) h.2
      simp only [List.getElem?_take] at this
      rw [if_pos (by omega), hc0] at this
      simpa [kArrow] using this
    · have := congrArg (fun l => l[1]?) h.2
      simp only [List.getElem?_take] at this
      rw [if_pos (by omega), hc1] at this
      simpa [kArrow] using this
  · rintro ⟨h1, e0, e1⟩
    have hc1 : s.data.toList[1]? = some s[1] := byteAt s 1 h1
    simp only [Bool.and_eq_true, decide_eq_true_eq, beq_iff_eq]
    refine ⟨by omega, ?_⟩
    refine List.ext_getElem? fun i => ?_
    rw [List.getElem?_take]
    match i with
    | 0 => rw [if_pos (by omega), hc0, e0]; rfl
    | 1 => rw [if_pos (by omega), hc1, e1]; rfl
    | i + 2 => rw [if_neg (by omega)]; rfl
theorem toUInt8_back (c : UInt8) : ((c.toNat : Int).toNat).toUInt8 = c := by
  simp
set_option maxRecDepth 100000 in
theorem measure_any (s : ByteArray) (h0 : 0 < s.size) (hs : s.size ≤ 300) (w : World) : Calls Tryz.prog 174 #[.string s] w fun e w' => e = .returned (.tuple #[.int .i64 ((nxK s.data.toList 0 : Nat) : Int), .int .i64 (((nxT s.data.toList 0).length : Nat) : Int)]) ∧ w' = w := by
  have hsl : s.data.toList.length = s.size := by rw [Array.length_toList]; rfl
  cases hl : low s[0] with
  | true =>
    have hr := raw_name s 0 h0 hl
    have hu := upto_le lowfig s.data.toList 0 (by omega)
    have e1 : upto lowfig s.data.toList 0 = run lowfig s.data.toList := by simp [upto]
    rw [e1] at hr hu
    have cl := cut_size s.data.toList 0 (run lowfig s.data.toList) (by omega) (by omega)
    by_cases hb : 8 < run lowfig s.data.toList
    · have k : nxK s.data.toList 0 = 1 := by simp [nxK, hr, kEnd, kName]; omega
      have t : nxT s.data.toList 0 = [] := by simp [nxT, k]
      have hb2 : (8 : Int) < ((run lowfig s.data.toList : Nat) : Int) := by omega
      rw [k, t]
      go_enter Tryz.func174, Tryz.ntmps174
      go_wp2_with (first | (go_at_call 212; refine (letter_is _ _).mono ?_; rintro e w' ⟨rfl, rfl⟩; rw [hl]) | (go_at_call 172; refine (run_letdig _ hs _).mono ?_; rintro e w' ⟨rfl, rfl⟩) | go_in)
      go_ret2
      exact ⟨rfl, rfl⟩
    · have k : nxK s.data.toList 0 = 2 := by simp [nxK, hr, kEnd, kName]; omega
      have t : (nxT s.data.toList 0).length = run lowfig s.data.toList := by simp [nxT, k, hr, cl]
      have hb2 : ¬ (8 : Int) < ((run lowfig s.data.toList : Nat) : Int) := by omega
      rw [k, t]
      go_enter Tryz.func174, Tryz.ntmps174
      go_wp2_with (first | (go_at_call 212; refine (letter_is _ _).mono ?_; rintro e w' ⟨rfl, rfl⟩; rw [hl]) | (go_at_call 172; refine (run_letdig _ hs _).mono ?_; rintro e w' ⟨rfl, rfl⟩) | go_in)
      go_ret2
      exact ⟨rfl, rfl⟩
  | false =>
    cases hf : fig s[0] with
    | true =>
      have hr := raw_num s 0 h0 hl hf
      have hu := upto_le fig s.data.toList 0 (by omega)
      have e1 : upto fig s.data.toList 0 = run fig s.data.toList := by simp [upto]
      rw [e1] at hr hu
      have cl := cut_size s.data.toList 0 (run fig s.data.toList) (by omega) (by omega)
      by_cases hb : 8 < run fig s.data.toList
      · have k : nxK s.data.toList 0 = 1 := by simp [nxK, hr, kEnd, kName, kNum]; omega
        have t : nxT s.data.toList 0 = [] := by simp [nxT, k]
        have hb2 : (8 : Int) < ((run fig s.data.toList : Nat) : Int) := by omega
        rw [k, t]
        go_enter Tryz.func174, Tryz.ntmps174
        go_wp2_with (first | (go_at_call 212; refine (letter_is _ _).mono ?_; rintro e w' ⟨rfl, rfl⟩; rw [hl]) | (go_at_call 215; refine (digit_is _ _).mono ?_; rintro e w' ⟨rfl, rfl⟩; rw [hf]) | (go_at_call 172; refine (run_digit _ hs _).mono ?_; rintro e w' ⟨rfl, rfl⟩) | go_in)
        go_ret2
        exact ⟨rfl, rfl⟩
      · have k : nxK s.data.toList 0 = 3 := by simp [nxK, hr, kEnd, kName, kNum]; omega
        have t : (nxT s.data.toList 0).length = run fig s.data.toList := by simp [nxT, k, hr, cl]
        have hb2 : ¬ (8 : Int) < ((run fig s.data.toList : Nat) : Int) := by omega
        rw [k, t]
        go_enter Tryz.func174, Tryz.ntmps174
        go_wp2_with (first | (go_at_call 212; refine (letter_is _ _).mono ?_; rintro e w' ⟨rfl, rfl⟩; rw [hl]) | (go_at_call 215; refine (digit_is _ _).mono ?_; rintro e w' ⟨rfl, rfl⟩; rw [hf]) | (go_at_call 172; refine (run_digit _ hs _).mono ?_; rintro e w' ⟨rfl, rfl⟩) | go_in)
        go_ret2
        exact ⟨rfl, rfl⟩
    | false =>
      by_cases ha : (decide (2 ≤ s.size) && (s.data.toList.take 2 == kArrow)) = true
      · have hr : raw s.data.toList 0 = (kArrow, 2) := by
          obtain ⟨h1, e0, e1⟩ := (take_arrow s h0).1 ha
          exact raw_arrow s 0 h0 h1 hl hf e0 e1
        have k : nxK s.data.toList 0 = 4 := by simp [nxK, hr, kEnd, kName, kNum, kNone, kArrow]
        have cl := cut_size s.data.toList 0 2 (by omega) (by obtain ⟨h1, _⟩ := (take_arrow s h0).1 ha; omega)
        have t : (nxT s.data.toList 0).length = 2 := by simp [nxT, k, hr, cl]
        rw [k, t]
        go_enter Tryz.func174, Tryz.ntmps174
        go_wp2_with (first | (go_at_call 212; refine (letter_is _ _).mono ?_; rintro e w' ⟨rfl, rfl⟩; rw [hl]) | (go_at_call 215; refine (digit_is _ _).mono ?_; rintro e w' ⟨rfl, rfl⟩; rw [hf]) | (go_at_call 240; refine (prefix_any _ hs _).mono ?_; rintro e w' ⟨rfl, rfl⟩; rw [ha]) | go_in)
        go_ret2
        exact ⟨rfl, rfl⟩
      · have ha' : (decide (2 ≤ s.size) && (s.data.toList.take 2 == kArrow)) = false := by simpa using ha
        have hro := raw_other s 0 h0 hl hf (fun e0 h1 e1 => ha ((take_arrow s h0).2 ⟨h1, e0, e1⟩))
        by_cases hg : s[0] ∈ signs
        · have hr : raw s.data.toList 0 = ([s[0]], 1) := by
            rw [hro, if_pos hg]
          obtain ⟨m1, m2, m3, m4, m5, m6, m7, m8⟩ := sgn_mem s[0] hg
          have k : nxK s.data.toList 0 = 4 := by simp [nxK, hr, m4, m5, m6, m7]
          have cl := cut_size s.data.toList 0 1 (by omega) (by omega)
          have t : (nxT s.data.toList 0).length = 1 := by simp [nxT, k, hr, cl]
          have hx : (0 : Int) ≤ Lib.indexByte [61, 40, 41, 44, 91, 93] s[0] := (ix_mem s[0] signs).2 hg
          rw [k, t]
          go_enter Tryz.func174, Tryz.ntmps174
          go_wp2_with (first | (go_at_call 212; refine (letter_is _ _).mono ?_; rintro e w' ⟨rfl, rfl⟩; rw [hl]) | (go_at_call 215; refine (digit_is _ _).mono ?_; rintro e w' ⟨rfl, rfl⟩; rw [hf]) | (go_at_call 240; refine (prefix_any _ hs _).mono ?_; rintro e w' ⟨rfl, rfl⟩; rw [ha']) | (go_at_call 241; refine (ixb_any _ _ _).mono ?_; rintro e w' ⟨rfl, rfl⟩; rw [toUInt8_back]) | go_in)
          go_ret2
          exact ⟨rfl, rfl⟩
        · have hr : raw s.data.toList 0 = (kNone, 0) := by
            rw [hro, if_neg hg]
          have k : nxK s.data.toList 0 = 1 := by simp [nxK, hr, kEnd, kName, kNum, kNone]
          have t : nxT s.data.toList 0 = [] := by simp [nxT, k]
          have hx : ¬ (0 : Int) ≤ Lib.indexByte [61, 40, 41, 44, 91, 93] s[0] := fun h => hg ((ix_mem s[0] signs).1 h)
          rw [k, t]
          go_enter Tryz.func174, Tryz.ntmps174
          go_wp2_with (first | (go_at_call 212; refine (letter_is _ _).mono ?_; rintro e w' ⟨rfl, rfl⟩; rw [hl]) | (go_at_call 215; refine (digit_is _ _).mono ?_; rintro e w' ⟨rfl, rfl⟩; rw [hf]) | (go_at_call 240; refine (prefix_any _ hs _).mono ?_; rintro e w' ⟨rfl, rfl⟩; rw [ha']) | (go_at_call 241; refine (ixb_any _ _ _).mono ?_; rintro e w' ⟨rfl, rfl⟩; rw [toUInt8_back]) | go_in)
          go_ret2
          exact ⟨rfl, rfl⟩
end Go.Proofs.YtcdijppegfcoaaaGreatDoor

/-
  OUR OWN TEXT. The program's tokens: Next.
-/
namespace Go.Proofs.YtcdijppegfcoaaaGreatDoor
open Go.RowKit
theorem drop_list (s : ByteArray) (i : Nat) (h : i ≤ s.size) : (s.extract i s.size).data.toList = s.data.toList.drop i ∧ (s.extract i s.size).size = s.size - i := by
  have e := ext_cut s i s.size
  have hl : s.data.toList.length = s.size := by rw [Array.length_toList]; rfl
  constructor
  · rw [e]
    show cut s.data.toList i s.size = _
    unfold cut
    rw [List.take_of_length_le (by omega)]
  · rw [ByteArray.size_extract]
    omega
theorem raw_drop (l : List UInt8) (J : Nat) : raw (l.drop J) 0 = ((raw l J).1, (raw l J).2 - J) := by
  have e0 : (l.drop J)[0]? = l[J]? := by rw [List.getElem?_drop]; simp
  have e1 : (l.drop J)[0 + 1]? = l[J + 1]? := by rw [List.getElem?_drop]
  unfold raw
  rw [e0, e1]
  cases l[J]? with
  | none => simp
  | some c =>
    dsimp only
    split
    · simp [upto]
    split
    · simp [upto]
    split
    · simp
    split
    · simp
    · simp
theorem nxK_drop (l : List UInt8) (J : Nat) : nxK (l.drop J) 0 = nxK l J := by
  unfold nxK
  rw [raw_drop]
  simp
theorem nxT_drop (l : List UInt8) (J : Nat) (h : J ≤ (raw l J).2) : nxT (l.drop J) 0 = nxT l J := by
  unfold nxT
  rw [nxK_drop, raw_drop]
  split
  · rfl
  · unfold cut
    dsimp only
    rw [List.drop_zero, List.take_drop]
    congr 2
    omega

def tokV (k : Nat) (t : List UInt8) (p : Nat) : Value := .agg #[.int .i64 (k : Int), .string (B t), .int .i64 (p : Int)]

set_option maxRecDepth 100000 in
theorem next_any (s : ByteArray) (i : Nat) (hi : i ≤ s.size) (hs : s.size ≤ 300) (w : World) : Calls Tryz.prog 130 #[.string s, .int .i64 (i : Int)] w fun e w' => e = .returned (tokV (nxK s.data.toList (upto isB s.data.toList i)) (nxT s.data.toList (upto isB s.data.toList i)) (upto isB s.data.toList i)) ∧ w.grownBy w' none := by
  have hsl : s.data.toList.length = s.size := by rw [Array.length_toList]; rfl
  obtain ⟨J, hJ⟩ : ∃ J, J = upto isB s.data.toList i := ⟨_, rfl⟩
  have hJb := upto_le isB s.data.toList i (by omega)
  have hrun : run isB (s.extract i s.size).data.toList = J - i := by
    rw [(drop_list s i hi).1, hJ]
    simp [upto]
  rw [← hJ] at hJb ⊢
  rw [hsl] at hJb
  obtain ⟨hJ1, hJ2⟩ := hJb
  have hsz := (drop_list s i hi).2
  have hadd : (i : Int) + ((J - i : Nat) : Int) = (J : Int) := by omega
  have hrl := raw_le s J hJ2
  clear hJ
  by_cases he : J = s.size
  · have k : nxK s.data.toList J = 0 := by
      rw [nxK, raw_end s J (by omega)]
      simp
    have t : nxT s.data.toList J = [] := by simp [nxT, k]
    rw [k, t]
    go_enter Tryz.func130, Tryz.ntmps130
    go_wp2_with (first | (go_at_call 172; refine (run_blank _ (by omega) _).mono ?_; rintro e w' ⟨rfl, rfl⟩; rw [hrun]))
    refine bodyPost_ret (v := tokV 0 [] J) (by simp [results, Tryz.results130, go_sem]; rw [show (i : Int) + ((s.size - i : Nat) : Int) = (J : Int) from by omega]; rfl) rfl ?_
    exact ⟨rfl, World.grownBy_alloc _ _ _⟩
  · have hJ3 : J < s.size := by omega
    have hne : ((J : Int) == (s.size : Int)) = false := by simp; omega
    have dl := drop_list s J hJ2
    have hk : nxK (s.extract J s.size).data.toList 0 = nxK s.data.toList J := by rw [dl.1]; exact nxK_drop _ _
    have ht : nxT (s.extract J s.size).data.toList 0 = nxT s.data.toList J := by rw [dl.1]; exact nxT_drop _ _ hrl.1
    have hml : (nxT s.data.toList J).length ≤ s.size - J := by
      unfold nxT
      split
      · simp
      · rw [cut_size _ _ _ hrl.1 (by omega)]; omega
    have hx : s.extract J (J + (nxT s.data.toList J).length) = B (nxT s.data.toList J) := by
      rw [ext_cut]
      congr 1
      unfold nxT
      split
      · simp [cut]
      · rw [cut_size _ _ _ hrl.1 (by omega)]
        congr 1
        omega
    generalize hkk : nxK s.data.toList J = kk at *
    generalize htt : nxT s.data.toList J = tt at *
    have hml2 : (J : Int) + (tt.length : Int) ≤ (s.size : Int) := by omega
    go_enter Tryz.func130, Tryz.ntmps130
    go_wp2_with (first | (go_at_call 172; refine (run_blank _ (by omega) _).mono ?_; rintro e w' ⟨rfl, rfl⟩; rw [hrun]) | (go_at_call 174; refine (measure_any _ (by omega) (by omega) _).mono ?_; rintro e w' ⟨rfl, rfl⟩; rw [hk, ht]))
    refine bodyPost_ret (v := tokV kk tt J) ?_ rfl ?_
    · simp [results, Tryz.results130, go_sem]; rfl
    exact ⟨rfl, World.grownBy_alloc _ _ _⟩
end Go.Proofs.YtcdijppegfcoaaaGreatDoor

/-
  OUR OWN TEXT. typerref's reader: is, take, need.
-/
namespace Go.Proofs.YtcdijppegfcoaaaGreatDoor
open Go.RowKit
theorem RS.drewN {w : World} {rb g cap : Nat} {T : List Tok} {s : St} (h : RS w rb g cap T s) (n : Nat) : RS (w.drewN n) rb g cap T s :=
  ⟨h.r, h.t, h.len, h.pos, h.kle, h.blo, h.bhi⟩

/-- What a step of the reader keeps: all but its own cells. -/
def Kept (rb : Nat) (w w' : World) : Prop := w.grownBy w' (some rb)
theorem Kept.refl (rb : Nat) (w : World) : Kept rb w w := ⟨rfl, rfl, rfl, Nat.le_refl _, fun _ _ _ => rfl⟩
theorem Kept.trans {rb : Nat} {a b c : World} (h : Kept rb a b) (k : Kept rb b c) : Kept rb a c :=
  ⟨k.os.trans h.os, k.tape.trans h.tape, k.output.trans h.output, Nat.le_trans h.size k.size, fun i hi hn => (k.block i (Nat.lt_of_lt_of_le hi h.size) hn).trans (h.block i hi hn)⟩
theorem Kept.drewN {rb : Nat} {a b : World} (h : Kept rb a b) (n : Nat) : Kept rb a (b.drewN n) := ⟨h.os, h.tape, h.output, h.size, h.block⟩
theorem Kept.alloc {rb : Nat} {a b : World} (h : Kept rb a b) (o : Obj) : Kept rb a (b.alloc o) := h.trans (World.grownBy_alloc b o _)
theorem Kept.setCell {rb : Nat} {a b : World} (h : Kept rb a b) (i : Nat) (v : Value) : Kept rb a (b.setCell ⟨rb, i, none⟩ v) :=
  h.trans ⟨rfl, rfl, rfl, by simp [World.setCell], fun k _ hn => Below.heap_setCell _ _ _ _ (fun e => hn (by rw [e]))⟩

theorem RS.drew {w : World} {rb g cap : Nat} {T : List Tok} {s : St} (h : RS w rb g cap T s) : RS w.drew rb g cap T s := ⟨h.r, h.t, h.len, h.pos, h.kle, h.blo, h.bhi⟩
theorem Kept.drew {rb : Nat} {a b : World} (h : Kept rb a b) : Kept rb a b.drew := ⟨h.os, h.tape, h.output, h.size, h.block⟩
/-- Old cells behind one new block. -/
theorem cell_past {w : World} {b o : Nat} {v : Value} (h : w.cell? ⟨b, o, none⟩ = some v) (x : Obj) : (w.alloc x).cell? ⟨b, o, none⟩ = some v := by
  have hl : b < w.heap.size := by
    rcases Nat.lt_or_ge b w.heap.size with h' | h'
    · exact h'
    · simp [World.cell?, Array.getElem?_eq_none h'] at h
  rw [World.cell?_alloc_past _ _ _ hl]
  exact h
theorem RS.alloc {w : World} {rb g cap : Nat} {T : List Tok} {s : St} (h : RS w rb g cap T s) (o : Obj) : RS (w.alloc o) rb g cap T s := by
  obtain ⟨cur, e1, e2⟩ := h.t
  exact ⟨by rw [Below.heap_alloc _ _ _ (lt_of_block h.r)]; exact h.r, ⟨cur, by rw [Below.heap_alloc _ _ _ (lt_of_block e1)]; exact e1, e2⟩, h.len, h.pos, h.kle, h.blo, h.bhi⟩

end Go.Proofs.YtcdijppegfcoaaaGreatDoor

/-
  OUR OWN TEXT. typerref's reader on plain data, whole; expressions in memory, over blocks that no longer change.
-/
namespace Go.Proofs.YtcdijppegfcoaaaGreatDoor
open Go.RowKit
def St.up (s : St) : St := ⟨s.k + 1, s.bad⟩

def atomS (E : St → Option (Ex × St)) (T : List Tok) (s : St) : Option (Ex × St) :=
  if isS T s kName = true ∨ isS T s kNum = true then some (⟨(tk T s.k).is, [(tk T s.k).s], [], (tk T s.k).pos⟩, s.up)
  else match E (needS T s kOpen) with
    | none => none
    | some (x, s1) =>
      if isS T s1 kComma = true then match E s1.up with
        | none => none
        | some (y, s2) => some (⟨oPair, [], [x, y], (tk T s.k).pos⟩, needS T s2 kShut)
      else some (x, needS T s1 kShut)

def appS (A : St → Option (Ex × St)) (T : List Tok) : Nat → Ex → St → Option (Ex × St)
  | 0, _, _ => none
  | f + 1, x, s =>
    if isS T s kName = true ∨ isS T s kNum = true ∨ isS T s kOpen = true then match A s with
      | none => none
      | some (y, s1) => appS A T f ⟨oApp, [], [x, y], x.pos⟩ s1
    else some (x, s)

def twiceS (names : List (List UInt8)) (n : List UInt8) (p : Nat) (s : St) : St := if n ∈ names ∧ s.bad < 0 then ⟨s.k, (p : Int)⟩ else s
def boundS (E : St → Option (Ex × St)) (T : List Tok) (x : Ex) (s : St) : Option (Ex × St) :=
  match E (needS T (twiceS x.names (tk T s.k).s (tk T s.k).pos (needS T s kName)) kEq) with
  | none => none
  | some (b, s4) => some (⟨x.op, x.names ++ [(tk T s.k).s], x.kids ++ [b], x.pos⟩, s4)

def bindsS (E : St → Option (Ex × St)) (T : List Tok) : Nat → Ex → St → Option (Ex × St)
  | 0, _, _ => none
  | f + 1, x, s =>
    if x.op = kRec ∧ isS T s kAnd = true then match boundS E T x s.up with
      | none => none
      | some (y, s1) => bindsS E T f y s1
    else some (x, s)

def expS (T : List Tok) : Nat → St → Option (Ex × St)
  | 0, _ => none
  | n + 1, s =>
    if 0 ≤ s.bad then some (⟨[], [], [], (tk T s.k).pos⟩, s)
    else if isS T s kFun = true then
      match expS T n (needS T (needS T s.up kName) kArrow) with
      | none => none
      | some (b, s4) => some (⟨kFun, [(tk T s.up.k).s], [b], (tk T s.k).pos⟩, s4)
    else if isS T s kIf = true then
      match expS T n s.up with
      | none => none
      | some (c, s1) => match expS T n (needS T s1 kThen) with
        | none => none
        | some (a, s2) => match expS T n (needS T s2 kElse) with
          | none => none
          | some (b, s3) => some (⟨kIf, [], [c, a, b], (tk T s.k).pos⟩, s3)
    else if isS T s kLet = true then
      match boundS (expS T n) T ⟨if isS T s.up kRec = true then kRec else kLet, [], [], (tk T s.k).pos⟩ (takeS T s.up kRec) with
      | none => none
      | some (x, s1) => match bindsS (expS T n) T (T.length + 1) x s1 with
        | none => none
        | some (y, s2) => match expS T n (needS T s2 kIn) with
          | none => none
          | some (b, s3) => some (⟨y.op, y.names, y.kids ++ [b], y.pos⟩, s3)
    else match atomS (expS T n) T s with
      | none => none
      | some (x, s1) => appS (atomS (expS T n) T) T (T.length + 1) x s1

/-- Blocks that no longer change. -/
def Fz (H : Nat → Option Obj) (w : World) : Prop := ∀ k o, H k = some o → w.heap[k]? = some o
theorem Fz.lt {H : Nat → Option Obj} {w : World} (h : Fz H w) {k : Nat} {o : Obj} (e : H k = some o) : k < w.heap.size := lt_of_block (h k o e)
theorem Fz.none {H : Nat → Option Obj} {w : World} (h : Fz H w) {k : Nat} (hk : w.heap.size ≤ k) : H k = none := by
  cases e : H k with
  | none => rfl
  | some o => have := h.lt e; omega
theorem Fz.alloc {H : Nat → Option Obj} {w : World} (h : Fz H w) (o : Obj) : Fz H (w.alloc o) := fun k x e => by
  rw [Below.heap_alloc _ _ _ (h.lt e)]; exact h k x e
theorem Fz.drew {H : Nat → Option Obj} {w : World} (h : Fz H w) : Fz H w.drew := h
theorem Fz.kept {H : Nat → Option Obj} {w w' : World} {rb : Nat} (h : Fz H w) (hk : Kept rb w w') (hr : H rb = Option.none) : Fz H w' := fun k x e => by
  rw [hk.block k (h.lt e) (fun e' => by rw [Option.some.inj e', hr] at e; cases e)]; exact h k x e
theorem Fz.set {H : Nat → Option Obj} {w : World} (h : Fz H w) {b : Nat} (hb : H b = Option.none) (i : Nat) (v : Value) : Fz H (w.setCell ⟨b, i, Option.none⟩ v) := fun k x e => by
  rw [Below.heap_setCell _ _ _ _ (fun e' => by have e2 : k = b := e'; rw [e2, hb] at e; cases e)]; exact h k x e
/-- One block more that no longer changes. -/
def Fz.more (H : Nat → Option Obj) (b : Nat) (o : Obj) : Nat → Option Obj := fun k => if k = b then some o else H k
theorem Fz.add {H : Nat → Option Obj} {w : World} (h : Fz H w) {b : Nat} {o : Obj} (hb : w.heap[b]? = some o) : Fz (Fz.more H b o) w := fun k x e => by
  unfold Fz.more at e
  split at e
  · rename_i hk; subst hk; rw [← Option.some.inj e]; exact hb
  · exact h k x e
/-- H' has all of H, and beside it only blocks from n on. -/
def Ext (n : Nat) (H H' : Nat → Option Obj) : Prop := (∀ k o, H k = some o → H' k = some o) ∧ ∀ k, k < n → H' k = H k
theorem Ext.refl (n : Nat) (H : Nat → Option Obj) : Ext n H H := ⟨fun _ _ e => e, fun _ _ => rfl⟩
theorem Ext.trans {n m : Nat} {H H' H'' : Nat → Option Obj} (h : Ext n H H') (k : Ext m H' H'') (hm : n ≤ m) : Ext n H H'' :=
  ⟨fun i o e => k.1 i o (h.1 i o e), fun i hi => (k.2 i (by omega)).trans (h.2 i hi)⟩
theorem Ext.add {n : Nat} {H H' : Nat → Option Obj} (h : Ext n H H') {b : Nat} {o : Obj} (hb : n ≤ b) (hn : H' b = none) : Ext n H (Fz.more H' b o) := by
  refine ⟨fun i x e => ?_, fun i hi => ?_⟩
  · unfold Fz.more
    rw [if_neg (fun e' => by have := h.1 i x e; rw [e', hn] at this; cases this)]
    exact h.1 i x e
  · unfold Fz.more
    rw [if_neg (by omega)]
    exact h.2 i hi

/-- A row of cells that no longer changes. -/
def RowH (H : Nat → Option Obj) (t : TypeId) (v : Value) (xs : List Value) : Prop :=
  (v = .slice none 0 0 ∧ xs = []) ∨ ∃ g cap cur, v = .slice (some ⟨g, 0, none⟩) xs.length cap ∧ H g = some (.cells cur t (0, 0)) ∧ cur.toList.take xs.length = xs
theorem RowH.ext {n : Nat} {H H' : Nat → Option Obj} {t : TypeId} {v : Value} {xs : List Value} (h : RowH H t v xs) (e : Ext n H H') : RowH H' t v xs := by
  rcases h with h | ⟨g, cap, cur, h1, h2, h3⟩
  · exact Or.inl h
  · exact Or.inr ⟨g, cap, cur, h1, e.1 _ _ h2, h3⟩
def ptrs (bs : List Nat) : List Value := bs.map fun b => .pointer (some ⟨b, 0, none⟩)
def strs (ns : List (List UInt8)) : List Value := ns.map fun x => .string (B x)

/-- An expression at a block. -/
def XRep : Nat → (Nat → Option Obj) → Nat → Ex → Prop
  | 0, _, _, _ => False
  | n + 1, H, b, e => ∃ ns ks bs, H b = some (.cells #[.string (B e.op), ns, ks, .int .i64 (e.pos : Int)] 86 (0, 0)) ∧ RowH H 9 ns (strs e.names) ∧ RowH H 26 ks (ptrs bs) ∧
      bs.length = e.kids.length ∧ ∀ (i : Nat) (x : Ex) (c : Nat), bs[i]? = some c → e.kids[i]? = some x → XRep n H c x
theorem XRep.ext {m : Nat} {H H' : Nat → Option Obj} (e : Ext m H H') : ∀ (n : Nat) (b : Nat) (x : Ex), XRep n H b x → XRep n H' b x
  | 0, _, _, h => h
  | n + 1, b, x, h => by
    obtain ⟨ns, ks, bs, h1, h2, h3, h4, h5⟩ := h
    exact ⟨ns, ks, bs, e.1 _ _ h1, h2.ext e, h3.ext e, h4, fun i y c h6 h7 => XRep.ext e n c y (h5 i y c h6 h7)⟩
theorem XRep.up {H : Nat → Option Obj} : ∀ (n : Nat) (b : Nat) (x : Ex), XRep n H b x → XRep (n + 1) H b x
  | 0, _, _, h => absurd h id
  | n + 1, b, x, h => by
    obtain ⟨ns, ks, bs, h1, h2, h3, h4, h5⟩ := h
    exact ⟨ns, ks, bs, h1, h2, h3, h4, fun i y c h6 h7 => XRep.up n c y (h5 i y c h6 h7)⟩
theorem XRep.le {H : Nat → Option Obj} {n m : Nat} {b : Nat} {x : Ex} (h : XRep n H b x) (hm : n ≤ m) : XRep m H b x := by
  induction m with
  | zero => rw [Nat.le_zero.1 hm] at h; exact h
  | succ m ih =>
    rcases Nat.lt_or_ge n (m + 1) with hlt | hge
    · exact XRep.up m b x (ih (by omega))
    · rw [show m + 1 = n from by omega]; exact h

theorem Fz.more_same (H : Nat → Option Obj) (b : Nat) (o : Obj) : Fz.more H b o b = some o := by simp [Fz.more]
theorem Fz.more_old {H : Nat → Option Obj} {b k : Nat} {o x : Obj} (h : H k = some x) (hn : H b = Option.none) : Fz.more H b o k = some x := by
  unfold Fz.more
  rw [if_neg (fun e => by rw [e, hn] at h; cases h)]
  exact h
end Go.Proofs.YtcdijppegfcoaaaGreatDoor

/-
  OUR OWN TEXT. typerref's reader: atom.
-/
namespace Go.Proofs.YtcdijppegfcoaaaGreatDoor
open Go.RowKit
/-- The list of tokens ends with one that is none, or the end, and no other is. -/
def Wf (T : List Tok) : Prop := 0 < T.length ∧ ∀ k, k < T.length → ((tk T k).is = kNone ∨ (tk T k).is = kEnd ↔ k + 1 = T.length)
theorem Wf.up {T : List Tok} (h : Wf T) {s : St} {x : List UInt8} (hk : s.k < T.length) (hi : isS T s x = true) (h1 : x ≠ kNone) (h2 : x ≠ kEnd) : s.k + 1 < T.length := by
  have e : (tk T s.k).is = x := by
    simp only [isS, Bool.and_eq_true, beq_iff_eq] at hi
    exact hi.2
  rcases Nat.lt_or_ge (s.k + 1) T.length with hlt | hge
  · exact hlt
  · have := (h.2 s.k hk).2 (by omega)
    rw [e] at this
    exact absurd this (by simp [h1, h2])
theorem Wf.need {T : List Tok} (h : Wf T) {s : St} {x : List UInt8} (hk : s.k < T.length) (h1 : x ≠ kNone) (h2 : x ≠ kEnd) : (needS T s x).k < T.length := by
  unfold needS
  split
  · rename_i hi; exact h.up hk hi h1 h2
  · exact hk

theorem kept_cell {rb : Nat} {w w' : World} (h : Kept rb w w') {b o : Nat} (hb : b < w.heap.size) (hn : b ≠ rb) : w'.cell? ⟨b, o, none⟩ = w.cell? ⟨b, o, none⟩ :=
  World.cell?_of_block (a := ⟨b, o, none⟩) (h.block b hb (by simp; exact hn))
end Go.Proofs.YtcdijppegfcoaaaGreatDoor
