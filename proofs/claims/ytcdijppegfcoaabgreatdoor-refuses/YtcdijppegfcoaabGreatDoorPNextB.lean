/-
  OUR OWN TEXT. The program's tokens: Next.
-/
import Derived.Test.YtcdijppegfcoaabGreatDoorPNext
namespace Go.Proofs.YtcdijppegfcoaabGreatDoor
open Go.RowKit

theorem drop_list (s : ByteArray) (i : Nat) (h : i ≤ s.size) : (s.extract i s.size).data.toList = s.data.toList.drop i ∧ (s.extract i s.size).size = s.size - i := by
  have e := ext_cut s i s.size
  have hl : s.data.toList.length = s.size := by rw [Array.length_toList]; rfl
  constructor
  · rw [e]
    show cut s.data.toList i s.size = _
    unfold cut
    rw [List.take_of_length_le (by omega)]
  · rw [ByteArray.size_extract]
    omega
theorem raw_drop (l : List UInt8) (J : Nat) : raw (l.drop J) 0 = ((raw l J).1, (raw l J).2 - J) := by
  have e0 : (l.drop J)[0]? = l[J]? := by rw [List.getElem?_drop]; simp
  have e1 : (l.drop J)[0 + 1]? = l[J + 1]? := by rw [List.getElem?_drop]
  unfold raw
  rw [e0, e1]
  cases l[J]? with
  | none => simp
  | some c =>
    dsimp only
    split
    · simp [upto]
    split
    · simp [upto]
    split
    · simp
    split
    · simp
    · simp
theorem nxK_drop (l : List UInt8) (J : Nat) : nxK (l.drop J) 0 = nxK l J := by
  unfold nxK
  rw [raw_drop]
  simp
theorem nxT_drop (l : List UInt8) (J : Nat) (h : J ≤ (raw l J).2) : nxT (l.drop J) 0 = nxT l J := by
  unfold nxT
  rw [nxK_drop, raw_drop]
  split
  · rfl
  · unfold cut
    dsimp only
    rw [List.drop_zero, List.take_drop]
    congr 2
    omega

def tokV (k : Nat) (t : List UInt8) (p : Nat) : Value := .agg #[.int .i64 (k : Int), .string (B t), .int .i64 (p : Int)]

set_option maxRecDepth 100000 in
theorem next_any (s : ByteArray) (i : Nat) (hi : i ≤ s.size) (hs : s.size ≤ 300) (w : World) : Calls Tryz.prog 82 #[.string s, .int .i64 (i : Int)] w fun e w' => e = .returned (tokV (nxK s.data.toList (upto isB s.data.toList i)) (nxT s.data.toList (upto isB s.data.toList i)) (upto isB s.data.toList i)) ∧ w.grownBy w' none := by
  have hsl : s.data.toList.length = s.size := by rw [Array.length_toList]; rfl
  obtain ⟨J, hJ⟩ : ∃ J, J = upto isB s.data.toList i := ⟨_, rfl⟩
  have hJb := upto_le isB s.data.toList i (by omega)
  have hrun : run isB (s.extract i s.size).data.toList = J - i := by
    rw [(drop_list s i hi).1, hJ]
    simp [upto]
  rw [← hJ] at hJb ⊢
  rw [hsl] at hJb
  obtain ⟨hJ1, hJ2⟩ := hJb
  have hsz := (drop_list s i hi).2
  have hadd : (i : Int) + ((J - i : Nat) : Int) = (J : Int) := by omega
  have hrl := raw_le s J hJ2
  clear hJ
  by_cases he : J = s.size
  · have k : nxK s.data.toList J = 0 := by
      rw [nxK, raw_end s J (by omega)]
      simp
    have t : nxT s.data.toList J = [] := by simp [nxT, k]
    rw [k, t]
    go_enter Tryz.func82, Tryz.ntmps82
    go_wp2_with (first | (go_at_call 122; refine (run_blank _ (by omega) _).mono ?_; rintro e w' ⟨rfl, rfl⟩; rw [hrun]))
    refine bodyPost_ret (v := tokV 0 [] J) (by simp [results, Tryz.results82, go_sem]; rw [show (i : Int) + ((s.size - i : Nat) : Int) = (J : Int) from by omega]; rfl) rfl ?_
    exact ⟨rfl, World.grownBy_alloc _ _ _⟩
  · have hJ3 : J < s.size := by omega
    have hne : ((J : Int) == (s.size : Int)) = false := by simp; omega
    have dl := drop_list s J hJ2
    have hk : nxK (s.extract J s.size).data.toList 0 = nxK s.data.toList J := by rw [dl.1]; exact nxK_drop _ _
    have ht : nxT (s.extract J s.size).data.toList 0 = nxT s.data.toList J := by rw [dl.1]; exact nxT_drop _ _ hrl.1
    have hml : (nxT s.data.toList J).length ≤ s.size - J := by
      unfold nxT
      split
      · simp
      · rw [cut_size _ _ _ hrl.1 (by omega)]; omega
    have hx : s.extract J (J + (nxT s.data.toList J).length) = B (nxT s.data.toList J) := by
      rw [ext_cut]
      congr 1
      unfold nxT
      split
      · simp [cut]
      · rw [cut_size _ _ _ hrl.1 (by omega)]
        congr 1
        omega
    generalize hkk : nxK s.data.toList J = kk at *
    generalize htt : nxT s.data.toList J = tt at *
    have hml2 : (J : Int) + (tt.length : Int) ≤ (s.size : Int) := by omega
    go_enter Tryz.func82, Tryz.ntmps82
    go_wp2_with (first | (go_at_call 122; refine (run_blank _ (by omega) _).mono ?_; rintro e w' ⟨rfl, rfl⟩; rw [hrun]) | (go_at_call 124; refine (measure_any _ (by omega) (by omega) _).mono ?_; rintro e w' ⟨rfl, rfl⟩; rw [hk, ht]))
    refine bodyPost_ret (v := tokV kk tt J) ?_ rfl ?_
    · simp [results, Tryz.results82, go_sem]; rfl
    exact ⟨rfl, World.grownBy_alloc _ _ _⟩
end Go.Proofs.YtcdijppegfcoaabGreatDoor
