import Derived.Test.YtcdijppegfcoaaaGreatDoorZT16
import Derived.Test.YtcdijppegfcoaaaGreatDoorShelfJ
import Derived.Shelf.Strings.BuilderK
import Derived.Shelf.Strings.Builder2
/-
  OUR OWN TEXT. The program's drafts: a text is written.
-/
namespace Go.Proofs.YtcdijppegfcoaaaGreatDoor
open Go.RowKit
theorem bld_grow (b n : Nat) (w : World) (hbk : w.heap[b]? = some (.cells #[.pointer none, .slice none 0 0] 304 (0, 0))) (bs : Nat) (hB : bs ≤ b) (hBw : bs ≤ w.heap.size) (hn : n ≤ 281474976710656) :
    Calls Tryz.prog 148 #[.pointer (some ⟨b, 0, none⟩), .int .i64 n] w fun e w' => e = .returned (.tuple #[]) ∧ (Lib.BuilderAt 304 5 bs b (.pointer (some ⟨b, 0, none⟩)) [] w' ∧ Below bs w w') :=
  Any.Builder_Grow_fresh { Tryz.lays156 with } Tryz.Builder_Extra_156 bs b n w hB hbk hBw hn
theorem bld_write (bs b : Nat) (l : List Value) (s : ByteArray) (w : World) (h : Lib.IsBuilderF 304 5 bs b l w) (hlen : l.length + s.size ≤ 140737488355328) (hBw : bs ≤ w.heap.size) :
    Calls Tryz.prog 149 #[.pointer (some ⟨b, 0, none⟩), .string s] w fun e w' => e = .returned (.tuple #[.int .i64 s.size, .nilIface]) ∧ (Lib.BuilderAtF 304 5 bs b (.pointer (some ⟨b, 0, none⟩)) (l ++ Lib.strCells s) w' ∧ Below bs w w' ∧ Lib.OthersKept 5 (some b) w w') :=
  Any.Builder_WriteString_k { Tryz.lays156 with } Tryz.Builder_Extra_156 bs b l s w h hlen hBw
theorem bld_string (bs b : Nat) (l : List UInt8) (w : World) (h : Lib.IsBuilderF 304 5 bs b (Lib.byteCells l) w) (hBw : bs ≤ w.heap.size) :
    Calls Tryz.prog 150 #[.pointer (some ⟨b, 0, none⟩)] w fun e w' => e = .returned (.string ⟨l.toArray⟩) ∧ (Lib.IsBuilderF 304 5 bs b (Lib.byteCells l) w' ∧ Below bs w w' ∧ Lib.OthersKept 5 (some b) w w') :=
  Any.Builder_String_any_k { Tryz.lays156 with } Tryz.Builder_Extra_156 bs b l w h hBw
theorem stepsL_at : ∀ (l : List (List UInt8 × Nat × Nat)) (j : Nat) (x : List UInt8) (f t : Nat), l[j]? = some (x, f, t) → (stepsL l)[3 * j]? = some (.string (B x)) ∧ (stepsL l)[3 * j + 1]? = some (.int .i64 (f : Int)) ∧ (stepsL l)[3 * j + 2]? = some (.int .i64 (t : Int))
  | [], j, x, f, t, h => by simp at h
  | a :: l, 0, x, f, t, h => by
    simp at h
    subst h
    exact ⟨rfl, rfl, rfl⟩
  | a :: l, j + 1, x, f, t, h => by
    have ih := stepsL_at l j x f t (by simpa using h)
    have e : stepsL (a :: l) = stepL a ++ stepsL l := rfl
    have e3 : (stepL a).length = 3 := rfl
    rw [e, List.getElem?_append_right (by rw [e3]; omega), List.getElem?_append_right (by rw [e3]; omega), List.getElem?_append_right (by rw [e3]; omega), e3]
    rw [show 3 * (j + 1) - 3 = 3 * j from by omega, show 3 * (j + 1) + 1 - 3 = 3 * j + 1 from by omega, show 3 * (j + 1) + 2 - 3 = 3 * j + 2 from by omega]
    exact ih
/-- A draft's steps, one by one. -/
theorem steps_at {w : World} {bs : Nat} {sv : Value} {l : List (List UInt8 × Nat × Nat)} (h : w.ownsRow bs 306 3 sv l.length (stepsL l)) : ∃ ao cap, sv = .slice ao l.length cap ∧ ∀ (j : Nat) (x : List UInt8) (f t : Nat), l[j]? = some (x, f, t) → ∃ g, ao = some ⟨g, 0, none⟩ ∧ g < w.heap.size ∧
    w.cell? ⟨g, j * 3, none⟩ = some (.string (B x)) ∧ w.cell? ⟨g, j * 3 + 1, none⟩ = some (.int .i64 (f : Int)) ∧ w.cell? ⟨g, j * 3 + 2, none⟩ = some (.int .i64 (t : Int)) := by
  rcases h.2 with ⟨rfl, h0⟩ | ⟨g, cap, cur, rfl, q2, q3, q4, q5, q6, q7⟩
  · refine ⟨none, 0, by rw [h0], fun j x f t e => ?_⟩
    have hj := (List.getElem?_eq_some_iff.1 e).1
    rw [h0] at hj
    omega
  · refine ⟨_, cap, rfl, fun j x f t e => ⟨g, rfl, lt_of_block q3, ?_⟩⟩
    obtain ⟨a1, a2, a3⟩ := stepsL_at l j x f t e
    have hj := (List.getElem?_eq_some_iff.1 e).1
    have hc : ∀ (i : Nat) (v : Value), (stepsL l)[i]? = some v → w.cell? ⟨g, i, none⟩ = some v := fun i v hi => by
      rw [cell_of_row w g i cur _ _ q3]
      rw [← q7, List.getElem?_take] at hi
      split at hi
      · simpa using hi
      · cases hi
    rw [Nat.mul_comm j 3]
    exact ⟨hc _ _ a1, hc _ _ a2, hc _ _ a3⟩
theorem runS_len : ∀ (l : List (List UInt8 × Nat × Nat)) (out : List UInt8), out.length ≤ (runS l out).length
  | [], out => Nat.le_refl _
  | (x, f, t) :: l, out => by
    rw [runS]
    have := runS_len l (out ++ x ++ ((out ++ x).drop f).take (t - f))
    simp only [List.length_append] at this
    omega
theorem runS_step {l : List (List UInt8 × Nat × Nat)} {j : Nat} {x : List UInt8} {f t : Nat} (h : l[j]? = some (x, f, t)) (out : List UInt8) : runS (l.take (j + 1)) out = runS (l.take j) out ++ x ++ ((runS (l.take j) out ++ x).drop f).take (t - f) := by
  rw [List.take_add_one, h, runS_app]
  rfl
theorem okS_at : ∀ {l : List (List UInt8 × Nat × Nat)} {j : Nat} {x : List UInt8} {f t : Nat} {out : List UInt8}, okS l out → l[j]? = some (x, f, t) → f ≤ t ∧ t ≤ (runS (l.take j) out).length + x.length
  | [], j, x, f, t, out, _, h => by simp at h
  | a :: l, 0, x, f, t, out, ho, h => by
    simp at h
    subst h
    exact ⟨ho.1, ho.2.1⟩
  | (x', f', t') :: l, j + 1, x, f, t, out, ho, h => by
    have := okS_at (l := l) (j := j) ho.2.2 (by simpa using h)
    rw [List.take_succ_cons, runS]
    exact this
set_option maxRecDepth 100000 in
set_option maxHeartbeats 8000000 in
theorem dtext_any {c : Dc} {bs : Nat} {s : Ds} {w : World} (h : DR c bs s w) : Calls Tryz.prog 114 #[CP c.db] w fun e w' => e = .returned (.string (B s.out)) ∧ Below w.heap.size w w' := by
  obtain ⟨sv, hb, hown⟩ := h.blk
  obtain ⟨ao, cap, rfl, hst⟩ := steps_at hown
  obtain ⟨_, _, c2, c3, _, _, _⟩ := draft_cells hb
  have hdl := lt_of_block hb
  have Q := hid (And.intro h (And.intro hst hb))
  have hn := h.short
  obtain ⟨hn1, hn2⟩ := hn
  have hk : (w.alloc (.cells #[.pointer none, .slice none 0 0] 304)).heap[w.heap.size]? = some (.cells #[.pointer none, .slice none 0 0] 304 (0, 0)) := heap_alloc_at _ _ _ rfl
  have HG := hid (bld_grow w.heap.size s.out.length _ hk w.heap.size (Nat.le_refl _) (by simp) (by omega))
  clear h hb hown hk hst
  unfold CP
  go_enter Tryz.func114, Tryz.ntmps114
  go_wp2_with fail
  refine HG.out.mono ?_
  rintro e w1 ⟨rfl, r1, b1⟩
  have c2' : w1.cell? ⟨c.db, 2, none⟩ = some (.slice ao s.steps.length cap) := by
    rw [b1.cell (p := ⟨c.db, 2, none⟩) hdl, World.cell?_of_block (a := ⟨c.db, 2, none⟩) (Below.heap_alloc _ _ _ hdl)]
    exact c2
  have b0 : Below w.heap.size w w1 := ⟨b1.os, b1.tape, b1.output, by have := b1.size; simp at this; omega, fun k hk => by rw [b1.block k hk, Below.heap_alloc _ _ _ hk]⟩
  have R1 := hid (And.intro (show Lib.IsBuilderF 304 5 w.heap.size w.heap.size (Lib.byteCells (runS (s.steps.take 0) [])) w1 from Or.inr (Lib.BuilderAtF.of r1)) b0)
  clear r1 b1 b0 HG
  go_wp2_with fail
  obtain ⟨n, hn⟩ : ∃ n, n = s.steps.length := ⟨_, rfl⟩
  have HN := hid hn
  rw [← hn] at hn2 ⊢
  clear hn c2 c2' c3
  go_loopg [16] (n + 1) (fun gh i wi => ∃ j : Nat, j ≤ n ∧ i = .int .i64 j ∧ gh = n - j + 1 ∧ Hid (Lib.IsBuilderF 304 5 w.heap.size w.heap.size (Lib.byteCells (runS (s.steps.take j) [])) wi ∧ Below w.heap.size w wi))
  case atStart => exact ⟨0, by omega, rfl, by omega, R1⟩
  case round =>
    obtain ⟨j, hj, rfl, hgj, HI⟩ := hrel
    by_cases hjl : j < n
    · obtain ⟨⟨x, f, t⟩, hst⟩ : ∃ p, s.steps[j]? = some p := ⟨s.steps[j]'(by rw [← HN.out]; exact hjl), List.getElem?_eq_getElem _⟩
      obtain ⟨gb, rfl, hgl, k0, k1, k2⟩ := Q.out.2.1 j x f t hst
      have d0 : wr.cell? ⟨gb, j * 3, none⟩ = some (.string (B x)) := (HI.out.2.cell (p := ⟨gb, j * 3, none⟩) hgl).trans k0
      have d1 : wr.cell? ⟨gb, j * 3 + 1, none⟩ = some (.int .i64 (f : Int)) := (HI.out.2.cell (p := ⟨gb, j * 3 + 1, none⟩) hgl).trans k1
      have d2 : wr.cell? ⟨gb, j * 3 + 2, none⟩ = some (.int .i64 (t : Int)) := (HI.out.2.cell (p := ⟨gb, j * 3 + 2, none⟩) hgl).trans k2
      have hsz := HI.out.2.size
      obtain ⟨y, hy⟩ : ∃ y, y = runS (s.steps.take j) [] := ⟨_, rfl⟩
      have hstep := runS_step hst []
      have hok := okS_at Q.out.1.ok hst
      rw [← hy] at hstep hok
      have hlen : (runS (s.steps.take (j + 1)) []).length ≤ 100000 := by
        have h1 := runS_len (s.steps.drop (j + 1)) (runS (s.steps.take (j + 1)) [])
        rw [← runS_app, List.take_append_drop, Q.out.1.run] at h1
        omega
      rw [hstep] at hlen
      simp only [List.length_append] at hlen
      have HB := HI.out.1
      rw [← hy] at HB
      have hbl : w.heap.size < wr.heap.size := by
        rcases HB with h | h
        · exact h.lt
        · exact h.lt
      have HW := hid (bld_write w.heap.size w.heap.size _ (B x) _ (HB.alloc (.cells #[.string (B x), .int .i64 (f : Int), .int .i64 (t : Int)] 306)) (by rw [Lib.byteCells_length, size_B]; omega) (by simp; omega))
      obtain ⟨z, hz⟩ : ∃ z, z = y ++ x := ⟨_, rfl⟩
      have hzl : t ≤ z.length := by rw [hz, List.length_append]; exact hok.2
      have hft := hok.1
      have hzb : z.length ≤ 100000 := by rw [hz, List.length_append]; omega
      have HH := hid (And.intro hstep (And.intro hok (And.intro hlen (And.intro hy hz))))
      clear k0 k1 k2 hstep hok hlen HB hy hst hz
      go_wp2_with fail
      refine HW.out.mono ?_
      rintro e w3 ⟨rfl, r3, b3, o3⟩
      have hb3 : w3.heap[wr.heap.size]? = some (.cells #[.string (B x), .int .i64 (f : Int), .int .i64 (t : Int)] 306 (0, 0)) := o3 _ _ (heap_alloc_at _ _ _ rfl) (by simp; omega) (fun c fz e => by injection e with _ e _; exact absurd e (by decide))
      obtain ⟨_, z1, z2⟩ := three_cells hb3
      have r3' : Lib.IsBuilderF 304 5 w.heap.size w.heap.size (Lib.byteCells z) w3.drew := by
        rw [HH.out.2.2.2.2, Lib.byteCells_append]
        exact Or.inr r3
      have hs3 : w.heap.size ≤ w3.heap.size := by have := b3.size; simp at this; omega
      have HS := hid (bld_string w.heap.size w.heap.size _ w3.drew r3' hs3)
      have R3 := hid (And.intro b3 hb3)
      have hzs : (⟨z.toArray⟩ : ByteArray).size = z.length := rfl
      have HE := hid (show (⟨z.toArray⟩ : ByteArray).extract f t = B ((z.drop f).take (t - f)) from by rw [ext_cut]; show B ((z.take t).drop f) = _; rw [List.drop_take])
      have HL := hid (show (Lib.byteCells z).length + ((⟨z.toArray⟩ : ByteArray).extract f t).size ≤ 140737488355328 from by rw [HE.out, size_B, Lib.byteCells_length]; simp only [List.length_take, List.length_drop]; omega)
      clear r3 b3 o3 hb3 r3' HW d0 d1 d2
      go_wp2_with fail
      go_region_with (first
        | (go_at_call 150; refine HS.out.mono ?_; rintro e w4 ⟨rfl, r4, b4, o4⟩; have hb4 := o4 _ _ R3.out.2 (by simp; omega) (fun c fz e => by injection e with _ e _; exact absurd e (by decide)); obtain ⟨_, y1, y2⟩ := three_cells hb4; have hs4 : w.heap.size ≤ w4.heap.size := Nat.le_trans hs3 b4.size; have R4 := hid (And.intro r4 b4); clear r4 b4 o4 hb4)
        | (go_at_call 149; refine (bld_write w.heap.size w.heap.size _ _ _ R4.out.1 HL.out hs4).mono ?_; rintro e w5 ⟨rfl, r5, b5, _⟩; have R5 := hid (And.intro r5 b5); clear r5 b5))
      all_goals
        go_wp2_with fail
        go_roundg (n - (j + 1) + 1)
        case measure => omega
        case rel =>
          refine ⟨j + 1, by omega, by go_num, rfl, hid ⟨?_, ?_⟩⟩
          · rw [HH.out.1, ← HH.out.2.2.2.2, Lib.byteCells_append]
            have h5 := R5.out.1
            rw [HE.out] at h5
            exact Or.inr h5
          · have b0 : Below w.heap.size w (wr.alloc (.cells #[.string (B x), .int .i64 (f : Int), .int .i64 (t : Int)] 306)) := HI.out.2.alloc hsz _
            have b4 := R4.out.2
            exact ((b0.trans R3.out.1).trans ⟨b4.os, b4.tape, b4.output, b4.size, b4.block⟩).trans R5.out.2
    · have hje : j = n := by omega
      subst hje
      have HS := hid (bld_string w.heap.size w.heap.size _ wr HI.out.1 HI.out.2.size)
      have e1 : runS (s.steps.take j) [] = s.out := by rw [HN.out, List.take_length]; exact Q.out.1.run
      rw [e1] at HS
      go_wp2_with fail
      refine HS.out.mono ?_
      rintro e w9 ⟨rfl, _, b9, _⟩
      have B9 := hid b9
      clear b9 HS
      go_wp2
      go_ret
      exact ⟨rfl, HI.out.2.trans B9.out⟩
end Go.Proofs.YtcdijppegfcoaaaGreatDoor
