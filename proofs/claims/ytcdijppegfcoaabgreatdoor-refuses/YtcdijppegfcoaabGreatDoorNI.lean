import Derived.Test.YtcdijppegfcoaabGreatDoorNG
/-
  OUR OWN TEXT. typerkeep.faults.
-/
namespace Go.Proofs.YtcdijppegfcoaabGreatDoor
open Go.RowKit

def fltV (lo de d2 : ByteArray) : List (ByteArray × Int × Int) := [(lo, -1, -1), (de, -1, 1), (d2, -2, 1), (B [], 0, 0), (B [120, 32, 121], -1, 2), (B [49], -1, 0), (B [120, 49], -1, -1), (B [88], 0, 0), (B [97, 98, 99, 100, 101, 102, 103, 104], -1, -1), (B [97, 98, 99, 100, 101, 102, 103, 104, 105], 0, 0), (B [49, 50, 51, 52, 53, 54, 55, 56], -1, 0), (B [49, 50, 51, 52, 53, 54, 55, 56, 57], 0, 0), (B [40, 120, 41], -1, -1), (B [40, 41], 1, 1), (B [40, 120, 44, 32, 121, 41], -1, -1), (B [40, 120, 44, 32, 121, 44, 32, 122, 41], 5, 5), (B [40, 120], 2, 2), (B [120, 41], 1, 1), (B [120, 44], 1, 1), (B [105, 110, 116], -1, -1), (B [91, 105, 110, 116, 93], 0, -1), (B [91, 93], 0, 1), (B [91, 97], 0, 2), (B [97, 32, 45, 62, 32, 98], 2, -1), (B [97, 32, 45, 32, 98], 2, 2), (B [97, 32, 45, 62], 2, 4), (B [45, 62, 32, 97], 0, 0), (B [40, 97, 32, 45, 62, 32, 98, 41, 32, 45, 62, 32, 91, 99, 93], 3, -1), (B [97, 32, 45, 62, 32, 40, 98, 44, 32, 91, 98, 111, 111, 108, 93, 41, 32, 45, 62, 32, 99], 2, -1), (B [102, 117, 110], 3, -1), (B [102, 117, 110, 32, 120], 5, 4), (B [102, 117, 110, 32, 120, 32, 45, 62, 32], 9, 4), (B [102, 117, 110, 32, 49, 32, 45, 62, 32, 120], 4, 4), (B [102, 117, 110, 32, 108, 101, 116, 32, 45, 62, 32, 120], 4, 4), (B [102, 117, 110, 32, 120, 32, 45, 62, 32, 120], -1, 4), (B [108, 101, 116], 3, -1), (B [108, 101, 116, 32, 120], 5, 4), (B [108, 101, 116, 32, 120, 32, 61, 32, 49], 9, 4), (B [108, 101, 116, 32, 120, 32, 61, 32, 49, 32, 105, 110], 12, 4), (B [108, 101, 116, 32, 120, 32, 61, 32, 49, 32, 105, 110, 32, 120], -1, 4), (B [108, 101, 116, 32, 114, 101, 99], 7, 4), (B [108, 101, 116, 32, 114, 101, 99, 32, 102, 32, 61, 32, 49, 32, 97, 110, 100, 32, 102, 32, 61, 32, 50, 32, 105, 110, 32, 49], 18, 4), (B [108, 101, 116, 32, 114, 101, 99, 32, 102, 32, 61, 32, 49, 32, 97, 110, 100, 32, 103, 32, 61, 32, 50, 32, 105, 110, 32, 49], -1, 4), (B [108, 101, 116, 32, 102, 32, 61, 32, 49, 32, 97, 110, 100, 32, 103, 32, 61, 32, 50, 32, 105, 110, 32, 49], 10, 4), (B [114, 101, 99], 0, -1), (B [105, 102, 32, 120, 32, 116, 104, 101, 110, 32, 121], 11, 3), (B [105, 102, 32, 120, 32, 116, 104, 101, 110, 32, 121, 32, 101, 108, 115, 101], 16, 3), (B [105, 102, 32, 120, 32, 116, 104, 101, 110, 32, 121, 32, 101, 108, 115, 101, 32, 122], -1, 3), (B [102, 32, 102, 117, 110, 32, 120, 32, 45, 62, 32, 120], 2, 2), (B [102, 32, 105, 102], 2, 2), (B [120, 32, 61, 32, 121], 2, 2), (B [120, 9, 121], 1, 1), (B [120, 10, 32, 121], -1, 3), (B [120, 32, 91, 121, 93], 2, 2), (B [102, 32, 49, 120], -1, 2)]
def fltC (l : List (ByteArray × Int × Int)) : Array Value := (l.flatMap fun x => [.string x.1, .int .i64 x.2.1, .int .i64 x.2.2]).toArray
theorem fltV_flt : fltV (B (longS 299)) (B (deepS 39)) (B (deepS 40)) = flt.map fun x => (B x.1, x.2.1, x.2.2) := rfl
theorem fltL_at (l : List (ByteArray × Int × Int)) : ∀ k, k < l.length → (l.flatMap fun x => [Value.string x.1, .int .i64 x.2.1, .int .i64 x.2.2])[3 * k]? = some (.string (l.getD k (B [], 0, 0)).1) ∧ (l.flatMap fun x => [Value.string x.1, .int .i64 x.2.1, .int .i64 x.2.2])[3 * k + 1]? = some (.int .i64 (l.getD k (B [], 0, 0)).2.1) ∧ (l.flatMap fun x => [Value.string x.1, .int .i64 x.2.1, .int .i64 x.2.2])[3 * k + 2]? = some (.int .i64 (l.getD k (B [], 0, 0)).2.2) := by
  induction l with
  | nil => intro k h; simp at h
  | cons a l ih =>
    intro k h
    cases k with
    | zero => simp
    | succ k =>
      obtain ⟨h1, h2, h3⟩ := ih k (by simpa using h)
      rw [show 3 * (k + 1) = 3 * k + 3 by omega]
      simp only [List.flatMap_cons, List.cons_append, List.nil_append, List.getElem?_cons_succ, List.getD_cons_succ]
      exact ⟨h1, h2, h3⟩
theorem wp_value {P : Program} {o : Oper} {a : Act} {w w' : World} {K : Act → World → Prop} {Q : Exit → Act → World → Prop} {v : Value} (h : (execOp a.eval o).run P w = .ok (.value v) w') (hk : K (a.put o.dst v) w') : Oper.wp P o a w K Q := by
  unfold Oper.wp
  rw [h]
  exact hk
theorem deep_size (j : Nat) : (B (deepS j)).size = 3 * j + 1 := by
  rw [size_B]
  induction j with
  | zero => rfl
  | succ j ih => simp only [deepS, List.length_append, ih]; simp; omega

set_option maxRecDepth 100000 in
set_option maxHeartbeats 4000000 in
theorem faults_p (w : World) : Calls Tryz.prog 18 #[] w fun e w' => w.grownBy w' none ∧ ∃ b, e = .returned (.slice (some ⟨b, 0, none⟩) 55 55) ∧ w.heap.size ≤ b ∧ ∀ k, k < 55 → w'.cell? ⟨b, 3 * k, none⟩ = some (.string (B (flt.getD k ([], 0, 0)).1)) ∧ w'.cell? ⟨b, 3 * k + 1, none⟩ = some (.int .i64 (flt.getD k ([], 0, 0)).2.1) ∧ w'.cell? ⟨b, 3 * k + 2, none⟩ = some (.int .i64 (flt.getD k ([], 0, 0)).2.2) := by
  go_enter Tryz.func18, Tryz.ntmps18
  go_wp2_with fail
  go_loopg [1] 300 (fun gh x wi => ∃ j : Nat, j ≤ 299 ∧ x = .string (B (longS j)) ∧ gh = 300 - j ∧ wi = w)
  case atStart => exact ⟨0, by omega, rfl, by omega, rfl⟩
  case round =>
    obtain ⟨j, hj, rfl, hgj, rfl⟩ := hrel
    have hsz : (B (longS j)).size = j + 1 := by rw [size_B]; simp [longS]
    by_cases hjl : j < 299
    · have e1 : B (longS j) ++ ({ data := #[32] } : ByteArray) = B (longS (j + 1)) := long_step j
      go_wp2_with fail
      go_roundg (300 - (j + 1))
      case measure => omega
      case rel => exact ⟨j + 1, by omega, rfl, rfl, rfl⟩
    · have hje : j = 299 := by omega
      subst hje
      obtain ⟨lo, hlo⟩ : ∃ lo, lo = B (longS 299) := ⟨_, rfl⟩
      rw [← hlo] at hsz ⊢
      have HLO := hid hlo
      clear hlo
      go_wp2_with fail
      go_loopg [2, 8] 40 (fun gh x i wi => ∃ j : Nat, j ≤ 39 ∧ x = .string (B (deepS j)) ∧ i = .int .i64 j ∧ gh = 40 - j ∧ wi = wr)
      case atStart => exact ⟨0, by omega, rfl, rfl, by omega, rfl⟩
      case round =>
        obtain ⟨j, hj, rfl, rfl, hgj, rfl⟩ := hrel
        by_cases hjl : j < 39
        · have e1 : ({ data := #[102, 40] } : ByteArray) ++ B (deepS j) ++ ({ data := #[41] } : ByteArray) = B (deepS (j + 1)) := deep_step j
          have z1 := deep_size j
          have z2 : (({ data := #[102, 40] } : ByteArray) ++ B (deepS j)).size = 2 + (3 * j + 1) := by rw [ByteArray.size_append, z1]; rfl
          have hj2 : (j : Int) < 39 := by omega
          go_wp2_with fail
          go_roundg (40 - (j + 1))
          case measure => omega
          case rel => exact ⟨j + 1, by omega, rfl, by go_num, rfl, rfl⟩
        · have hje : j = 39 := by omega
          subst hje
          have e1 : ({ data := #[102, 40] } : ByteArray) ++ B (deepS 39) ++ ({ data := #[41] } : ByteArray) = B (deepS 40) := deep_step 39
          have z1 := deep_size 39
          have z2 : (({ data := #[102, 40] } : ByteArray) ++ B (deepS 39)).size = 120 := by rw [ByteArray.size_append, z1]; rfl
          obtain ⟨de, hde⟩ : ∃ de, de = B (deepS 39) := ⟨_, rfl⟩
          obtain ⟨d2, hd2⟩ : ∃ d2, d2 = B (deepS 40) := ⟨_, rfl⟩
          rw [← hde, ← hd2] at e1
          rw [← hde] at z1 z2 ⊢
          have HDE := hid (And.intro hde hd2)
          clear hde hd2
          go_wp2_with fail
          refine wp_value (v := .slice (some ⟨wr.heap.size, 0, none⟩) 55 55) (w' := wr.alloc (.cells (fltC (fltV lo de d2)) 51)) (by kernel_rfl) ?_
          have HN := hid (heap_alloc_new wr (.cells (fltC (fltV lo de d2)) 51))
          have HG := hid (World.grownBy_alloc wr (.cells (fltC (fltV lo de d2)) 51) none)
          generalize wr.alloc (.cells (fltC (fltV lo de d2)) 51) = W1 at *
          go_wp2
          go_ret
          refine ⟨HG.out, _, rfl, Nat.le_refl _, fun k hk => ?_⟩
          obtain ⟨hde, hd2⟩ := HDE.out
          have hC : fltC (fltV lo de d2) = fltC (flt.map fun x => (B x.1, x.2.1, x.2.2)) := by rw [HLO.out, hde, hd2, fltV_flt]
          have hat := fltL_at (flt.map fun x => (B x.1, x.2.1, x.2.2)) k (by rw [List.length_map, show flt.length = 55 from rfl]; exact hk)
          have hget : (flt.map fun x => (B x.1, x.2.1, x.2.2)).getD k (B [], 0, 0) = (B (flt.getD k ([], 0, 0)).1, (flt.getD k ([], 0, 0)).2.1, (flt.getD k ([], 0, 0)).2.2) := by
            rw [List.getD_eq_getElem?_getD, List.getD_eq_getElem?_getD, List.getElem?_map]
            cases flt[k]? <;> rfl
          rw [hget] at hat
          have hn := HN.out
          rw [hC] at hn
          unfold fltC at hn
          exact ⟨by simp only [World.cell?, hn]; simpa using hat.1, by simp only [World.cell?, hn]; simpa using hat.2.1, by simp only [World.cell?, hn]; simpa using hat.2.2⟩
end Go.Proofs.YtcdijppegfcoaabGreatDoor

/-
  OUR OWN TEXT. typerkeep.pick.
-/
namespace Go.Proofs.YtcdijppegfcoaabGreatDoor
open Go.RowKit

set_option maxRecDepth 100000 in
set_option maxHeartbeats 4000000 in
theorem pick_ex (c : Int) (h1 : -9223372036854775808 ≤ c) (h2 : c ≤ 9223372036854775807) : ∃ n : Nat, n < 63 ∧ ∀ w, Calls Tryz.prog 11 #[.int .i64 c, .int .i64 63] w fun e w' => e = .returned (.int .i64 n) ∧ w' = w := by
  by_cases hc : c < 0
  · obtain ⟨m, hm⟩ : ∃ m : Nat, -(c + 1) = (m : Int) := ⟨(-(c + 1)).toNat, by omega⟩
    have E1 := hid (show (m : Int) % 63 = ((m % 63 : Nat) : Int) by omega)
    refine ⟨m % 63, Nat.mod_lt _ (by omega), fun w => ?_⟩
    obtain ⟨z, hz⟩ : ∃ z, z = m % 63 := ⟨_, rfl⟩
    rw [← hz] at E1 ⊢
    clear hz
    go_enter Tryz.func11, Tryz.ntmps11
    go_wp2
    rw [E1.out]
    go_ret
    exact ⟨rfl, rfl⟩
  · obtain ⟨m, hm⟩ : ∃ m : Nat, c = (m : Int) := ⟨c.toNat, by omega⟩
    have E1 := hid (show (m : Int) % 63 = ((m % 63 : Nat) : Int) by omega)
    refine ⟨m % 63, Nat.mod_lt _ (by omega), fun w => ?_⟩
    obtain ⟨z, hz⟩ : ∃ z, z = m % 63 := ⟨_, rfl⟩
    rw [← hz] at E1 ⊢
    clear hz
    go_enter Tryz.func11, Tryz.ntmps11
    go_wp2
    rw [E1.out]
    go_ret
    exact ⟨rfl, rfl⟩
end Go.Proofs.YtcdijppegfcoaabGreatDoor

/-
  OUR OWN TEXT. Refuses: the texts.
-/
namespace Go.Proofs.YtcdijppegfcoaabGreatDoor
open Go.RowKit

theorem Wr.fv {p : Int} {t : List UInt8} {f : Value} (h : Wr p t f) : ∃ a b, f = Go.Proofs.YtcdijppegfcoaabGreatDoor.fv a b := by
  rcases h with ⟨_, _, rfl⟩ | ⟨_, _, rfl⟩ | ⟨_, _, rfl⟩
  · exact ⟨_, _, rfl⟩
  · exact ⟨_, _, rfl⟩
  · exact ⟨_, _, rfl⟩
theorem three_c {w : World} {b : Nat} {p q r : Value} {t : TypeId} (h : w.heap[b]? = some (.cells #[p, q, r] t (0, 0))) : w.cell? ⟨b, 0, none⟩ = some p ∧ w.cell? ⟨b, 1, none⟩ = some q ∧ w.cell? ⟨b, 2, none⟩ = some r := by simp [World.cell?, h]

set_option maxRecDepth 100000 in
set_option maxHeartbeats 1000000 in
theorem refuses_lt (k : Int) (n : Nat) (hn : n < 55) (hp : ∀ w, Calls Tryz.prog 11 #[.int .i64 k, .int .i64 63] w fun e w' => e = .returned (.int .i64 n) ∧ w' = w) (w : World) (ad : Nat → Addr) (cs : Nat → Array Value) (ts : Nat → TypeId) (S : SW w ad cs ts) :
    Calls Tryz.prog 7 #[.int .i64 k] w fun e w' => e = .returned (.bool true) ∧ Gn w w' := by
  have HF := hid (faults_p w)
  have HP := hid hp
  have HS := hid S
  have hn2 : (n : Int) < 55 := by omega
  have HK := hid (flt_all n hn)
  clear S hp
  go_enter Tryz.func7, Tryz.ntmps7
  go_wp2_with fail
  refine HF.out.mono ?_
  rintro e w1 ⟨g1, b, rfl, hb, hat⟩
  obtain ⟨hx0, hx1, hx2⟩ := hat n hn
  obtain ⟨s, hs⟩ : ∃ s, s = (flt.getD n ([], 0, 0)).1 := ⟨_, rfl⟩
  obtain ⟨pe, hpe⟩ : ∃ pe, pe = (flt.getD n ([], 0, 0)).2.1 := ⟨_, rfl⟩
  obtain ⟨pt, hpt⟩ : ∃ pt, pt = (flt.getD n ([], 0, 0)).2.2 := ⟨_, rfl⟩
  rw [← hs, ← hpe, ← hpt] at HK
  rw [← hs, Nat.mul_comm] at hx0
  rw [← hpe, Nat.mul_comm] at hx1
  rw [← hpt, Nat.mul_comm] at hx2
  have HG := hid g1
  clear g1 hb hat HF hs hpe hpt
  go_wp2_with fail
  refine (HP.out _).mono ?_
  rintro e w2 ⟨rfl, rfl⟩
  have S2 := hid ((HS.out.grown HG.out).grown (World.grownBy_alloc w2 (.cells #[.string (B s), .int .i64 pe, .int .i64 pt] 51) none))
  have CS := hid (show_k s pe HK.out.1 HK.out.2.1 _ ad cs ts S2.out)
  clear HP
  go_wp2_with fail
  refine CS.out.mono ?_
  rintro e w3 ⟨g3, t, f, rfl, hw⟩
  obtain ⟨fa, fb, rfl⟩ := hw.fv
  have hx : w3.heap[w2.heap.size]? = some (.cells #[.string (B s), .int .i64 pe, .int .i64 pt] 51 (0, 0)) := by
    rw [g3.block _ (by simp)]
    exact heap_alloc_new _ _
  have G3 := hid (((Gn.of HG.out).trans (Gn.of (World.grownBy_alloc _ _ _))).trans g3)
  have W3 := hid hw
  have hx' := (Below.heap_alloc w3 (.cells #[.int .i64 fa, .int .i64 fb, .string (B []), .int .i64 0, .int .i64 0] 23) _ (lt_of_block hx)).trans hx
  have hf' := heap_alloc_new w3 (.cells #[.int .i64 fa, .int .i64 fb, .string (B []), .int .i64 0, .int .i64 0] 23)
  have S3 := hid ((S2.out.gn g3).gn (Gn.of (World.grownBy_alloc w3 (.cells #[.int .i64 fa, .int .i64 fb, .string (B []), .int .i64 0, .int .i64 0] 23) none)))
  have CC := hid (canon_k s pt HK.out.1 HK.out.2.2 _ ad cs ts S3.out)
  obtain ⟨x0, x1, x2⟩ := three_c hx'
  obtain ⟨⟨q0, q1, q2, q3, q4⟩, _⟩ := five_c hf'
  have HX := hid (And.intro hx' hf')
  have GW := hid (G3.out.trans (Gn.of (World.grownBy_alloc w3 (.cells #[.int .i64 fa, .int .i64 fb, .string (B []), .int .i64 0, .int .i64 0] 23) none)))
  clear g3 hw hx CS hx0 hx1 hx2 S2 HS hx' hf' G3 HG
  unfold fv
  go_wp2_with fail
  refine CC.out.mono ?_
  rintro e w4 ⟨g4, t2, f2, rfl, hw2⟩
  obtain ⟨ga, gb, rfl⟩ := hw2.fv
  have y0 : (w4.alloc (.cells #[.int .i64 ga, .int .i64 gb, .string (B []), .int .i64 0, .int .i64 0] 23)).heap[w2.heap.size]? = _ := (Below.heap_alloc _ _ _ (Nat.lt_of_lt_of_le (lt_of_block HX.out.1) g4.size)).trans ((g4.block _ (lt_of_block HX.out.1)).trans HX.out.1)
  have y1 : (w4.alloc (.cells #[.int .i64 ga, .int .i64 gb, .string (B []), .int .i64 0, .int .i64 0] 23)).heap[w3.heap.size]? = _ := (Below.heap_alloc _ _ _ (Nat.lt_of_lt_of_le (lt_of_block HX.out.2) g4.size)).trans ((g4.block _ (lt_of_block HX.out.2)).trans HX.out.2)
  have y2 := heap_alloc_new w4 (.cells #[.int .i64 ga, .int .i64 gb, .string (B []), .int .i64 0, .int .i64 0] 23)
  have G4 := hid ((GW.out.trans g4).trans (Gn.of (World.grownBy_alloc w4 (.cells #[.int .i64 ga, .int .i64 gb, .string (B []), .int .i64 0, .int .i64 0] 23) none)))
  have W4 := hid hw2
  have HY := hid (And.intro y0 y2)
  clear x0 x1 x2 q0 q1 q2 q3 q4 HX GW g4 hw2 CC S3 HK
  obtain ⟨x0, x1, x2⟩ := three_c y0
  obtain ⟨⟨q0, q1, q2, q3, q4⟩, _⟩ := five_c y1
  obtain ⟨⟨p0, p1, p2, p3, p4⟩, _⟩ := five_c y2
  clear y0 y1 y2
  unfold fv
  go_wp2_with fail
  generalize w4.alloc (.cells #[.int .i64 ga, .int .i64 gb, .string (B []), .int .i64 0, .int .i64 0] 23) = W5 at *
  generalize w4.heap.size = z4 at *
  generalize w3.heap.size = z3 at *
  generalize w2.heap.size = z2 at *
  refine (wrong_p pe t _ W3.out W5).mono ?_
  rintro e w6 ⟨rfl, g6⟩
  have y0 := (g6.block _ (lt_of_block HY.out.1) (by simp)).trans HY.out.1
  have y2 := (g6.block _ (lt_of_block HY.out.2) (by simp)).trans HY.out.2
  have G6 := hid (G4.out.trans (Gn.of g6))
  clear x0 x1 x2 q0 q1 q2 q3 q4 p0 p1 p2 p3 p4 HY g6 G4 W3
  obtain ⟨x0, x1, x2⟩ := three_c y0
  obtain ⟨⟨p0, p1, p2, p3, p4⟩, _⟩ := five_c y2
  clear y0 y2
  go_wp2_with fail
  refine (wrong_p pt t2 _ W4.out _).mono ?_
  rintro e w7 ⟨rfl, g7⟩
  have G7 := hid (G6.out.trans (Gn.of g7))
  clear g7 G6 W4
  go_wp2
  go_ret
  exact ⟨rfl, G7.out⟩
end Go.Proofs.YtcdijppegfcoaabGreatDoor
