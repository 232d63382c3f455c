/-
  OUR OWN TEXT. typerref.Read.
-/
import Derived.Test.YtcdijppegfcoaaaGreatDoorPureC
import Derived.Handy
namespace Go.Proofs.YtcdijppegfcoaaaGreatDoor
open Go.RowKit

theorem old_cell {w : World} {b o : Nat} {v : Value} (ob : Obj) (h : w.cell? ⟨b, o, none⟩ = some v) (hb : b < w.heap.size) : (w.alloc ob).cell? ⟨b, o, none⟩ = some v := by
  rw [← h]
  exact World.cell?_of_block (a := ⟨b, o, none⟩) (Below.heap_alloc _ _ _ hb)
/-- What read hands back: the reader's tokens, and where it stands when the end is needed. -/
def toksOf (kw : List (List UInt8)) (s : ByteArray) : List Tok := toks kw s.data.toList (s.size + 1) 0
theorem toksOf_len (kw : List (List UInt8)) (s : ByteArray) : (toksOf kw s).length ≤ s.size + 1 := toks_len _ _ _ _
/-- The reader laid into memory. -/
theorem rs_new {w : World} {g cap : Nat} {T : List Tok} {cur : Array Value} (hg : w.heap[g]? = some (.cells cur 151 (0, 0))) (ht : cur.toList.take (T.length * 3) = rowCells T) (hl : T.length ≤ 400) (hp : ∀ k, (tk T k).pos ≤ 400) :
    RS (w.alloc (.cells #[.slice (some ⟨g, 0, none⟩) T.length cap, .int .i64 0, .int .i64 (-1)] 80)) w.heap.size g cap T ⟨0, -1⟩ :=
  ⟨heap_alloc_new _ _, ⟨cur, by rw [Below.heap_alloc _ _ _ (lt_of_block hg)]; exact hg, ht⟩, hl, hp, Nat.zero_le _, by show (-1 : Int) ≤ -1; omega, by show (-1 : Int) ≤ 400; omega⟩
theorem fz_none (w : World) : Fz (fun _ => none) w := fun k o e => by cases e
def fv (a b : Int) : Value := .agg #[.int .i64 a, .int .i64 b, .string (B []), .int .i64 0, .int .i64 0]
/-- What Read answers: s2: where its reader stands at last. -/
def ReadPost (w w' : World) (e : Ending) (x : Ex) (s2 : St) : Prop :=
  Below w.heap.size w w' ∧ ((0 ≤ s2.bad ∧ e = .returned (.tuple #[.pointer none, fv 2 s2.bad])) ∨
    (s2.bad < 0 ∧ ∃ m c, Nice m x c ∧ c ≤ 400 ∧ ((40 < exDeep m x ∧ e = .returned (.tuple #[.pointer none, fv 3 0])) ∨
      (exDeep m x ≤ 40 ∧ ∃ b H', e = .returned (.tuple #[.pointer (some ⟨b, 0, none⟩), fv 0 0]) ∧ Fz H' w' ∧ XRep m H' b x))))
theorem fv_below {w w3 : World} (h : Below w.heap.size w w3) (v0 v1 v2 v3 v4 : Value) : Below w.heap.size w ((((((w3.setCell ⟨w.heap.size, 0, none⟩ v0).setCell ⟨w.heap.size, 1, none⟩ v1).setCell ⟨w.heap.size, 2, none⟩ v2).setCell ⟨w.heap.size, 3, none⟩ v3).setCell ⟨w.heap.size, 4, none⟩ v4).drew) :=
  (((((h.setCell (Nat.le_refl _) _).setCell (Nat.le_refl _) _).setCell (Nat.le_refl _) _).setCell (Nat.le_refl _) _).setCell (Nat.le_refl _) _).drew
theorem fv_below' {w w3 : World} (h : Below w.heap.size w w3) (v0 v1 v2 v3 v4 : Value) : Below w.heap.size w (((((w3.setCell ⟨w.heap.size, 0, none⟩ v0).setCell ⟨w.heap.size, 1, none⟩ v1).setCell ⟨w.heap.size, 2, none⟩ v2).setCell ⟨w.heap.size, 3, none⟩ v3).setCell ⟨w.heap.size, 4, none⟩ v4) :=
  ((((h.setCell (Nat.le_refl _) _).setCell (Nat.le_refl _) _).setCell (Nat.le_refl _) _).setCell (Nat.le_refl _) _).setCell (Nat.le_refl _) _
set_option maxRecDepth 100000 in
set_option maxHeartbeats 1000000 in
theorem read_any (s : ByteArray) (kb ko kc : Nat) (kw : List (List UInt8)) (w : World) (hg : w.cell? ⟨0, 0, none⟩ = some (.slice (some ⟨kb, ko, none⟩) kw.length kc)) (hg0 : 0 < w.heap.size) (hk : KwO w kb ko kw) (hkb : kb < w.heap.size) (hkl : kw.length ≤ 100) (hs : s.size ≤ 300)
    (x : Ex) (s1 : St) (n : Nat) (hx : expS (toksOf kw s) n ⟨0, -1⟩ = some (x, s1)) (hni : (needS (toksOf kw s) s1 kEnd).bad < 0 → ∃ m c, Nice m x c ∧ c ≤ 400) :
    Calls Tryz.prog 15 #[.string s] w fun e w' => ReadPost w w' e x (needS (toksOf kw s) s1 kEnd) := by
  have hg1 := fun ob => old_cell ob hg hg0
  have HK := hid hk
  have HX := hid hx
  have HNI := hid hni
  clear hk hx hni
  have hs' : (s.size : Int) ≤ 300 := by omega
  obtain ⟨f1, f2, f3⟩ := toks_facts kw s (s.size + 1) 0 (Nat.zero_le _) (by omega)
  have hlen := toksOf_len kw s
  have F1 := hid f1
  have F3 := hid f3
  clear f1 f2 f3
  obtain ⟨T, hT⟩ : ∃ T, T = toksOf kw s := ⟨_, rfl⟩
  rw [show toks kw s.data.toList (s.size + 1) 0 = T from hT.symm] at F1 F3
  rw [← hT] at HX hlen HNI ⊢
  have HT := hid hT
  clear hT
  go_enter Tryz.func15, Tryz.ntmps15
  go_wp2_with fail
  refine (tokens_any s kb ko kc kw _ hs ?_ ?_ hkl).mono ?_
  · exact fun j hj => old_cell _ (HK.out j hj) hkb
  · simp; omega
  rintro e1 w1 ⟨v, rfl, hown, hbel⟩
  rw [show toks kw s.data.toList (s.size + 1) 0 = T from HT.out.symm] at hown
  obtain ⟨_, hown⟩ := hown
  rcases hown with ⟨_, h0⟩ | ⟨g, cap, cur, rfl, hgb, hgh, _, _, _, hgt⟩
  · exact absurd F1.out.1 (by omega)
  have R0 := hid (rs_new (cap := cap) hgh hgt (by omega) (fun k => by have := F3.out k; omega))
  have HBEL := hid hbel
  have hfb1 : w1.heap[w.heap.size]? = some (.cells #[.int .i64 0, .int .i64 0, .string (B []), .int .i64 0, .int .i64 0] 27 (0, 0)) := by
    rw [hbel.block _ (by simp)]; exact heap_alloc_new _ _
  have hs1 : w.heap.size < w1.heap.size := lt_of_block hfb1
  have hb1 : Below w.heap.size w w1 := ((Below.refl _ _).alloc (Nat.le_refl _) _).trans (hbel.mono (by simp))
  have HF1 := hid hfb1
  have HB1 := hid hb1
  clear hbel hgh hgt hfb1 hb1
  go_wp2_with fail
  have hk0 : (0 : Nat) < T.length := F1.out.1
  refine (exp_all T F1.out n _ w1.heap.size g cap (fun _ => none) ⟨0, -1⟩ x s1 HX.out R0.out hk0 (fz_none _) rfl).mono ?_
  rintro e2 w2 ⟨b, H2, m, rfl, hr2, hk2, hkept2, hz2, hext2, hrep2⟩
  have hH2 : H2 w1.heap.size = none := (hext2.2 _ (by simp)).trans rfl
  have hHf : H2 w.heap.size = none := (hext2.2 _ (by simp; omega)).trans rfl
  have R2 := hid hr2
  have HK2 := hid hkept2
  have HZ2 := hid hz2
  have HR2 := hid hrep2
  clear hr2 hkept2 hz2 hext2 hrep2 R0
  go_wp2_with fail
  refine (need_any w2 w1.heap.size g cap T s1 kEnd R2.out hk2).mono ?_
  rintro e3 w3 ⟨rfl, hr3, hkept3⟩
  have hkept : Kept w1.heap.size (w1.alloc (.cells #[.slice (some ⟨g, 0, none⟩) T.length cap, .int .i64 0, .int .i64 (-1)] 80)) w3 := HK2.out.trans hkept3
  have hfb3 : w3.heap[w.heap.size]? = some (.cells #[.int .i64 0, .int .i64 0, .string (B []), .int .i64 0, .int .i64 0] 27 (0, 0)) := by
    rw [hkept.block _ (by simp; omega) (by simp; omega), Below.heap_alloc _ _ _ hs1]; exact HF1.out
  have hb3 : Below w.heap.size w w3 := (HB1.out.alloc (by omega) _).grown hkept (by simp; omega) (fun k e => by rw [← Option.some.inj e]; omega)
  have hz3 : Fz H2 w3 := HZ2.out.kept hkept3 hH2
  have c2 := hr3.cell2
  have HF3 := hid hfb3
  have HB3 := hid hb3
  have HZ3 := hid hz3
  clear hfb3 hb3 hz3 hkept hkept3 HK2 R2 HZ2
  obtain ⟨s2, hs2⟩ : ∃ s2, s2 = needS T s1 kEnd := ⟨_, rfl⟩
  rw [← hs2] at hr3 c2 HNI
  have HS2 := hid hs2
  have R3 := hid hr3
  clear hs2 hr3
  have q0 : w3.cell? ⟨w.heap.size, 0, none⟩ = some (.int .i64 0) := by simp [World.cell?, HF3.out]
  have q1 : w3.cell? ⟨w.heap.size, 1, none⟩ = some (.int .i64 0) := by simp [World.cell?, HF3.out]
  have q2 : w3.cell? ⟨w.heap.size, 2, none⟩ = some (.string (B [])) := by simp [World.cell?, HF3.out]
  have q3 : w3.cell? ⟨w.heap.size, 3, none⟩ = some (.int .i64 0) := by simp [World.cell?, HF3.out]
  have q4 : w3.cell? ⟨w.heap.size, 4, none⟩ = some (.int .i64 0) := by simp [World.cell?, HF3.out]
  have z0 : w3.frozen? ⟨w.heap.size, 0, none⟩ = false := by simp [World.frozen?, HF3.out]
  have z1 : w3.frozen? ⟨w.heap.size, 1, none⟩ = false := by simp [World.frozen?, HF3.out]
  have z2 : w3.frozen? ⟨w.heap.size, 2, none⟩ = false := by simp [World.frozen?, HF3.out]
  have z3 : w3.frozen? ⟨w.heap.size, 3, none⟩ = false := by simp [World.frozen?, HF3.out]
  have z4 : w3.frozen? ⟨w.heap.size, 4, none⟩ = false := by simp [World.frozen?, HF3.out]
  by_cases hbad : 0 ≤ s2.bad
  · go_wp2_with fail
    go_region
    go_wp2
    (try simp only [Exit.inBlock, Exit.then])
    refine bodyPost_ret (v := .tuple #[.pointer none, fv 2 s2.bad]) (by simp [results, Tryz.results15, go_sem, q0, q1, q2, q3, q4]; rfl) rfl ?_
    rw [← HS2.out]
    exact ⟨fv_below HB3.out _ _ _ _ _, Or.inl ⟨hbad, rfl⟩⟩
  · have hneg : s2.bad < 0 := by omega
    obtain ⟨m', c, hn, hc⟩ := HNI.out hneg
    obtain ⟨M, hM⟩ : ∃ M, M = max m m' := ⟨_, rfl⟩
    have hn' : Nice M x c := hn.le (by omega)
    have hrM : XRep M H2 b x := HR2.out.le (by omega)
    have DEEP := hid (deep_any M H2 b x w3 hrM HZ3.out (by have := hn'.deep; omega) hn'.small)
    have hdl : exDeep M x ≤ 400 := by have := hn'.deep; omega
    obtain ⟨d, hd⟩ : ∃ d, d = exDeep M x := ⟨_, rfl⟩
    rw [← hd] at DEEP hdl
    have HD := hid hd
    have HN' := hid hn'
    have HRM := hid hrM
    clear hd hn hn' hrM hM HR2 HNI
    by_cases h40 : 40 < d
    · have h40' : (40 : Int) < (d : Int) := by omega
      go_wp2_with fail
      refine DEEP.out.mono ?_
      rintro e4 w4 ⟨rfl, rfl⟩
      go_wp2_with fail
      (try go_region)
      (try go_wp2)
      (try simp only [Exit.inBlock, Exit.then])
      refine bodyPost_ret (v := .tuple #[.pointer none, fv 3 0]) (by simp [results, Tryz.results15, go_sem, q0, q1, q2, q3, q4]; rfl) rfl ?_
      rw [← HS2.out]
      exact ⟨fv_below' HB3.out _ _ _ _ _, Or.inr ⟨hneg, M, c, HN'.out, hc, Or.inl ⟨by rw [← HD.out]; exact h40, rfl⟩⟩⟩
    · have h40' : ¬ (40 : Int) < (d : Int) := by omega
      go_wp2_with fail
      refine DEEP.out.mono ?_
      rintro e4 w4 ⟨rfl, rfl⟩
      go_wp2_with fail
      (try go_region)
      (try go_wp2)
      (try simp only [Exit.inBlock, Exit.then])
      refine bodyPost_ret (v := .tuple #[.pointer (some ⟨b, 0, none⟩), fv 0 0]) (by simp [results, Tryz.results15, go_sem, q0, q1, q2, q3, q4]; rfl) rfl ?_
      rw [← HS2.out]
      refine ⟨fv_below' HB3.out _ _ _ _ _, Or.inr ⟨hneg, M, c, HN'.out, hc, Or.inr ⟨by rw [← HD.out]; omega, b, H2, rfl, ?_, HRM.out⟩⟩⟩
      exact ((((HZ3.out.set hHf _ _).set hHf _ _).set hHf _ _).set hHf _ _).set hHf _ _
end Go.Proofs.YtcdijppegfcoaaaGreatDoor
