/-
  OUR OWN TEXT. typerref's reader: is, take, need.
-/
import Derived.Test.YtcdijppegfcoaaaGreatDoorChecked
import Derived.Test.YtcdijppegfcoaaaGreatDoorParse
import Derived.WalkSpells
import Derived.Outline
import Derived.Deep.QuietTactic
import Derived.BigQuiet
namespace Go.Proofs.YtcdijppegfcoaaaGreatDoor
open Go.RowKit

/-- The reader's cells, in the walk's spelling. -/
theorem RS.cell0 {w : World} {rb g cap : Nat} {T : List Tok} {s : St} (h : RS w rb g cap T s) : w.cell? ⟨rb, 0, none⟩ = some (.slice (some ⟨g, 0, none⟩) T.length cap) := cell_first h.r
theorem RS.cell1 {w : World} {rb g cap : Nat} {T : List Tok} {s : St} (h : RS w rb g cap T s) : w.cell? ⟨rb, 1, none⟩ = some (.int .i64 s.k) := cell_second h.r
theorem RS.cell2 {w : World} {rb g cap : Nat} {T : List Tok} {s : St} (h : RS w rb g cap T s) : w.cell? ⟨rb, 2, none⟩ = some (.int .i64 s.bad) := cell_third h.r

theorem is_yes {T : List Tok} {k : Nat} {bad : Int} {t x : List UInt8} (hb : bad < 0) (ht : t = (tk T k).is) : ((B t).toList == (B x).toList) = isS T ⟨k, bad⟩ x := by
  rw [toList_B, toList_B, ht]
  simp [isS, hb]
theorem is_no {T : List Tok} {k : Nat} {bad : Int} {x : List UInt8} (hb : ¬ bad < 0) : false = isS T ⟨k, bad⟩ x := by
  simp [isS, hb]

set_option maxRecDepth 100000 in
theorem is_any (w : World) (rb g cap : Nat) (T : List Tok) (s : St) (x : List UInt8) (h : RS w rb g cap T s) (hk : s.k < T.length) :
    Calls Tryz.prog 78 #[.pointer (some ⟨rb, 0, none⟩), .string (B x)] w fun e w' => e = .returned (.bool (isS T s x)) ∧ ∃ n, w' = w.drewN n := by
  have c0 := h.cell0
  have c1 := h.cell1
  have c2 := h.cell2
  obtain ⟨d0, d1, d2⟩ := h.cells s.k hk
  have hl := h.len
  have HH := hid h
  clear h d1 d2
  obtain ⟨k, bad⟩ := s
  dsimp only at *
  obtain ⟨t, ht⟩ : ∃ t, t = (tk T k).is := ⟨_, rfl⟩
  rw [← ht] at d0
  have HT := hid ht
  clear ht
  have hk1 : (k : Int) < (T.length : Int) := by omega
  by_cases hb : bad < 0
  · have hd : decide (bad < 0) = true := by simp [hb]
    go_enter Tryz.func78, Tryz.ntmps78
    go_wp2
    go_quiet (fail)
    go_wp2
    go_ret
    exact ⟨congrArg (fun b => Ending.returned (.bool b)) (is_yes (by assumption) HT.out), _, rfl⟩
  · have hd : decide (bad < 0) = false := by simp; omega
    go_enter Tryz.func78, Tryz.ntmps78
    go_wp2
    go_quiet (fail)
    go_wp2
    go_ret
    exact ⟨congrArg (fun b => Ending.returned (.bool b)) (is_no (by omega)), _, rfl⟩

theorem RS.drewN {w : World} {rb g cap : Nat} {T : List Tok} {s : St} (h : RS w rb g cap T s) (n : Nat) : RS (w.drewN n) rb g cap T s :=
  ⟨h.r, h.t, h.len, h.pos, h.kle, h.blo, h.bhi⟩

/-- What a step of the reader keeps: all but its own cells. -/
def Kept (rb : Nat) (w w' : World) : Prop := w.grownBy w' (some rb)
theorem Kept.refl (rb : Nat) (w : World) : Kept rb w w := ⟨rfl, rfl, rfl, Nat.le_refl _, fun _ _ _ => rfl⟩
theorem Kept.trans {rb : Nat} {a b c : World} (h : Kept rb a b) (k : Kept rb b c) : Kept rb a c :=
  ⟨k.os.trans h.os, k.tape.trans h.tape, k.output.trans h.output, Nat.le_trans h.size k.size, fun i hi hn => (k.block i (Nat.lt_of_lt_of_le hi h.size) hn).trans (h.block i hi hn)⟩
theorem Kept.drewN {rb : Nat} {a b : World} (h : Kept rb a b) (n : Nat) : Kept rb a (b.drewN n) := ⟨h.os, h.tape, h.output, h.size, h.block⟩
theorem Kept.alloc {rb : Nat} {a b : World} (h : Kept rb a b) (o : Obj) : Kept rb a (b.alloc o) := h.trans (World.grownBy_alloc b o _)
theorem Kept.setCell {rb : Nat} {a b : World} (h : Kept rb a b) (i : Nat) (v : Value) : Kept rb a (b.setCell ⟨rb, i, none⟩ v) :=
  h.trans ⟨rfl, rfl, rfl, by simp [World.setCell], fun k _ hn => Below.heap_setCell _ _ _ _ (fun e => hn (by rw [e]))⟩

theorem set_third {w : World} {b : Nat} {x y z : Value} {t : TypeId} (h : w.heap[b]? = some (.cells #[x, y, z] t (0, 0))) (u : Value) : (w.setCell ⟨b, 2, none⟩ u).heap[b]? = some (.cells #[x, y, u] t (0, 0)) := by
  simp [World.setCell, Array.getElem?_modify, h]
theorem RS.setK {w : World} {rb g cap : Nat} {T : List Tok} {s : St} (h : RS w rb g cap T s) (hk : s.k < 400) : RS (w.setCell ⟨rb, 1, none⟩ (.int .i64 ((s.k : Int) + 1))) rb g cap T ⟨s.k + 1, s.bad⟩ :=
  h.keep (Below.heap_setCell _ _ _ _ h.ne) (by rw [set_second h.r]; rfl) (by show s.k + 1 ≤ 400; omega) h.blo h.bhi
theorem RS.setBad {w : World} {rb g cap : Nat} {T : List Tok} {s : St} (h : RS w rb g cap T s) : RS (w.setCell ⟨rb, 2, none⟩ (.int .i64 ((tk T s.k).pos : Int))) rb g cap T ⟨s.k, ((tk T s.k).pos : Int)⟩ :=
  h.keep (Below.heap_setCell _ _ _ _ h.ne) (by rw [set_third h.r]) h.kle (by show (-1 : Int) ≤ ((tk T s.k).pos : Int); omega) (by have := h.pos s.k; show ((tk T s.k).pos : Int) ≤ 400; omega)

set_option maxRecDepth 100000 in
theorem take_any (w : World) (rb g cap : Nat) (T : List Tok) (s : St) (x : List UInt8) (h : RS w rb g cap T s) (hk : s.k < T.length) :
    Calls Tryz.prog 75 #[.pointer (some ⟨rb, 0, none⟩), .string (B x)] w fun e w' => e = .returned (.bool (isS T s x)) ∧ RS w' rb g cap T (takeS T s x) ∧ Kept rb w w' := by
  have hl := h.len
  cases hi : isS T s x with
  | true =>
    go_enter Tryz.func75, Tryz.ntmps75
    go_wp2_with fail
    refine (is_any w rb g cap T s x h hk).mono ?_
    rintro e w1 ⟨he, n, rfl⟩
    rw [hi] at he
    subst he
    have h1 := h.drewN n
    have c1 := h1.cell1
    have f1 := free_second h1.r
    have hk2 : (s.k : Int) < 400 := by omega
    have HI := hid hi
    have H1 := hid h1
    clear hi h h1
    go_wp2
    go_ret
    refine ⟨rfl, ?_, ((Kept.refl rb w).drewN n).setCell _ _⟩
    unfold takeS
    rw [if_pos HI.out]
    exact H1.out.setK (by omega)
  | false =>
    go_enter Tryz.func75, Tryz.ntmps75
    go_wp2_with fail
    refine (is_any w rb g cap T s x h hk).mono ?_
    rintro e w1 ⟨he, n, rfl⟩
    rw [hi] at he
    subst he
    have H1 := hid (h.drewN n)
    have HI := hid hi
    clear hi h
    go_wp2
    go_ret
    refine ⟨rfl, ?_, (Kept.refl rb w).drewN n⟩
    unfold takeS
    rw [if_neg (by rw [HI.out]; decide)]
    exact H1.out

theorem RS.drew {w : World} {rb g cap : Nat} {T : List Tok} {s : St} (h : RS w rb g cap T s) : RS w.drew rb g cap T s := ⟨h.r, h.t, h.len, h.pos, h.kle, h.blo, h.bhi⟩
theorem Kept.drew {rb : Nat} {a b : World} (h : Kept rb a b) : Kept rb a b.drew := ⟨h.os, h.tape, h.output, h.size, h.block⟩
theorem free_third {w : World} {b : Nat} {c : Array Value} {t : TypeId} (h : w.heap[b]? = some (.cells c t (0, 0))) : w.frozen? ⟨b, 2, none⟩ = false := by simp [World.frozen?, h]
/-- Old cells behind one new block. -/
theorem cell_past {w : World} {b o : Nat} {v : Value} (h : w.cell? ⟨b, o, none⟩ = some v) (x : Obj) : (w.alloc x).cell? ⟨b, o, none⟩ = some v := by
  have hl : b < w.heap.size := by
    rcases Nat.lt_or_ge b w.heap.size with h' | h'
    · exact h'
    · simp [World.cell?, Array.getElem?_eq_none h'] at h
  rw [World.cell?_alloc_past _ _ _ hl]
  exact h
theorem RS.alloc {w : World} {rb g cap : Nat} {T : List Tok} {s : St} (h : RS w rb g cap T s) (o : Obj) : RS (w.alloc o) rb g cap T s := by
  obtain ⟨cur, e1, e2⟩ := h.t
  exact ⟨by rw [Below.heap_alloc _ _ _ (lt_of_block h.r)]; exact h.r, ⟨cur, by rw [Below.heap_alloc _ _ _ (lt_of_block e1)]; exact e1, e2⟩, h.len, h.pos, h.kle, h.blo, h.bhi⟩

set_option maxRecDepth 100000 in
set_option maxHeartbeats 1000000 in
theorem need_any (w : World) (rb g cap : Nat) (T : List Tok) (s : St) (x : List UInt8) (h : RS w rb g cap T s) (hk : s.k < T.length) :
    Calls Tryz.prog 40 #[.pointer (some ⟨rb, 0, none⟩), .string (B x)] w fun e w' => e = .returned (.string (B (tk T s.k).s)) ∧ RS w' rb g cap T (needS T s x) ∧ Kept rb w w' := by
  have hl := h.len
  have c0 := h.cell0
  have c1 := h.cell1
  obtain ⟨d0, d1, d2⟩ := h.cells s.k hk
  have hk1 : (s.k : Int) < (T.length : Int) := by omega
  have a0 := fun x => cell_past c0 x
  have a1 := fun x => cell_past c1 x
  have b0 := fun x => cell_past d0 x
  have b1 := fun x => cell_past d1 x
  have b2 := fun x => cell_past d2 x
  obtain ⟨k, bad⟩ := s
  dsimp only at *
  have hlt := lt_of_block h.r
  have HH := hid h
  clear h
  go_enter Tryz.func40, Tryz.ntmps40
  go_wp2_with fail
  go_region
  go_wp2_with fail
  refine (take_any _ rb g cap T ⟨k, bad⟩ x (RS.drew (HH.out.alloc _)) hk).mono ?_
  rintro e w2 ⟨rfl, h2, hkept⟩
  have ht : w2.heap[w.heap.size]? = some (.cells #[.string (B (tk T k).is), .string (B (tk T k).s), .int .i64 ((tk T k).pos : Int)] 151 (0, 0)) := by
    rw [hkept.block _ (by simp) (by simp; omega)]
    exact heap_alloc_new _ _
  have k1 := cell_second ht
  have k2 := cell_third ht
  have hkk : Kept rb w w2 := (((Kept.refl rb w).alloc _).drew).trans hkept
  have HK := hid hkk
  clear hkk hkept ht a0 a1 b0 b1 b2 c0 c1 d0 d1 d2
  cases hi : isS T ⟨k, bad⟩ x with
  | true =>
    have H2 := hid h2
    have HI := hid hi
    clear h2 hi
    go_wp2
    go_ret
    refine ⟨rfl, ?_, HK.out⟩
    have := H2.out
    unfold takeS at this
    unfold needS
    rw [if_pos HI.out] at this ⊢
    exact this
  | false =>
    have h3 : RS w2 rb g cap T ⟨k, bad⟩ := by
      unfold takeS at h2
      rw [if_neg (by rw [hi]; decide)] at h2
      exact h2
    have e2 := h3.cell2
    have f2 := free_third h3.r
    have H3 := hid h3
    have HI := hid hi
    clear h2 hi h3
    by_cases hb : bad < 0
    · have hd : decide (bad < 0) = true := by simp [hb]
      have HB := hid hb
      clear hb
      go_wp2
      go_ret
      refine ⟨rfl, ?_, HK.out.setCell _ _⟩
      unfold needS
      rw [if_neg (by rw [HI.out]; decide), if_pos HB.out]
      exact H3.out.setBad
    · have hd : decide (bad < 0) = false := by simp; omega
      have HB := hid hb
      clear hb
      go_wp2
      go_ret
      refine ⟨rfl, ?_, HK.out⟩
      unfold needS
      rw [if_neg (by rw [HI.out]; decide), if_neg (by have := HB.out; show ¬ bad < 0; omega)]
      exact H3.out
end Go.Proofs.YtcdijppegfcoaaaGreatDoor
