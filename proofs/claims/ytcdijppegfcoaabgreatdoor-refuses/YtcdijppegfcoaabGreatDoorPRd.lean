/-
  OUR OWN TEXT. The program's reader of tokens: where it stands, and Take.
-/
import Derived.Test.YtcdijppegfcoaabGreatDoorPNextB
import Derived.Test.YtcdijppegfcoaabGreatDoorRefA
namespace Go.Proofs.YtcdijppegfcoaabGreatDoor
open Go.RowKit

/-- The k-th token is the one that stands at J. -/
def At (kw : List (List UInt8)) (l : List UInt8) (T : List Tok) (k J : Nat) : Prop :=
  J ≤ l.length ∧ ∃ f, l.length ≤ J + f ∧ T.drop k = if (tokAt kw l J).1.is = kNone ∨ (tokAt kw l J).1.is = kEnd then [(tokAt kw l J).1] else (tokAt kw l J).1 :: toks kw l f (tokAt kw l J).2
theorem At.start (kw : List (List UInt8)) (l : List UInt8) : At kw l (toks kw l (l.length + 1) 0) 0 (upto isB l 0) := by
  refine ⟨(upto_le isB l 0 (by omega)).2, l.length, by omega, ?_⟩
  rw [List.drop_zero, toks]
theorem At.cons {kw : List (List UInt8)} {l : List UInt8} {T : List Tok} {k J : Nat} (h : At kw l T k J) : ∃ r, T.drop k = (tokAt kw l J).1 :: r := by
  obtain ⟨_, f, _, h2⟩ := h
  rw [h2]
  split
  · exact ⟨_, rfl⟩
  · exact ⟨_, rfl⟩
theorem At.lt {kw : List (List UInt8)} {l : List UInt8} {T : List Tok} {k J : Nat} (h : At kw l T k J) : k < T.length := by
  obtain ⟨r, hr⟩ := h.cons
  rcases Nat.lt_or_ge k T.length with h' | h'
  · exact h'
  · rw [List.drop_eq_nil_of_le h'] at hr
    cases hr
theorem At.tk {kw : List (List UInt8)} {l : List UInt8} {T : List Tok} {k J : Nat} (h : At kw l T k J) : tk T k = (tokAt kw l J).1 := by
  obtain ⟨r, hr⟩ := h.cons
  have : (T.drop k)[0]? = some (tokAt kw l J).1 := by rw [hr]; rfl
  rw [List.getElem?_drop] at this
  simp only [Nat.add_zero] at this
  unfold Proofs.YtcdijppegfcoaabGreatDoor.tk
  rw [List.getD_eq_getElem?_getD, this]
  rfl
theorem At.next {kw : List (List UInt8)} (hkw : KwOK kw) {l : List UInt8} {T : List Tok} {k J : Nat} (h : At kw l T k J) (h1 : (Proofs.YtcdijppegfcoaabGreatDoor.tk T k).is ≠ kNone) (h2 : (Proofs.YtcdijppegfcoaabGreatDoor.tk T k).is ≠ kEnd) :
    At kw l T (k + 1) (upto isB l (J + (nxT l J).length)) ∧ J + (nxT l J).length ≤ l.length := by
  have ht := h.tk
  have ha := asked kw hkw l J h.1
  rw [ht] at h1 h2
  obtain ⟨r1, r2, r3, r4⟩ := ha.real h1 h2
  obtain ⟨_, f, hf, he⟩ := h
  rw [if_neg (by simp [h1, h2])] at he
  rw [r2] at he r3 r4
  have hu := upto_le isB l (J + (nxT l J).length) r4
  refine ⟨⟨hu.2, f - 1, by omega, ?_⟩, r4⟩
  have e2 : T.drop (k + 1) = (T.drop k).drop 1 := by rw [List.drop_drop]
  rw [e2, he]
  obtain ⟨f', rfl⟩ : ∃ f', f = f' + 1 := ⟨f - 1, by omega⟩
  rw [List.drop_succ_cons, List.drop_zero, toks]
  rfl

/-- The program's reader in memory: its text, and the token that stands at J. -/
def Rdr (w : World) (rb : Nat) (s : ByteArray) (J : Nat) : Prop :=
  w.heap[rb]? = some (.cells #[.string s, .int .i64 ((nxK s.data.toList J : Nat) : Int), .string (B (nxT s.data.toList J)), .int .i64 (J : Int)] 208 (0, 0))

theorem four_p {w : World} {b : Nat} {p q r s : Value} {t : TypeId} (h : w.heap[b]? = some (.cells #[p, q, r, s] t (0, 0))) :
    w.cell? ⟨b, 0, none⟩ = some p ∧ w.cell? ⟨b, 1, none⟩ = some q ∧ w.cell? ⟨b, 2, none⟩ = some r ∧ w.cell? ⟨b, 3, none⟩ = some s ∧ w.frozen? ⟨b, 1, none⟩ = false ∧ w.frozen? ⟨b, 2, none⟩ = false ∧ w.frozen? ⟨b, 3, none⟩ = false := by
  simp [World.cell?, World.frozen?, h]
theorem set_four {w : World} {b : Nat} {p q r s : Value} {t : TypeId} (h : w.heap[b]? = some (.cells #[p, q, r, s] t (0, 0))) (x y z : Value) :
    (((w.setCell ⟨b, 1, none⟩ x).setCell ⟨b, 2, none⟩ y).setCell ⟨b, 3, none⟩ z).heap[b]? = some (.cells #[p, x, y, z] t (0, 0)) := by
  simp [World.setCell, Array.getElem?_modify, h]
theorem Kept.of0 {w w' : World} (rb : Nat) (h : w.grownBy w' none) : Kept rb w w' := ⟨h.os, h.tape, h.output, h.size, fun i hi _ => h.block i hi (by simp)⟩

set_option maxRecDepth 100000 in
theorem behind_p (k : Nat) (t : List UInt8) (p : Nat) (ht : t.length ≤ 300) (hp : p ≤ 300) (w : World) :
    Calls Tryz.prog 167 #[tokV k t p] w fun e w' => e = .returned (.int .i64 ((p + t.length : Nat) : Int)) ∧ w' = w.alloc (.cells #[.int .i64 (k : Int), .string (B t), .int .i64 (p : Int)] 205) := by
  have hb : (B t).size = t.length := by simp [B, ByteArray.size]
  unfold tokV
  go_enter Tryz.func167, Tryz.ntmps167
  go_wp2
  go_ret
  exact ⟨by rw [Int.natCast_add]; rfl, rfl⟩

set_option maxRecDepth 100000 in
set_option maxHeartbeats 4000000 in
theorem take_p (w : World) (rb : Nat) (s : ByteArray) (J : Nat) (hs : s.size ≤ 300) (h : Rdr w rb s J) (hJ : J + (nxT s.data.toList J).length ≤ s.size) :
    Calls Tryz.prog 125 #[.pointer (some ⟨rb, 0, none⟩)] w fun e w' => e = .returned (.string (B (nxT s.data.toList J))) ∧ Rdr w' rb s (upto isB s.data.toList (J + (nxT s.data.toList J).length)) ∧ Kept rb w w' := by
  have hlt := lt_of_block h
  generalize hkk : nxK s.data.toList J = kk at *
  generalize htt : nxT s.data.toList J = tt at *
  have hb : w.heap[rb]? = some (.cells #[.string s, .int .i64 (kk : Int), .string (B tt), .int .i64 (J : Int)] 208 (0, 0)) := by rw [← hkk, ← htt]; exact h
  obtain ⟨c0, c1, c2, c3, f1, f2, f3⟩ := four_p hb
  have a0 := fun x => cell_past c0 x
  have HB := hid hb
  clear h hb
  go_enter Tryz.func125, Tryz.ntmps125
  go_wp2_with fail
  go_region_with (first | (go_at_call 82; refine (next_any s (J + tt.length) hJ hs _).mono ?_; rintro e w7 ⟨rfl, hg⟩; dsimp only [tokV]; have e7 := (hg.block rb (by simp; omega) (by simp)).trans ((Below.heap_alloc _ _ _ hlt).trans HB.out); have p7 := four_p e7; have E7 := hid e7; have G7 := hid hg; obtain ⟨_, _, _, _, g1, g2, g3⟩ := p7; clear e7 hg) | (go_at_call 167; refine (behind_p kk tt J (by omega) (by omega) _).mono ?_; rintro e w6 ⟨rfl, rfl⟩))
  all_goals
    go_wp2
    go_ret
    exact ⟨rfl, set_four E7.out _ _ _, (((((((Kept.refl rb w).alloc _).drew).trans (Kept.of0 rb G7.out)).setCell _ _).setCell _ _).setCell _ _)⟩
end Go.Proofs.YtcdijppegfcoaabGreatDoor
