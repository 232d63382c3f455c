/-
  OUR OWN TEXT. typerref's reader: is, take, need.
-/
import Derived.Test.YtcdijppegfcoaabGreatDoorChecked
import Derived.Test.YtcdijppegfcoaabGreatDoorParse
import Derived.WalkSpells
import Derived.Outline
import Derived.Deep.QuietTactic
import Derived.BigQuiet
namespace Go.Proofs.YtcdijppegfcoaabGreatDoor
open Go.RowKit

/-- The reader's cells, in the walk's spelling. -/
theorem RS.cell0 {w : World} {rb g cap : Nat} {T : List Tok} {s : St} (h : RS w rb g cap T s) : w.cell? ⟨rb, 0, none⟩ = some (.slice (some ⟨g, 0, none⟩) T.length cap) := cell_first h.r
theorem RS.cell1 {w : World} {rb g cap : Nat} {T : List Tok} {s : St} (h : RS w rb g cap T s) : w.cell? ⟨rb, 1, none⟩ = some (.int .i64 s.k) := cell_second h.r
theorem RS.cell2 {w : World} {rb g cap : Nat} {T : List Tok} {s : St} (h : RS w rb g cap T s) : w.cell? ⟨rb, 2, none⟩ = some (.int .i64 s.bad) := cell_third h.r

theorem is_yes {T : List Tok} {k : Nat} {bad : Int} {t x : List UInt8} (hb : bad < 0) (ht : t = (tk T k).is) : ((B t).toList == (B x).toList) = isS T ⟨k, bad⟩ x := by
  rw [toList_B, toList_B, ht]
  simp [isS, hb]
theorem is_no {T : List Tok} {k : Nat} {bad : Int} {x : List UInt8} (hb : ¬ bad < 0) : false = isS T ⟨k, bad⟩ x := by
  simp [isS, hb]

theorem RS.drewN {w : World} {rb g cap : Nat} {T : List Tok} {s : St} (h : RS w rb g cap T s) (n : Nat) : RS (w.drewN n) rb g cap T s :=
  ⟨h.r, h.t, h.len, h.pos, h.kle, h.blo, h.bhi⟩

/-- What a step of the reader keeps: all but its own cells. -/
def Kept (rb : Nat) (w w' : World) : Prop := w.grownBy w' (some rb)
theorem Kept.refl (rb : Nat) (w : World) : Kept rb w w := ⟨rfl, rfl, rfl, Nat.le_refl _, fun _ _ _ => rfl⟩
theorem Kept.trans {rb : Nat} {a b c : World} (h : Kept rb a b) (k : Kept rb b c) : Kept rb a c :=
  ⟨k.os.trans h.os, k.tape.trans h.tape, k.output.trans h.output, Nat.le_trans h.size k.size, fun i hi hn => (k.block i (Nat.lt_of_lt_of_le hi h.size) hn).trans (h.block i hi hn)⟩
theorem Kept.drewN {rb : Nat} {a b : World} (h : Kept rb a b) (n : Nat) : Kept rb a (b.drewN n) := ⟨h.os, h.tape, h.output, h.size, h.block⟩
theorem Kept.alloc {rb : Nat} {a b : World} (h : Kept rb a b) (o : Obj) : Kept rb a (b.alloc o) := h.trans (World.grownBy_alloc b o _)
theorem Kept.setCell {rb : Nat} {a b : World} (h : Kept rb a b) (i : Nat) (v : Value) : Kept rb a (b.setCell ⟨rb, i, none⟩ v) :=
  h.trans ⟨rfl, rfl, rfl, by simp [World.setCell], fun k _ hn => Below.heap_setCell _ _ _ _ (fun e => hn (by rw [e]))⟩

theorem set_third {w : World} {b : Nat} {x y z : Value} {t : TypeId} (h : w.heap[b]? = some (.cells #[x, y, z] t (0, 0))) (u : Value) : (w.setCell ⟨b, 2, none⟩ u).heap[b]? = some (.cells #[x, y, u] t (0, 0)) := by
  simp [World.setCell, Array.getElem?_modify, h]
theorem RS.setK {w : World} {rb g cap : Nat} {T : List Tok} {s : St} (h : RS w rb g cap T s) (hk : s.k < 400) : RS (w.setCell ⟨rb, 1, none⟩ (.int .i64 ((s.k : Int) + 1))) rb g cap T ⟨s.k + 1, s.bad⟩ :=
  h.keep (Below.heap_setCell _ _ _ _ h.ne) (by rw [set_second h.r]; rfl) (by show s.k + 1 ≤ 400; omega) h.blo h.bhi
theorem RS.setBad {w : World} {rb g cap : Nat} {T : List Tok} {s : St} (h : RS w rb g cap T s) : RS (w.setCell ⟨rb, 2, none⟩ (.int .i64 ((tk T s.k).pos : Int))) rb g cap T ⟨s.k, ((tk T s.k).pos : Int)⟩ :=
  h.keep (Below.heap_setCell _ _ _ _ h.ne) (by rw [set_third h.r]) h.kle (by show (-1 : Int) ≤ ((tk T s.k).pos : Int); omega) (by have := h.pos s.k; show ((tk T s.k).pos : Int) ≤ 400; omega)

theorem RS.drew {w : World} {rb g cap : Nat} {T : List Tok} {s : St} (h : RS w rb g cap T s) : RS w.drew rb g cap T s := ⟨h.r, h.t, h.len, h.pos, h.kle, h.blo, h.bhi⟩
theorem Kept.drew {rb : Nat} {a b : World} (h : Kept rb a b) : Kept rb a b.drew := ⟨h.os, h.tape, h.output, h.size, h.block⟩
theorem free_third {w : World} {b : Nat} {c : Array Value} {t : TypeId} (h : w.heap[b]? = some (.cells c t (0, 0))) : w.frozen? ⟨b, 2, none⟩ = false := by simp [World.frozen?, h]
/-- Old cells behind one new block. -/
theorem cell_past {w : World} {b o : Nat} {v : Value} (h : w.cell? ⟨b, o, none⟩ = some v) (x : Obj) : (w.alloc x).cell? ⟨b, o, none⟩ = some v := by
  have hl : b < w.heap.size := by
    rcases Nat.lt_or_ge b w.heap.size with h' | h'
    · exact h'
    · simp [World.cell?, Array.getElem?_eq_none h'] at h
  rw [World.cell?_alloc_past _ _ _ hl]
  exact h
theorem RS.alloc {w : World} {rb g cap : Nat} {T : List Tok} {s : St} (h : RS w rb g cap T s) (o : Obj) : RS (w.alloc o) rb g cap T s := by
  obtain ⟨cur, e1, e2⟩ := h.t
  exact ⟨by rw [Below.heap_alloc _ _ _ (lt_of_block h.r)]; exact h.r, ⟨cur, by rw [Below.heap_alloc _ _ _ (lt_of_block e1)]; exact e1, e2⟩, h.len, h.pos, h.kle, h.blo, h.bhi⟩

end Go.Proofs.YtcdijppegfcoaabGreatDoor
