/-
  OUR OWN TEXT. typerref.Read.
-/
import Derived.Test.YtcdijppegfcoaabGreatDoorPureC
import Derived.Handy
namespace Go.Proofs.YtcdijppegfcoaabGreatDoor
open Go.RowKit

theorem old_cell {w : World} {b o : Nat} {v : Value} (ob : Obj) (h : w.cell? ⟨b, o, none⟩ = some v) (hb : b < w.heap.size) : (w.alloc ob).cell? ⟨b, o, none⟩ = some v := by
  rw [← h]
  exact World.cell?_of_block (a := ⟨b, o, none⟩) (Below.heap_alloc _ _ _ hb)
/-- What read hands back: the reader's tokens, and where it stands when the end is needed. -/
def toksOf (kw : List (List UInt8)) (s : ByteArray) : List Tok := toks kw s.data.toList (s.size + 1) 0
theorem toksOf_len (kw : List (List UInt8)) (s : ByteArray) : (toksOf kw s).length ≤ s.size + 1 := toks_len _ _ _ _
/-- The reader laid into memory. -/
theorem rs_new {w : World} {g cap : Nat} {T : List Tok} {cur : Array Value} (hg : w.heap[g]? = some (.cells cur 99002 (0, 0))) (ht : cur.toList.take (T.length * 3) = rowCells T) (hl : T.length ≤ 400) (hp : ∀ k, (tk T k).pos ≤ 400) :
    RS (w.alloc (.cells #[.slice (some ⟨g, 0, none⟩) T.length cap, .int .i64 0, .int .i64 (-1)] 99003)) w.heap.size g cap T ⟨0, -1⟩ :=
  ⟨heap_alloc_new _ _, ⟨cur, by rw [Below.heap_alloc _ _ _ (lt_of_block hg)]; exact hg, ht⟩, hl, hp, Nat.zero_le _, by show (-1 : Int) ≤ -1; omega, by show (-1 : Int) ≤ 400; omega⟩
theorem fz_none (w : World) : Fz (fun _ => none) w := fun k o e => by cases e
def fv (a b : Int) : Value := .agg #[.int .i64 a, .int .i64 b, .string (B []), .int .i64 0, .int .i64 0]
/-- What Read answers: s2: where its reader stands at last. -/
def ReadPost (w w' : World) (e : Ending) (x : Ex) (s2 : St) : Prop :=
  Below w.heap.size w w' ∧ ((0 ≤ s2.bad ∧ e = .returned (.tuple #[.pointer none, fv 2 s2.bad])) ∨
    (s2.bad < 0 ∧ ∃ m c, Nice m x c ∧ c ≤ 400 ∧ ((40 < exDeep m x ∧ e = .returned (.tuple #[.pointer none, fv 3 0])) ∨
      (exDeep m x ≤ 40 ∧ ∃ b H', e = .returned (.tuple #[.pointer (some ⟨b, 0, none⟩), fv 0 0]) ∧ Fz H' w' ∧ XRep m H' b x))))
theorem fv_below {w w3 : World} (h : Below w.heap.size w w3) (v0 v1 v2 v3 v4 : Value) : Below w.heap.size w ((((((w3.setCell ⟨w.heap.size, 0, none⟩ v0).setCell ⟨w.heap.size, 1, none⟩ v1).setCell ⟨w.heap.size, 2, none⟩ v2).setCell ⟨w.heap.size, 3, none⟩ v3).setCell ⟨w.heap.size, 4, none⟩ v4).drew) :=
  (((((h.setCell (Nat.le_refl _) _).setCell (Nat.le_refl _) _).setCell (Nat.le_refl _) _).setCell (Nat.le_refl _) _).setCell (Nat.le_refl _) _).drew
theorem fv_below' {w w3 : World} (h : Below w.heap.size w w3) (v0 v1 v2 v3 v4 : Value) : Below w.heap.size w (((((w3.setCell ⟨w.heap.size, 0, none⟩ v0).setCell ⟨w.heap.size, 1, none⟩ v1).setCell ⟨w.heap.size, 2, none⟩ v2).setCell ⟨w.heap.size, 3, none⟩ v3).setCell ⟨w.heap.size, 4, none⟩ v4) :=
  ((((h.setCell (Nat.le_refl _) _).setCell (Nat.le_refl _) _).setCell (Nat.le_refl _) _).setCell (Nat.le_refl _) _).setCell (Nat.le_refl _) _
end Go.Proofs.YtcdijppegfcoaabGreatDoor
