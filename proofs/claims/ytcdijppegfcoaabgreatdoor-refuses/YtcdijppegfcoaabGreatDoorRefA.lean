/-
  OUR OWN TEXT. typerref's reader: atom.
-/
import Derived.Test.YtcdijppegfcoaabGreatDoorTree
import Derived.Deep.RegionWith
import Derived.Deep.RegionHeld3
import Derived.Deep.RegionLaw
import Derived.Deep.AppendLies
import Derived.Deep.DeepCutAuto
import Derived.Deep.CutBlock
namespace Go.Proofs.YtcdijppegfcoaabGreatDoor
open Go.RowKit

/-- The list of tokens ends with one that is none, or the end, and no other is. -/
def Wf (T : List Tok) : Prop := 0 < T.length ∧ ∀ k, k < T.length → ((tk T k).is = kNone ∨ (tk T k).is = kEnd ↔ k + 1 = T.length)
theorem Wf.up {T : List Tok} (h : Wf T) {s : St} {x : List UInt8} (hk : s.k < T.length) (hi : isS T s x = true) (h1 : x ≠ kNone) (h2 : x ≠ kEnd) : s.k + 1 < T.length := by
  have e : (tk T s.k).is = x := by
    simp only [isS, Bool.and_eq_true, beq_iff_eq] at hi
    exact hi.2
  rcases Nat.lt_or_ge (s.k + 1) T.length with hlt | hge
  · exact hlt
  · have := (h.2 s.k hk).2 (by omega)
    rw [e] at this
    exact absurd this (by simp [h1, h2])
theorem Wf.need {T : List Tok} (h : Wf T) {s : St} {x : List UInt8} (hk : s.k < T.length) (h1 : x ≠ kNone) (h2 : x ≠ kEnd) : (needS T s x).k < T.length := by
  unfold needS
  split
  · rename_i hi; exact h.up hk hi h1 h2
  · exact hk

theorem kept_cell {rb : Nat} {w w' : World} (h : Kept rb w w') {b o : Nat} (hb : b < w.heap.size) (hn : b ≠ rb) : w'.cell? ⟨b, o, none⟩ = w.cell? ⟨b, o, none⟩ :=
  World.cell?_of_block (a := ⟨b, o, none⟩) (h.block b hb (by simp; exact hn))
theorem lit_name : ({ data := #[110, 97, 109, 101] } : ByteArray) = B kName := rfl

end Go.Proofs.YtcdijppegfcoaabGreatDoor
