/-
  OUR OWN TEXT (written by mkexp.py). typerref's reader: exp, where a let without rec begins.
-/
import Derived.Test.YtcdijppegfcoaabGreatDoorRefI
namespace Go.Proofs.YtcdijppegfcoaabGreatDoor
open Go.RowKit

/-- bound, inside exp. -/
theorem EIn.bound {T : List Tok} {w0 w w' : World} {rb g cap : Nat} {H0 H : Nat → Option Obj} {s' : St} {x : Ex} (hk : KeptTo w0.heap.size rb w0 w) (he : Ext w0.heap.size H0 H) (hw : w0.heap.size ≤ w.heap.size) (h : BPost T w w' rb g cap w0.heap.size H s' x) : EIn T w0 w' rb g cap H0 s' x := by
  obtain ⟨H', ns', ks', bs', m', h1, h2, h3, h4, h5, h6⟩ := h
  exact ⟨H', ns', ks', bs', m', h1, h2, hk.trans h3, h4, he.trans h5 hw, h6⟩

end Go.Proofs.YtcdijppegfcoaabGreatDoor
