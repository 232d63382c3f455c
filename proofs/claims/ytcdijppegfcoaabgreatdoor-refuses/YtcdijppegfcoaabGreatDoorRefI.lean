/-
  OUR OWN TEXT (written by mkexp.py). typerref's reader: exp, where an if begins.
-/
import Derived.Test.YtcdijppegfcoaabGreatDoorRefE
namespace Go.Proofs.YtcdijppegfcoaabGreatDoor
open Go.RowKit

theorem EIn.setOp {T : List Tok} {w0 w : World} {rb g cap : Nat} {H0 H : Nat → Option Obj} {ns ks : Value} {bs : List Nat} {m : Nat} {s : St} {x : Ex} (hk : KeptTo w0.heap.size rb w0 w) (hz : Fz H w) (he : Ext w0.heap.size H0 H) (hx : XM w w0.heap.size H ns ks bs m x)
    (hr : rb < w0.heap.size) (hg : g < w0.heap.size) (h : RS w rb g cap T s) (hs : s.k < T.length) (op : List UInt8) : EIn T w0 (w.setCell ⟨w0.heap.size, 0, none⟩ (.string (B op))) rb g cap H0 s ⟨op, x.names, x.kids, x.pos⟩ :=
  ⟨H, ns, ks, bs, m, h.to hg (fun k hk => Below.heap_setCell _ _ _ _ (by show k ≠ w0.heap.size; omega)) hr, hs, hk.setCell (Nat.le_refl _) _ _, hz.set hx.hx _ _, he, hx.setOp op⟩

end Go.Proofs.YtcdijppegfcoaabGreatDoor
