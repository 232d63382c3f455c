import Derived.Test.YtcdijppegfcoaaaGreatDoorZT14
/-
  OUR OWN TEXT. typerref's reader: exp, where the place is wrong already, and where a function begins.
-/
namespace Go.Proofs.YtcdijppegfcoaaaGreatDoor
open Go.RowKit
/-- What exp leaves. -/
def EPost (T : List Tok) (w w' : World) (rb g cap b : Nat) (H : Nat → Option Obj) (s' : St) (ex : Ex) : Prop :=
  ∃ H' m, RS w' rb g cap T s' ∧ s'.k < T.length ∧ Kept rb w w' ∧ Fz H' w' ∧ Ext w.heap.size H H' ∧ XRep m H' b ex
/-- Inside exp: the expression that is being made lies at the block that was the first new one. -/
def EIn (T : List Tok) (w0 w : World) (rb g cap : Nat) (H0 : Nat → Option Obj) (s : St) (x : Ex) : Prop :=
  ∃ H ns ks bs m, RS w rb g cap T s ∧ s.k < T.length ∧ KeptTo w0.heap.size rb w0 w ∧ Fz H w ∧ Ext w0.heap.size H0 H ∧ XM w w0.heap.size H ns ks bs m x
theorem EIn.post {T : List Tok} {w0 w : World} {rb g cap : Nat} {H0 : Nat → Option Obj} {s : St} {x : Ex} (h : EIn T w0 w rb g cap H0 s x) : EPost T w0 w rb g cap w0.heap.size H0 s x := by
  obtain ⟨H, ns, ks, bs, m, h1, h2, h3, h4, h5, h6⟩ := h
  obtain ⟨H', z1, z2, z3⟩ := h6.freeze h4
  exact ⟨H', m + 1, h1, h2, h3.toKept, z1, h5.trans z2 (Nat.le_refl _), z3⟩

/-- A step of the reader inside exp. -/
theorem EIn.call {T : List Tok} {w0 w w' : World} {rb g cap : Nat} {H0 H : Nat → Option Obj} {ns ks : Value} {bs : List Nat} {m : Nat} {s' : St} {x : Ex} (hk : KeptTo w0.heap.size rb w0 w) (hz : Fz H w) (he : Ext w0.heap.size H0 H) (hx : XM w w0.heap.size H ns ks bs m x)
    (hr : rb < w0.heap.size) (hn : H0 rb = none) (h' : RS w' rb g cap T s') (hk' : s'.k < T.length) (kp : Kept rb w w') : EIn T w0 w' rb g cap H0 s' x := by
  have hl := lt_of_block hx.blk
  have hHr : H rb = none := by rw [he.2 rb hr]; exact hn
  exact ⟨H, ns, ks, bs, m, h', hk', hk.trans (KeptTo.of kp (by omega)), hz.kept kp hHr, he, hx.kept kp (Ext.refl _ _) hr⟩

end Go.Proofs.YtcdijppegfcoaaaGreatDoor
