/-
  OUR OWN TEXT. typerref's reader: exp, where an atom begins.
-/
import Derived.Test.YtcdijppegfcoaabGreatDoorRefE
namespace Go.Proofs.YtcdijppegfcoaabGreatDoor
open Go.RowKit

/-- Behind the first atom: what has been read lies at block b. -/
def AIn (T : List Tok) (w0 w : World) (rb g cap : Nat) (H0 : Nat → Option Obj) (s : St) (b : Nat) (x : Ex) : Prop :=
  ∃ H m, RS w rb g cap T s ∧ s.k < T.length ∧ Kept rb w0 w ∧ Fz H w ∧ Ext w0.heap.size H0 H ∧ XRep m H b x
theorem AIn.at {T : List Tok} {w0 w : World} {rb g cap : Nat} {H0 : Nat → Option Obj} {s : St} {b : Nat} {x : Ex} (h : AIn T w0 w rb g cap H0 s b x) : ∃ p q r, w.heap[b]? = some (.cells #[p, q, r, .int .i64 (x.pos : Int)] 99005 (0, 0)) := by
  obtain ⟨H, m, _, _, _, hz, _, hx⟩ := h
  cases m with
  | zero => exact absurd hx id
  | succ m =>
    obtain ⟨ns, ks, bs, h1, _⟩ := hx
    exact ⟨_, ns, ks, hz _ _ h1⟩

def moreS (T : List Tok) (t : St) : Bool := isS T t kName || (isS T t kNum || isS T t kOpen)
theorem more_iff {T : List Tok} {t : St} : moreS T t = true ↔ (isS T t kName = true ∨ isS T t kNum = true ∨ isS T t kOpen = true) := by simp [moreS]
theorem rep_some {m : Nat} {H : Nat → Option Obj} {b : Nat} {x : Ex} (h : XRep m H b x) : H b ≠ none := by
  cases m with
  | zero => exact absurd h id
  | succ m =>
    obtain ⟨ns, ks, bs, h1, _⟩ := h
    rw [h1]
    exact fun e => by cases e

end Go.Proofs.YtcdijppegfcoaabGreatDoor
