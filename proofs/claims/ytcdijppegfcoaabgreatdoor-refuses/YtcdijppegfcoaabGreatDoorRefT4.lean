/-
  OUR OWN TEXT. typerref.Text at a let, with rec or without.
-/
import Derived.Test.YtcdijppegfcoaabGreatDoorRefT3
import Derived.Deep.LoopGhost
namespace Go.Proofs.YtcdijppegfcoaabGreatDoor
open Go.RowKit

def tLet : List UInt8 := [108, 101, 116, 32]
def tRec : List UInt8 := [114, 101, 99, 32]
def tAnd : List UInt8 := [32, 97, 110, 100, 32]
def tEq : List UInt8 := [32, 61, 32]
def tIn : List UInt8 := [32, 105, 110, 32]
/-- The text of the first j names and what they are. -/
def bindTo (nm ts : Nat → List UInt8) : Nat → List UInt8
  | 0 => []
  | j + 1 => bindTo nm ts j ++ ((if 0 < j then tAnd else []) ++ (nm j ++ tEq ++ ts j))
def letHead (op : List UInt8) : List UInt8 := tLet ++ (if op = kRec then tRec else [])
theorem bindTo_le (nm ts : Nat → List UInt8) (j k : Nat) (h : j ≤ k) : (bindTo nm ts j).length ≤ (bindTo nm ts k).length := by
  induction k with
  | zero => rw [Nat.le_zero.1 h]; exact Nat.le_refl _
  | succ k ih =>
    rcases Nat.lt_or_ge j (k + 1) with hlt | hge
    · have := ih (by omega)
      rw [bindTo, List.length_append]
      omega
    · rw [show j = k + 1 from by omega]; exact Nat.le_refl _
theorem bindTo_step (nm ts : Nat → List UInt8) (j : Nat) : (bindTo nm ts j).length + (nm j).length + (ts j).length + 3 ≤ (bindTo nm ts (j + 1)).length := by
  rw [bindTo]
  simp only [List.length_append, tEq, List.length_cons, List.length_nil]
  omega

end Go.Proofs.YtcdijppegfcoaabGreatDoor
