import Derived.Test.YtcdijppegfcoaaaGreatDoorZT02
import Derived.Deep.DeepCutAuto
/-
  OUR OWN TEXT. typerref.Text at an application.
-/
namespace Go.Proofs.YtcdijppegfcoaaaGreatDoor
open Go.RowKit
/-- Brackets about a function that is applied; about what it is applied to. -/
def brF (p : List UInt8) : Bool := p == kFun || (p == kIf || (p == kLet || p == kRec))
def brA (p : List UInt8) : Bool := p != kName && (p != kNum && p != oPair)
def inBr (b : Bool) (t : List UInt8) : List UInt8 := if b = true then tOpen ++ t ++ tShut else t
theorem inBr_len (b : Bool) (t : List UInt8) : (inBr b t).length ≤ t.length + 2 := by
  unfold inBr
  split
  · simp [tOpen, tShut]
  · omega

end Go.Proofs.YtcdijppegfcoaaaGreatDoor
