/-
  OUR OWN TEXT (written by mkexp.py). typerref's reader: exp, where a let rec begins.
-/
import Derived.Test.YtcdijppegfcoaabGreatDoorRefL
namespace Go.Proofs.YtcdijppegfcoaabGreatDoor
open Go.RowKit

theorem bound_parts {E : St → Option (Ex × St)} {T : List Tok} {x y : Ex} {s s' : St} (h : boundS E T x s = some (y, s')) : y.op = x.op ∧ y.names.length = x.names.length + 1 ∧ y.kids.length = x.kids.length + 1 ∧ y.pos = x.pos := by
  unfold boundS at h
  split at h
  · cases h
  · cases h
    simp
end Go.Proofs.YtcdijppegfcoaabGreatDoor
