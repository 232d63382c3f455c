/-
  OUR OWN TEXT. typerref's reader: exp, whole, by induction.
-/
import Derived.Test.YtcdijppegfcoaabGreatDoorRefG
import Derived.Test.YtcdijppegfcoaabGreatDoorRefP
namespace Go.Proofs.YtcdijppegfcoaabGreatDoor
open Go.RowKit


end Go.Proofs.YtcdijppegfcoaabGreatDoor
