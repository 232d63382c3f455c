/-
  OUR OWN TEXT. An error of the program's own; a world that has drawn.
-/
import Derived.Test.YtcdijppegfcoaabGreatDoorPNm
namespace Go.Proofs.YtcdijppegfcoaabGreatDoor
open Go.RowKit

def errV (a : Addr) : Value := .iface 372 (.pointer (some a))
theorem grown_drew {w w' : World} {r : Option Nat} (h : w.grownBy w' r) : w.grownBy w'.drew r := ⟨h.os, h.tape, h.output, h.size, h.block⟩
end Go.Proofs.YtcdijppegfcoaabGreatDoor
