import Derived.Test.YtcdijppegfcoaabGreatDoorZK19
namespace Go.Proofs.YtcdijppegfcoaabGreatDoor
open Go.RowKit
theorem grown_drew' {w w' : World} (h : w.drew.grownBy w' none) : w.grownBy w' none := ⟨h.os,h.tape,h.output,h.size,h.block⟩
end Go.Proofs.YtcdijppegfcoaabGreatDoor
