/-
  OUR OWN TEXT. A cell in a later world.
-/
import Derived.Test.YtcdijppegfcoaaaGreatDoorPNm
namespace Go.Proofs.YtcdijppegfcoaaaGreatDoor
open Go.RowKit

theorem grown_cell {w wx : World} {b i : Nat} {v : Value} (h : w.cell? ⟨b, i, none⟩ = some v) (hl : b < w.heap.size) (hg : w.grownBy wx none) : wx.cell? ⟨b, i, none⟩ = some v := by
  rw [World.cell?_of_block (a := ⟨b, i, none⟩) (hg.block b hl (by simp))]
  exact h
end Go.Proofs.YtcdijppegfcoaaaGreatDoor
