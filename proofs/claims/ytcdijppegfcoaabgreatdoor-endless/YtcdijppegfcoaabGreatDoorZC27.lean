import Derived.Test.YtcdijppegfcoaabGreatDoorZC23
import Derived.Test.YtcdijppegfcoaabGreatDoorZC26
namespace Go.Proofs.YtcdijppegfcoaabGreatDoor
open Go.RowKit
theorem TSv.more {C : TC} {H H3 : Nat → Option Obj} {ca : List Nat} {σ : Sto} {d d3 : Nat → Nat} {nb : List (List UInt8 × Et)} {nv : Value} {vs : List NE} {w w3 : World} (h : TSv C H ca σ d nb nv vs w) (g : Gb (InAs ca) w w3) (c3 : CSd H ca σ d3 w3) (z3 : Fz H3 w3) (x1 : ∀ k o,H k = some o → H3 k = some o) (x2 : ∀ k o,H3 k = some o → H k = some o ∨ w.heap.size ≤ k) :
    TSv C H3 ca σ d3 nb nv vs w3 ∧ MX H H3 ca ca w := by
  have x : MX H H3 ca ca w := ⟨x1,x2,List.prefix_refl _,fun _ h => Or.inl h⟩
  have off : ∀ a,a ∈ ca → H3 a = none := fun a ha => x.none (InAs.lt h.ms.cs ha) (h.ms.cs.off a ha)
  exact ⟨h.step ⟨c3.more x1 z3 off,(h.cs c3 g).ms.bk,x.none h.ms.bk.lt h.ms.ht,h.ms.hta⟩ x (g.mono fun k e => Or.inr e),x⟩
end Go.Proofs.YtcdijppegfcoaabGreatDoor
