import Derived.Test.YtcdijppegfcoaabGreatDoorZC28
import Derived.Test.YtcdijppegfcoaabGreatDoorZC26
namespace Go.Proofs.YtcdijppegfcoaabGreatDoor
open Go.RowKit
theorem rec_within {C : TC} {ad : Nat → Addr} {P : Ex → List (List UInt8 × Et) → Sto → Option (Sum Nat (Sto × Nat))} (hP : PAE C ad P) {e : Ex} {v : Value} {m g cap n : Nat} {σ : Sto} {nb grp : List (List UInt8 × Et)} {r : Sum Nat (Sto × Nat)} {H : Nat → Option Obj} {ca : List Nat} {d : Nat → Nat} {nv : Value} {vs nk : List NE} {w : World} (hp : PRep m H v e) (hr : P e (nb ++ grp) σ = some r) (hgl : GLb C.base ad w) (h : TSv C H ca σ d nb nv vs w) (ah : AHd H ca g nk grp) (ln : nk.length = n) (h0 : 0 < n) (hk : nb.length + grp.length ≤ 1000) :
    Calls Tryz.prog 157 #[CP C.tb,v,.slice (some ⟨g,0,none⟩) n cap] w (TSE C ad H ca r nb w) := by
  have := within_e (capm := cap) hP hp hr hgl h ah.len (by rw [ln]; exact h0) hk (ah.cells h.ms.cs.fz) ah.is
  rw [ln] at this
  exact this
end Go.Proofs.YtcdijppegfcoaabGreatDoor
