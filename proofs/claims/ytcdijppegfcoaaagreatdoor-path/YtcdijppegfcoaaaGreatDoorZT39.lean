import Derived.Test.YtcdijppegfcoaaaGreatDoorChecked
import Derived.WalkKit
import Derived.LaidEql
import Derived.Stop.Asserts
import Derived.RowKitTokens
import Derived.Test.YtcdijppegfcoaaaGreatDoorZT06
import Derived.Outline
/-
  OUR OWN TEXT (written by mkasm.py). errors.As: misses, and a hit at once.
-/
namespace Go.Proofs.YtcdijppegfcoaaaGreatDoor
open Go.RowKit Go.Extern.Stop Go.Stop Go.Extern
def ETy : Value := .iface 278 (.agg #[.pointer (some ⟨15, 72, none⟩)])

theorem as_nil (t : Value) (w : World) : Calls Tryz.prog 70 #[.nilIface, t] w fun e w' => e = .returned (.bool false) ∧ w' = w := by
  go_enter Tryz.func70, Tryz.ntmps70
  go_wp2
  go_ret
  exact ⟨rfl, rfl⟩

end Go.Proofs.YtcdijppegfcoaaaGreatDoor
