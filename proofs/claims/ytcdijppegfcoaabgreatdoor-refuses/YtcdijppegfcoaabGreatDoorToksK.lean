import Derived.Test.YtcdijppegfcoaabGreatDoorChecked
import Derived.Test.YtcdijppegfcoaabGreatDoorLexB
import Derived.WalkSpells
import Derived.Outline
import Derived.Deep.DeepCutAuto
import Derived.Deep.LoopGhost
import Derived.Deep.CutBlock
import Derived.Lib.SlBytesConst
namespace Go.Proofs.YtcdijppegfcoaabGreatDoor
open Go.RowKit

/-- Keywords in a row of memory, from a place on. -/
def KwO (w : World) (kb ko : Nat) (kw : List (List UInt8)) : Prop := ∀ j, j < kw.length → w.cell? ⟨kb, ko + j, none⟩ = some (.string (B (kw.getD j [])))

/-- The block of a number in a body. -/
def findBlock (n : Nat) : Code → Option Code
  | .block m c => if m = n then some (.block m c) else findBlock n c
  | .seq a b => match findBlock n a with
    | some c => some c
    | none => findBlock n b
  | .loop c => findBlock n c
  | .cond _ a b => match findBlock n a with
    | some c => some c
    | none => findBlock n b
  | .scope c => findBlock n c
  | _ => none

end Go.Proofs.YtcdijppegfcoaabGreatDoor
