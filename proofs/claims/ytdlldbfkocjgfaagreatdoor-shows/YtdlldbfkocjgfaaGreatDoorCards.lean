/-
  DERIVED. GIVEN WITH THE SEED: THE CARDS: each row of YtdlldbfkocjgfaaGreatDoorRows.lean that lists a variable, with what it lists TIED to the program's text (the seventh form; the later family's looks); each row that meets fmt, with fmt's text TOLD by the authors' own Lean function (tested against real Go, not proved from fmt's source: count such statements apart). THE CARD IS WHAT COUNTS. Prove the row's statement (the work); the ties are given (YtdlldbfkocjgfaaGreatDoorTie.lean); close each card by the builder's one call (the guide's Derived/Test/ToyasCard.lean, 'card_holds'). Laid BY PROGRAM, IN A SANDBOX (cutbox-door.mjs). By AI agents, Wed Nov 11 2026. No macro, syntax, notation, axiom, sorry.
-/
import Derived.Test.YtdlldbfkocjgfaaGreatDoorRows
import GoSem.ClaimSeven
namespace Go.Proofs.YtdlldbfkocjgfaaGreatDoor
namespace Rows

/-- THE TIED CARD OF 'typerlaw.Shows'. -/
def showsCard : Claim7 := { stood := { row := showsRow, standIns := [], harness := (true, "3b6fe0e408e60719acdaefc8a78146ebedca94feaf4d749715c3f7c5a178e52b"), looks := true }, kinds := [], alts := [], laidByText := true, laidKinds := [.widerDeep, .handle, .sentinel, .sentinel, .sentinel, .sentinel, .sentinel, .sentinel, .sentinel, .sentinel], laidTests := true, laidLooks := .later }
def ShowsCardSaid : Prop := Claim7.holds Tryz.pinned (.plain (OpenSpec.ofChange showsSpec)) showsCard

/-- THE TIED CARD OF 'typerlaw.Canons'. -/
def canonsCard : Claim7 := { stood := { row := canonsRow, standIns := [], harness := (true, "3b6fe0e408e60719acdaefc8a78146ebedca94feaf4d749715c3f7c5a178e52b"), looks := true }, kinds := [], alts := [], laidByText := true, laidKinds := [.data, .data, .data, .widerDeep, .handle, .sentinel, .sentinel, .sentinel, .sentinel, .sentinel, .sentinel, .sentinel, .sentinel], laidTests := true, laidLooks := .later }
def CanonsCardSaid : Prop := Claim7.holds Tryz.pinned (.plain (OpenSpec.ofChange canonsSpec)) canonsCard

/-- THE TIED CARD OF 'typerlaw.Instances'. -/
def instancesCard : Claim7 := { stood := { row := instancesRow, standIns := [], harness := (true, "3b6fe0e408e60719acdaefc8a78146ebedca94feaf4d749715c3f7c5a178e52b"), looks := true }, kinds := [], alts := [], laidByText := true, laidKinds := [.widerDeep, .handle, .sentinel, .sentinel, .sentinel, .sentinel, .sentinel, .sentinel, .sentinel, .sentinel], laidTests := true, laidLooks := .later }
def InstancesCardSaid : Prop := Claim7.holds Tryz.pinned (.plain (OpenSpec.ofChange instancesSpec)) instancesCard

/-- THE SECOND FORM's CARD OF 'typerlaw.Shows'. -/
def showsUptoCard : Claim7 := { stood := { row := showsUptoRow, standIns := [], harness := (true, "3b6fe0e408e60719acdaefc8a78146ebedca94feaf4d749715c3f7c5a178e52b"), looks := true }, kinds := [], alts := [], laidByText := true, laidKinds := [.widerDeep, .handle, .sentinel, .sentinel, .sentinel, .sentinel, .sentinel, .sentinel, .sentinel, .sentinel], laidTests := true, laidLooks := .later }
def ShowsUptoCardSaid : Prop := Claim7.holds Tryz.pinned (.plain (OpenSpec.upto showsSpec)) showsUptoCard

/-- THE SECOND FORM's CARD OF 'typerlaw.Canons'. -/
def canonsUptoCard : Claim7 := { stood := { row := canonsUptoRow, standIns := [], harness := (true, "3b6fe0e408e60719acdaefc8a78146ebedca94feaf4d749715c3f7c5a178e52b"), looks := true }, kinds := [], alts := [], laidByText := true, laidKinds := [.data, .data, .data, .widerDeep, .handle, .sentinel, .sentinel, .sentinel, .sentinel, .sentinel, .sentinel, .sentinel, .sentinel], laidTests := true, laidLooks := .later }
def CanonsUptoCardSaid : Prop := Claim7.holds Tryz.pinned (.plain (OpenSpec.upto canonsSpec)) canonsUptoCard

/-- THE SECOND FORM's CARD OF 'typerlaw.Instances'. -/
def instancesUptoCard : Claim7 := { stood := { row := instancesUptoRow, standIns := [], harness := (true, "3b6fe0e408e60719acdaefc8a78146ebedca94feaf4d749715c3f7c5a178e52b"), looks := true }, kinds := [], alts := [], laidByText := true, laidKinds := [.widerDeep, .handle, .sentinel, .sentinel, .sentinel, .sentinel, .sentinel, .sentinel, .sentinel, .sentinel], laidTests := true, laidLooks := .later }
def InstancesUptoCardSaid : Prop := Claim7.holds Tryz.pinned (.plain (OpenSpec.upto instancesSpec)) instancesUptoCard
end Rows
end Go.Proofs.YtdlldbfkocjgfaaGreatDoor
