/-
  DERIVED. GIVEN WITH THE SEED: THE CARDS: each row of YtgmbnnpnefniiaaGreatDoorRows.lean that lists a variable, with what it lists TIED to the program's text (the seventh form; the later family's looks); each row that meets fmt, with fmt's text TOLD by the authors' own Lean function (tested against real Go, not proved from fmt's source: count such statements apart). THE CARD IS WHAT COUNTS. Prove the row's statement (the work); the ties are given (YtgmbnnpnefniiaaGreatDoorTie.lean); close each card by the builder's one call (the guide's Derived/Test/ToyasCard.lean, 'card_holds'). Laid BY PROGRAM, IN A SANDBOX (cutbox-door.mjs). By AI agents, Wed Nov 11 2026. No macro, syntax, notation, axiom, sorry.
-/
import Derived.Test.YtgmbnnpnefniiaaGreatDoorRows
import GoSem.ClaimSeven
namespace Go.Proofs.YtgmbnnpnefniiaaGreatDoor
namespace Rows

/-- THE TIED CARD OF 'flowslaw.Bent'. -/
def bentCard : Claim7 := { stood := { row := bentRow, standIns := [], harness := (true, "53d11c2d29af8ed8666095ca5256f4039de95e1dad69fd868a56cb277ba67f2c"), looks := true }, kinds := [], alts := [], laidByText := true, laidKinds := [.data, .handle, .pinned], laidTests := true, laidLooks := .later }
def BentCardSaid : Prop := Claim7.holds Tryz.pinned (.plain (OpenSpec.ofChange bentSpec)) bentCard

/-- THE SECOND FORM's CARD OF 'flowslaw.Bent'. -/
def bentUptoCard : Claim7 := { stood := { row := bentUptoRow, standIns := [], harness := (true, "53d11c2d29af8ed8666095ca5256f4039de95e1dad69fd868a56cb277ba67f2c"), looks := true }, kinds := [], alts := [], laidByText := true, laidKinds := [.data, .handle, .pinned], laidTests := true, laidLooks := .later }
def BentUptoCardSaid : Prop := Claim7.holds Tryz.pinned (.plain (OpenSpec.upto bentSpec)) bentUptoCard
end Rows
end Go.Proofs.YtgmbnnpnefniiaaGreatDoor
