/-
  DERIVED. GIVEN WITH THE SEED: THE CARDS: each row of YtjmcibbdedlcoaaGreatDoorRows.lean that lists a variable, with what it lists TIED to the program's text (the seventh form; the later family's looks); each row that meets fmt, with fmt's text TOLD by the authors' own Lean function (tested against real Go, not proved from fmt's source: count such statements apart). THE CARD IS WHAT COUNTS. Prove the row's statement (the work); the ties are given (YtjmcibbdedlcoaaGreatDoorTie.lean); close each card by the builder's one call (the guide's Derived/Test/ToyasCard.lean, 'card_holds'). Laid BY PROGRAM, IN A SANDBOX (cutbox-door.mjs). By AI agents, Wed Nov 11 2026. No macro, syntax, notation, axiom, sorry.
-/
import Derived.Test.YtjmcibbdedlcoaaGreatDoorRows
import GoSem.ClaimSeven
namespace Go.Proofs.YtjmcibbdedlcoaaGreatDoor
namespace Rows

/-- THE TIED CARD OF 'flowslaw.Secret'. -/
def secretCard : Claim7 := { stood := { row := secretRow, standIns := [], harness := (true, "67fdc5c78702c73125941858e31f4c84d593060094d81407a167e0b5aa595ff2"), looks := true }, kinds := [], alts := [], laidByText := true, laidKinds := [.data, .handle, .pinned], laidTests := true, laidLooks := .later }
def SecretCardSaid : Prop := Claim7.holds Tryz.pinned (.plain (OpenSpec.ofChange secretSpec)) secretCard

/-- THE SECOND FORM's CARD OF 'flowslaw.Secret'. -/
def secretUptoCard : Claim7 := { stood := { row := secretUptoRow, standIns := [], harness := (true, "67fdc5c78702c73125941858e31f4c84d593060094d81407a167e0b5aa595ff2"), looks := true }, kinds := [], alts := [], laidByText := true, laidKinds := [.data, .handle, .pinned], laidTests := true, laidLooks := .later }
def SecretUptoCardSaid : Prop := Claim7.holds Tryz.pinned (.plain (OpenSpec.upto secretSpec)) secretUptoCard
end Rows
end Go.Proofs.YtjmcibbdedlcoaaGreatDoor
