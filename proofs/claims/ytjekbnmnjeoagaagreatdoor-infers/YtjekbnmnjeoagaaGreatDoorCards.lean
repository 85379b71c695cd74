/-
  DERIVED. GIVEN WITH THE SEED: THE CARDS: each row of YtjekbnmnjeoagaaGreatDoorRows.lean that lists a variable, with what it lists TIED to the program's text (the seventh form; the later family's looks); each row that meets fmt, with fmt's text TOLD by the authors' own Lean function (tested against real Go, not proved from fmt's source: count such statements apart). THE CARD IS WHAT COUNTS. Prove the row's statement (the work); the ties are given (YtjekbnmnjeoagaaGreatDoorTie.lean); close each card by the builder's one call (the guide's Derived/Test/ToyasCard.lean, 'card_holds'). Laid BY PROGRAM, IN A SANDBOX (cutbox-door.mjs). By AI agents, Wed Nov 11 2026. No macro, syntax, notation, axiom, sorry.
-/
import Derived.Test.YtjekbnmnjeoagaaGreatDoorRows
import GoSem.ClaimSeven
namespace Go.Proofs.YtjekbnmnjeoagaaGreatDoor
namespace Rows

/-- THE TIED CARD OF 'flowslaw.Bent'. -/
def bentCard : Claim7 := { stood := { row := bentRow, standIns := [], harness := (true, "42556f1150212aa228bc91f4e20f4f9842dfc3685efbf1a37fa76e761bb7779e"), looks := true }, kinds := [], alts := [], laidByText := true, laidKinds := [.data, .handle, .pinned], laidTests := true, laidLooks := .later }
def BentCardSaid : Prop := Claim7.holds Tryz.pinned (.plain (OpenSpec.ofChange bentSpec)) bentCard

/-- THE TIED CARD OF 'flowslaw.Infers'. -/
def infersCard : Claim7 := { stood := { row := infersRow, standIns := [], harness := (true, "42556f1150212aa228bc91f4e20f4f9842dfc3685efbf1a37fa76e761bb7779e"), looks := true }, kinds := [], alts := [], laidByText := true, laidKinds := [.data, .handle, .pinned], laidTests := true, laidLooks := .later }
def InfersCardSaid : Prop := Claim7.holds Tryz.pinned (.plain (OpenSpec.ofChange infersSpec)) infersCard

/-- THE TIED CARD OF 'flowslaw.Whole'. -/
def wholeCard : Claim7 := { stood := { row := wholeRow, standIns := [], harness := (true, "42556f1150212aa228bc91f4e20f4f9842dfc3685efbf1a37fa76e761bb7779e"), looks := true }, kinds := [], alts := [], laidByText := true, laidKinds := [.data, .handle, .pinned], laidTests := true, laidLooks := .later }
def WholeCardSaid : Prop := Claim7.holds Tryz.pinned (.plain (OpenSpec.ofChange wholeSpec)) wholeCard

/-- THE TIED CARD OF 'flowslaw.Secret'. -/
def secretCard : Claim7 := { stood := { row := secretRow, standIns := [], harness := (true, "42556f1150212aa228bc91f4e20f4f9842dfc3685efbf1a37fa76e761bb7779e"), looks := true }, kinds := [], alts := [], laidByText := true, laidKinds := [.data, .handle, .pinned], laidTests := true, laidLooks := .later }
def SecretCardSaid : Prop := Claim7.holds Tryz.pinned (.plain (OpenSpec.ofChange secretSpec)) secretCard

/-- THE TIED CARD OF 'flowslaw.All'. -/
def allCard : Claim7 := { stood := { row := allRow, standIns := [], harness := (true, "42556f1150212aa228bc91f4e20f4f9842dfc3685efbf1a37fa76e761bb7779e"), looks := true }, kinds := [], alts := [], laidByText := true, laidKinds := [.data, .data, .data, .data, .handle, .pinned], laidTests := true, laidLooks := .later }
def AllCardSaid : Prop := Claim7.holds Tryz.pinned (.plain (OpenSpec.ofChange allSpec)) allCard

/-- THE SECOND FORM's CARD OF 'flowslaw.Bent'. -/
def bentUptoCard : Claim7 := { stood := { row := bentUptoRow, standIns := [], harness := (true, "42556f1150212aa228bc91f4e20f4f9842dfc3685efbf1a37fa76e761bb7779e"), looks := true }, kinds := [], alts := [], laidByText := true, laidKinds := [.data, .handle, .pinned], laidTests := true, laidLooks := .later }
def BentUptoCardSaid : Prop := Claim7.holds Tryz.pinned (.plain (OpenSpec.upto bentSpec)) bentUptoCard

/-- THE SECOND FORM's CARD OF 'flowslaw.Infers'. -/
def infersUptoCard : Claim7 := { stood := { row := infersUptoRow, standIns := [], harness := (true, "42556f1150212aa228bc91f4e20f4f9842dfc3685efbf1a37fa76e761bb7779e"), looks := true }, kinds := [], alts := [], laidByText := true, laidKinds := [.data, .handle, .pinned], laidTests := true, laidLooks := .later }
def InfersUptoCardSaid : Prop := Claim7.holds Tryz.pinned (.plain (OpenSpec.upto infersSpec)) infersUptoCard

/-- THE SECOND FORM's CARD OF 'flowslaw.Whole'. -/
def wholeUptoCard : Claim7 := { stood := { row := wholeUptoRow, standIns := [], harness := (true, "42556f1150212aa228bc91f4e20f4f9842dfc3685efbf1a37fa76e761bb7779e"), looks := true }, kinds := [], alts := [], laidByText := true, laidKinds := [.data, .handle, .pinned], laidTests := true, laidLooks := .later }
def WholeUptoCardSaid : Prop := Claim7.holds Tryz.pinned (.plain (OpenSpec.upto wholeSpec)) wholeUptoCard

/-- THE SECOND FORM's CARD OF 'flowslaw.Secret'. -/
def secretUptoCard : Claim7 := { stood := { row := secretUptoRow, standIns := [], harness := (true, "42556f1150212aa228bc91f4e20f4f9842dfc3685efbf1a37fa76e761bb7779e"), looks := true }, kinds := [], alts := [], laidByText := true, laidKinds := [.data, .handle, .pinned], laidTests := true, laidLooks := .later }
def SecretUptoCardSaid : Prop := Claim7.holds Tryz.pinned (.plain (OpenSpec.upto secretSpec)) secretUptoCard

/-- THE SECOND FORM's CARD OF 'flowslaw.All'. -/
def allUptoCard : Claim7 := { stood := { row := allUptoRow, standIns := [], harness := (true, "42556f1150212aa228bc91f4e20f4f9842dfc3685efbf1a37fa76e761bb7779e"), looks := true }, kinds := [], alts := [], laidByText := true, laidKinds := [.data, .data, .data, .data, .handle, .pinned], laidTests := true, laidLooks := .later }
def AllUptoCardSaid : Prop := Claim7.holds Tryz.pinned (.plain (OpenSpec.upto allSpec)) allUptoCard
end Rows
end Go.Proofs.YtjekbnmnjeoagaaGreatDoor
