/-
  DERIVED. GIVEN WITH THE SEED: THE CARDS: each row of YtbdobaapadlcjabGreatDoorRows.lean that lists a variable, with what it lists TIED to the program's text (the seventh form; the later family's looks); each row that meets fmt, with fmt's text TOLD by the authors' own Lean function (tested against real Go, not proved from fmt's source: count such statements apart). THE CARD IS WHAT COUNTS. Prove the row's statement (the work); the ties are given (YtbdobaapadlcjabGreatDoorTie.lean); close each card by the builder's one call (the guide's Derived/Test/ToyasCard.lean, 'card_holds'). Laid BY PROGRAM, IN A SANDBOX (cutbox-door.mjs). By AI agents, Wed Nov 11 2026. No macro, syntax, notation, axiom, sorry.
-/
import Derived.Test.YtbdobaapadlcjabGreatDoorRows
import GoSem.ClaimSeven
namespace Go.Proofs.YtbdobaapadlcjabGreatDoor
namespace Rows

/-- THE TIED CARD OF 'wharfkeep.Together'. -/
def togetherCard : Claim7 := { stood := { row := togetherRow, standIns := [], harness := (true, "0975e8ef4f36a331a916d0c4b397392cbd73ea7a7a53159d3190629e99878f2e"), looks := false }, kinds := [], alts := [], goes := true, laidByText := true, laidKinds := [.data, .data, .data], laidTests := true, laidLooks := .later }
def TogetherCardSaid : Prop := Claim7.holds Tryz.pinned (.plain (OpenSpec.ofChange togetherSpec)) togetherCard

/-- THE TIED CARD OF 'wharfkeep.Reopened'. -/
def reopenedCard : Claim7 := { stood := { row := reopenedRow, standIns := [], harness := (true, "0975e8ef4f36a331a916d0c4b397392cbd73ea7a7a53159d3190629e99878f2e"), looks := false }, kinds := [], alts := [], goes := true, laidByText := true, laidKinds := [.data, .data, .data], laidTests := true, laidLooks := .later }
def ReopenedCardSaid : Prop := Claim7.holds Tryz.pinned (.plain (OpenSpec.ofChange reopenedSpec)) reopenedCard

/-- THE TIED CARD OF 'wharfkeep.Halted'. -/
def haltedCard : Claim7 := { stood := { row := haltedRow, standIns := [], harness := (true, "0975e8ef4f36a331a916d0c4b397392cbd73ea7a7a53159d3190629e99878f2e"), looks := false }, kinds := [], alts := [], goes := true, laidByText := true, laidKinds := [.data, .data, .data], laidTests := true, laidLooks := .later }
def HaltedCardSaid : Prop := Claim7.holds Tryz.pinned (.plain (OpenSpec.ofChange haltedSpec)) haltedCard

/-- THE TIED CARD OF 'wharfkeep.Small'. -/
def smallCard : Claim7 := { stood := { row := smallRow, standIns := [], harness := (true, "0975e8ef4f36a331a916d0c4b397392cbd73ea7a7a53159d3190629e99878f2e"), looks := false }, kinds := [], alts := [], goes := true, laidByText := true, laidKinds := [.data, .data, .data], laidTests := true, laidLooks := .later }
def SmallCardSaid : Prop := Claim7.holds Tryz.pinned (.plain (OpenSpec.ofChange smallSpec)) smallCard

/-- THE SECOND FORM's CARD OF 'wharfkeep.Together'. -/
def togetherUptoCard : Claim7 := { stood := { row := togetherUptoRow, standIns := [], harness := (true, "0975e8ef4f36a331a916d0c4b397392cbd73ea7a7a53159d3190629e99878f2e"), looks := false }, kinds := [], alts := [], goes := true, laidByText := true, laidKinds := [.data, .data, .data], laidTests := true, laidLooks := .later }
def TogetherUptoCardSaid : Prop := Claim7.holds Tryz.pinned (.plain (OpenSpec.upto togetherSpec)) togetherUptoCard

/-- THE SECOND FORM's CARD OF 'wharfkeep.Reopened'. -/
def reopenedUptoCard : Claim7 := { stood := { row := reopenedUptoRow, standIns := [], harness := (true, "0975e8ef4f36a331a916d0c4b397392cbd73ea7a7a53159d3190629e99878f2e"), looks := false }, kinds := [], alts := [], goes := true, laidByText := true, laidKinds := [.data, .data, .data], laidTests := true, laidLooks := .later }
def ReopenedUptoCardSaid : Prop := Claim7.holds Tryz.pinned (.plain (OpenSpec.upto reopenedSpec)) reopenedUptoCard

/-- THE SECOND FORM's CARD OF 'wharfkeep.Halted'. -/
def haltedUptoCard : Claim7 := { stood := { row := haltedUptoRow, standIns := [], harness := (true, "0975e8ef4f36a331a916d0c4b397392cbd73ea7a7a53159d3190629e99878f2e"), looks := false }, kinds := [], alts := [], goes := true, laidByText := true, laidKinds := [.data, .data, .data], laidTests := true, laidLooks := .later }
def HaltedUptoCardSaid : Prop := Claim7.holds Tryz.pinned (.plain (OpenSpec.upto haltedSpec)) haltedUptoCard

/-- THE SECOND FORM's CARD OF 'wharfkeep.Small'. -/
def smallUptoCard : Claim7 := { stood := { row := smallUptoRow, standIns := [], harness := (true, "0975e8ef4f36a331a916d0c4b397392cbd73ea7a7a53159d3190629e99878f2e"), looks := false }, kinds := [], alts := [], goes := true, laidByText := true, laidKinds := [.data, .data, .data], laidTests := true, laidLooks := .later }
def SmallUptoCardSaid : Prop := Claim7.holds Tryz.pinned (.plain (OpenSpec.upto smallSpec)) smallUptoCard
end Rows
end Go.Proofs.YtbdobaapadlcjabGreatDoor
