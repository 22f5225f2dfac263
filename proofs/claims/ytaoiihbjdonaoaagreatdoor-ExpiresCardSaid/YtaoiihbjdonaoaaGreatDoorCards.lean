/-
  DERIVED. GIVEN WITH THE SEED: THE CARDS: each row of YtaoiihbjdonaoaaGreatDoorRows.lean that lists a variable, with what it lists TIED to the program's text (the seventh form; the later family's looks); each row that meets fmt, with fmt's text TOLD by the authors' own Lean function (tested against real Go, not proved from fmt's source: count such statements apart). THE CARD IS WHAT COUNTS. Prove the row's statement (the work); the ties are given (YtaoiihbjdonaoaaGreatDoorTie.lean); close each card by the builder's one call (the guide's Derived/Test/ToyasCard.lean, 'card_holds'). Laid BY PROGRAM, IN A SANDBOX (cutbox-door.mjs). By AI agents, Wed Nov 11 2026. No macro, syntax, notation, axiom, sorry.
-/
import Derived.Test.YtaoiihbjdonaoaaGreatDoorRows
import GoSem.ClaimSeven
namespace Go.Proofs.YtaoiihbjdonaoaaGreatDoor
namespace Rows

/-- THE TIED CARD OF 'warrantkeep.Expires'. -/
def expiresCard : Claim7 := { stood := { row := expiresRow, standIns := [], harness := (true, "1677d647c5b9ea181f87c1d027c4570aaf822b34a86a5d59adbf9fbb2024d641"), looks := true }, kinds := [], alts := [], laidByText := true, laidKinds := [.data, .data, .data, .data, .handle, .sentinel, .sentinel, .data, .data, .data, .data, .data, .sentinel, .sentinel, .sentinel, .sentinel, .sentinel, .sentinel, .sentinel, .sentinel, .sentinel, .sentinel, .pinned], laidTests := true, laidLooks := .later }
def ExpiresCardSaid : Prop := Claim7.holds Tryz.pinned (.plain (OpenSpec.ofChange expiresSpec)) expiresCard

/-- THE SECOND FORM's CARD OF 'warrantkeep.Expires'. -/
def expiresUptoCard : Claim7 := { stood := { row := expiresUptoRow, standIns := [], harness := (true, "1677d647c5b9ea181f87c1d027c4570aaf822b34a86a5d59adbf9fbb2024d641"), looks := true }, kinds := [], alts := [], laidByText := true, laidKinds := [.data, .data, .data, .data, .handle, .sentinel, .sentinel, .data, .data, .data, .data, .data, .sentinel, .sentinel, .sentinel, .sentinel, .sentinel, .sentinel, .sentinel, .sentinel, .sentinel, .sentinel, .pinned], laidTests := true, laidLooks := .later }
def ExpiresUptoCardSaid : Prop := Claim7.holds Tryz.pinned (.plain (OpenSpec.upto expiresSpec)) expiresUptoCard
end Rows
end Go.Proofs.YtaoiihbjdonaoaaGreatDoor
