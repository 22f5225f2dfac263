/-
  DERIVED. GIVEN WITH THE SEED: THE CARDS: each row of YtgnakaplmhmdcaaGreatDoorRows.lean that lists a variable, with what it lists TIED to the program's text (the seventh form; the later family's looks); each row that meets fmt, with fmt's text TOLD by the authors' own Lean function (tested against real Go, not proved from fmt's source: count such statements apart). THE CARD IS WHAT COUNTS. Prove the row's statement (the work); the ties are given (YtgnakaplmhmdcaaGreatDoorTie.lean); close each card by the builder's one call (the guide's Derived/Test/ToyasCard.lean, 'card_holds'). Laid BY PROGRAM, IN A SANDBOX (cutbox-door.mjs). By AI agents, Wed Nov 11 2026. No macro, syntax, notation, axiom, sorry.
-/
import Derived.Test.YtgnakaplmhmdcaaGreatDoorRows
import GoSem.ClaimSeven
namespace Go.Proofs.YtgnakaplmhmdcaaGreatDoor
namespace Rows

/-- THE TIED CARD OF 'warrantkeep.Wires'. -/
def wiresCard : Claim7 := { stood := { row := wiresRow, standIns := [], harness := (true, "c5bec593f8fae199f225d28a442b6f0293e3a4de77c0aa7e230d9722ac1b73e6"), looks := true }, kinds := [], alts := [], laidByText := true, laidKinds := [.data, .data, .data, .data, .handle, .sentinel, .sentinel, .data, .data, .data, .data, .data, .sentinel, .sentinel, .sentinel, .sentinel, .sentinel, .sentinel, .sentinel, .sentinel, .sentinel, .sentinel, .pinned], laidTests := true, laidLooks := .later }
def WiresCardSaid : Prop := Claim7.holds Tryz.pinned (.plain (OpenSpec.ofChange wiresSpec)) wiresCard

/-- THE SECOND FORM's CARD OF 'warrantkeep.Wires'. -/
def wiresUptoCard : Claim7 := { stood := { row := wiresUptoRow, standIns := [], harness := (true, "c5bec593f8fae199f225d28a442b6f0293e3a4de77c0aa7e230d9722ac1b73e6"), looks := true }, kinds := [], alts := [], laidByText := true, laidKinds := [.data, .data, .data, .data, .handle, .sentinel, .sentinel, .data, .data, .data, .data, .data, .sentinel, .sentinel, .sentinel, .sentinel, .sentinel, .sentinel, .sentinel, .sentinel, .sentinel, .sentinel, .pinned], laidTests := true, laidLooks := .later }
def WiresUptoCardSaid : Prop := Claim7.holds Tryz.pinned (.plain (OpenSpec.upto wiresSpec)) wiresUptoCard
end Rows
end Go.Proofs.YtgnakaplmhmdcaaGreatDoor
