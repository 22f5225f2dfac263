/-
  DERIVED. GIVEN WITH THE SEED: THE CARDS: each row of YtapdphcbhfkgkaaGreatDoorRows.lean that lists a variable, with what it lists TIED to the program's text (the seventh form; the later family's looks); each row that meets fmt, with fmt's text TOLD by the authors' own Lean function (tested against real Go, not proved from fmt's source: count such statements apart). THE CARD IS WHAT COUNTS. Prove the row's statement (the work); the ties are given (YtapdphcbhfkgkaaGreatDoorTie.lean); close each card by the builder's one call (the guide's Derived/Test/ToyasCard.lean, 'card_holds'). Laid BY PROGRAM, IN A SANDBOX (cutbox-door.mjs). By AI agents, Wed Nov 11 2026. No macro, syntax, notation, axiom, sorry.
-/
import Derived.Test.YtapdphcbhfkgkaaGreatDoorRows
import GoSem.ClaimSeven
namespace Go.Proofs.YtapdphcbhfkgkaaGreatDoor
namespace Rows

/-- THE TIED CARD OF 'warrantkeep.Narrows'. -/
def narrowsCard : Claim7 := { stood := { row := narrowsRow, standIns := [], harness := (true, "ef8ddf4d42ddaecbbec165fdc70add8e2d3494740e40982ece04071e8f1f4571"), looks := true }, kinds := [], alts := [], laidByText := true, laidKinds := [.data, .data, .data, .data, .handle, .sentinel, .sentinel, .data, .data, .data, .data, .data, .sentinel, .sentinel, .sentinel, .sentinel, .sentinel, .sentinel, .sentinel, .sentinel, .sentinel, .sentinel, .pinned], laidTests := true, laidLooks := .later }
def NarrowsCardSaid : Prop := Claim7.holds Tryz.pinned (.plain (OpenSpec.ofChange narrowsSpec)) narrowsCard

/-- THE TIED CARD OF 'warrantkeep.Revokes'. -/
def revokesCard : Claim7 := { stood := { row := revokesRow, standIns := [], harness := (true, "ef8ddf4d42ddaecbbec165fdc70add8e2d3494740e40982ece04071e8f1f4571"), looks := true }, kinds := [], alts := [], laidByText := true, laidKinds := [.data, .data, .data, .data, .handle, .sentinel, .sentinel, .data, .data, .data, .data, .data, .sentinel, .sentinel, .sentinel, .sentinel, .sentinel, .sentinel, .sentinel, .sentinel, .sentinel, .sentinel, .pinned], laidTests := true, laidLooks := .later }
def RevokesCardSaid : Prop := Claim7.holds Tryz.pinned (.plain (OpenSpec.ofChange revokesSpec)) revokesCard

/-- THE TIED CARD OF 'warrantkeep.Expires'. -/
def expiresCard : Claim7 := { stood := { row := expiresRow, standIns := [], harness := (true, "ef8ddf4d42ddaecbbec165fdc70add8e2d3494740e40982ece04071e8f1f4571"), looks := true }, kinds := [], alts := [], laidByText := true, laidKinds := [.data, .data, .data, .data, .handle, .sentinel, .sentinel, .data, .data, .data, .data, .data, .sentinel, .sentinel, .sentinel, .sentinel, .sentinel, .sentinel, .sentinel, .sentinel, .sentinel, .sentinel, .pinned], laidTests := true, laidLooks := .later }
def ExpiresCardSaid : Prop := Claim7.holds Tryz.pinned (.plain (OpenSpec.ofChange expiresSpec)) expiresCard

/-- THE SECOND FORM's CARD OF 'warrantkeep.Narrows'. -/
def narrowsUptoCard : Claim7 := { stood := { row := narrowsUptoRow, standIns := [], harness := (true, "ef8ddf4d42ddaecbbec165fdc70add8e2d3494740e40982ece04071e8f1f4571"), looks := true }, kinds := [], alts := [], laidByText := true, laidKinds := [.data, .data, .data, .data, .handle, .sentinel, .sentinel, .data, .data, .data, .data, .data, .sentinel, .sentinel, .sentinel, .sentinel, .sentinel, .sentinel, .sentinel, .sentinel, .sentinel, .sentinel, .pinned], laidTests := true, laidLooks := .later }
def NarrowsUptoCardSaid : Prop := Claim7.holds Tryz.pinned (.plain (OpenSpec.upto narrowsSpec)) narrowsUptoCard

/-- THE SECOND FORM's CARD OF 'warrantkeep.Revokes'. -/
def revokesUptoCard : Claim7 := { stood := { row := revokesUptoRow, standIns := [], harness := (true, "ef8ddf4d42ddaecbbec165fdc70add8e2d3494740e40982ece04071e8f1f4571"), looks := true }, kinds := [], alts := [], laidByText := true, laidKinds := [.data, .data, .data, .data, .handle, .sentinel, .sentinel, .data, .data, .data, .data, .data, .sentinel, .sentinel, .sentinel, .sentinel, .sentinel, .sentinel, .sentinel, .sentinel, .sentinel, .sentinel, .pinned], laidTests := true, laidLooks := .later }
def RevokesUptoCardSaid : Prop := Claim7.holds Tryz.pinned (.plain (OpenSpec.upto revokesSpec)) revokesUptoCard

/-- THE SECOND FORM's CARD OF 'warrantkeep.Expires'. -/
def expiresUptoCard : Claim7 := { stood := { row := expiresUptoRow, standIns := [], harness := (true, "ef8ddf4d42ddaecbbec165fdc70add8e2d3494740e40982ece04071e8f1f4571"), looks := true }, kinds := [], alts := [], laidByText := true, laidKinds := [.data, .data, .data, .data, .handle, .sentinel, .sentinel, .data, .data, .data, .data, .data, .sentinel, .sentinel, .sentinel, .sentinel, .sentinel, .sentinel, .sentinel, .sentinel, .sentinel, .sentinel, .pinned], laidTests := true, laidLooks := .later }
def ExpiresUptoCardSaid : Prop := Claim7.holds Tryz.pinned (.plain (OpenSpec.upto expiresSpec)) expiresUptoCard
end Rows
end Go.Proofs.YtapdphcbhfkgkaaGreatDoor
