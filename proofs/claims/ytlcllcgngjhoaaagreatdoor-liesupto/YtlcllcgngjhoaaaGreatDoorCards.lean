/-
  DERIVED. GIVEN WITH THE SEED: THE CARDS: each row of YtlcllcgngjhoaaaGreatDoorRows.lean that lists a variable, with what it lists TIED to the program's text (the seventh form; the later family's looks); each row that meets fmt, with fmt's text TOLD by the authors' own Lean function (tested against real Go, not proved from fmt's source: count such statements apart). THE CARD IS WHAT COUNTS. Prove the row's statement (the work); the ties are given (YtlcllcgngjhoaaaGreatDoorTie.lean); close each card by the builder's one call (the guide's Derived/Test/ToyasCard.lean, 'card_holds'). Laid BY PROGRAM, IN A SANDBOX (cutbox-door.mjs). By AI agents, Wed Nov 11 2026. No macro, syntax, notation, axiom, sorry.
-/
import Derived.Test.YtlcllcgngjhoaaaGreatDoorRows
import GoSem.ClaimSeven
namespace Go.Proofs.YtlcllcgngjhoaaaGreatDoor
namespace Rows

/-- THE TIED CARD OF 'tileslaw.Lies'. -/
def liesCard : Claim7 := { stood := { row := liesRow, standIns := [], harness := (true, "5c6f0b8648ef4a9aecf21b1a8b9d0431ff103dd62b5c2bb48ffe553ef46dbbe4"), looks := true }, kinds := [], alts := [], laidByText := true, laidKinds := [.data, .data, .data, .data, .handle, .sentinel, .sentinel, .sentinel, .sentinel, .sentinel, .sentinel, .sentinel, .sentinel, .sentinel, .pinned], laidTests := true, laidLooks := .later }
def LiesCardSaid : Prop := Claim7.holds Tryz.pinned (.plain (OpenSpec.ofChange liesSpec)) liesCard

/-- THE SECOND FORM's CARD OF 'tileslaw.Lies'. -/
def liesUptoCard : Claim7 := { stood := { row := liesUptoRow, standIns := [], harness := (true, "5c6f0b8648ef4a9aecf21b1a8b9d0431ff103dd62b5c2bb48ffe553ef46dbbe4"), looks := true }, kinds := [], alts := [], laidByText := true, laidKinds := [.data, .data, .data, .data, .handle, .sentinel, .sentinel, .sentinel, .sentinel, .sentinel, .sentinel, .sentinel, .sentinel, .sentinel, .pinned], laidTests := true, laidLooks := .later }
def LiesUptoCardSaid : Prop := Claim7.holds Tryz.pinned (.plain (OpenSpec.upto liesSpec)) liesUptoCard
end Rows
end Go.Proofs.YtlcllcgngjhoaaaGreatDoor
