/-
  DERIVED. GIVEN WITH THE SEED: THE CARDS: each row of YtoomnijgdpbphaaGreatDoorRows.lean that lists a variable, with what it lists TIED to the program's text (the seventh form; the later family's looks); each row that meets fmt, with fmt's text TOLD by the authors' own Lean function (tested against real Go, not proved from fmt's source: count such statements apart). THE CARD IS WHAT COUNTS. Prove the row's statement (the work); the ties are given (YtoomnijgdpbphaaGreatDoorTie.lean); close each card by the builder's one call (the guide's Derived/Test/ToyasCard.lean, 'card_holds'). Laid BY PROGRAM, IN A SANDBOX (cutbox-door.mjs). By AI agents, Wed Nov 11 2026. No macro, syntax, notation, axiom, sorry.
-/
import Derived.Test.YtoomnijgdpbphaaGreatDoorRows
import GoSem.ClaimSeven
namespace Go.Proofs.YtoomnijgdpbphaaGreatDoor
namespace Rows

/-- THE TIED CARD OF 'tileslaw.Publishes'. -/
def publishesCard : Claim7 := { stood := { row := publishesRow, standIns := [], harness := (true, "88817e113dc4f3b2d920d8ae7595ed34ad6433bdbdc346142450e1945885b2fb"), looks := true }, kinds := [], alts := [], laidByText := true, laidKinds := [.data, .data, .data, .data, .handle, .sentinel, .sentinel, .sentinel, .sentinel, .sentinel, .sentinel, .sentinel, .sentinel, .sentinel, .pinned], laidTests := true, laidLooks := .later }
def PublishesCardSaid : Prop := Claim7.holds Tryz.pinned (.plain (OpenSpec.ofChange publishesSpec)) publishesCard

/-- THE SECOND FORM's CARD OF 'tileslaw.Publishes'. -/
def publishesUptoCard : Claim7 := { stood := { row := publishesUptoRow, standIns := [], harness := (true, "88817e113dc4f3b2d920d8ae7595ed34ad6433bdbdc346142450e1945885b2fb"), looks := true }, kinds := [], alts := [], laidByText := true, laidKinds := [.data, .data, .data, .data, .handle, .sentinel, .sentinel, .sentinel, .sentinel, .sentinel, .sentinel, .sentinel, .sentinel, .sentinel, .pinned], laidTests := true, laidLooks := .later }
def PublishesUptoCardSaid : Prop := Claim7.holds Tryz.pinned (.plain (OpenSpec.upto publishesSpec)) publishesUptoCard
end Rows
end Go.Proofs.YtoomnijgdpbphaaGreatDoor
