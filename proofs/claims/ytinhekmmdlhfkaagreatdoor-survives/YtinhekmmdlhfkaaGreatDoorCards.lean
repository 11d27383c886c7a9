/-
  DERIVED. GIVEN WITH THE SEED: THE CARDS: each row of YtinhekmmdlhfkaaGreatDoorRows.lean that lists a variable, with what it lists TIED to the program's text (the seventh form; the later family's looks); each row that meets fmt, with fmt's text TOLD by the authors' own Lean function (tested against real Go, not proved from fmt's source: count such statements apart). THE CARD IS WHAT COUNTS. Prove the row's statement (the work); the ties are given (YtinhekmmdlhfkaaGreatDoorTie.lean); close each card by the builder's one call (the guide's Derived/Test/ToyasCard.lean, 'card_holds'). Laid BY PROGRAM, IN A SANDBOX (cutbox-door.mjs). By AI agents, Wed Nov 11 2026. No macro, syntax, notation, axiom, sorry.
-/
import Derived.Test.YtinhekmmdlhfkaaGreatDoorRows
import GoSem.ClaimSeven
namespace Go.Proofs.YtinhekmmdlhfkaaGreatDoor
namespace Rows

/-- THE TIED CARD OF 'tileskeep.Survives'. -/
def survivesCard : Claim7 := { stood := { row := survivesRow, standIns := [], harness := (true, "4b5c0d883d32f71878f2aaaf1380b9c7268071fbdf814253df8f5f7417c702fb"), looks := true }, kinds := [], alts := [], laidByText := true, laidKinds := [.data, .data, .data, .data, .handle, .sentinel, .sentinel, .sentinel, .sentinel, .sentinel, .sentinel, .sentinel, .sentinel, .sentinel, .pinned], laidTests := true, laidLooks := .later }
def SurvivesCardSaid : Prop := Claim7.holds Tryz.pinned (.plain (OpenSpec.ofChange survivesSpec)) survivesCard

/-- THE TIED CARD OF 'tileskeep.Distrusts'. -/
def distrustsCard : Claim7 := { stood := { row := distrustsRow, standIns := [], harness := (true, "4b5c0d883d32f71878f2aaaf1380b9c7268071fbdf814253df8f5f7417c702fb"), looks := true }, kinds := [], alts := [], laidByText := true, laidKinds := [.data, .data, .data, .data, .handle, .sentinel, .sentinel, .sentinel, .sentinel, .sentinel, .sentinel, .sentinel, .sentinel, .sentinel, .pinned], laidTests := true, laidLooks := .later }
def DistrustsCardSaid : Prop := Claim7.holds Tryz.pinned (.plain (OpenSpec.ofChange distrustsSpec)) distrustsCard

/-- THE TIED CARD OF 'tileskeep.Heals'. -/
def healsCard : Claim7 := { stood := { row := healsRow, standIns := [], harness := (true, "4b5c0d883d32f71878f2aaaf1380b9c7268071fbdf814253df8f5f7417c702fb"), looks := true }, kinds := [], alts := [], laidByText := true, laidKinds := [.data, .data, .data, .data, .handle, .sentinel, .sentinel, .sentinel, .sentinel, .sentinel, .sentinel, .sentinel, .sentinel, .sentinel, .pinned], laidTests := true, laidLooks := .later }
def HealsCardSaid : Prop := Claim7.holds Tryz.pinned (.plain (OpenSpec.ofChange healsSpec)) healsCard

/-- THE SECOND FORM's CARD OF 'tileskeep.Survives'. -/
def survivesUptoCard : Claim7 := { stood := { row := survivesUptoRow, standIns := [], harness := (true, "4b5c0d883d32f71878f2aaaf1380b9c7268071fbdf814253df8f5f7417c702fb"), looks := true }, kinds := [], alts := [], laidByText := true, laidKinds := [.data, .data, .data, .data, .handle, .sentinel, .sentinel, .sentinel, .sentinel, .sentinel, .sentinel, .sentinel, .sentinel, .sentinel, .pinned], laidTests := true, laidLooks := .later }
def SurvivesUptoCardSaid : Prop := Claim7.holds Tryz.pinned (.plain (OpenSpec.upto survivesSpec)) survivesUptoCard

/-- THE SECOND FORM's CARD OF 'tileskeep.Distrusts'. -/
def distrustsUptoCard : Claim7 := { stood := { row := distrustsUptoRow, standIns := [], harness := (true, "4b5c0d883d32f71878f2aaaf1380b9c7268071fbdf814253df8f5f7417c702fb"), looks := true }, kinds := [], alts := [], laidByText := true, laidKinds := [.data, .data, .data, .data, .handle, .sentinel, .sentinel, .sentinel, .sentinel, .sentinel, .sentinel, .sentinel, .sentinel, .sentinel, .pinned], laidTests := true, laidLooks := .later }
def DistrustsUptoCardSaid : Prop := Claim7.holds Tryz.pinned (.plain (OpenSpec.upto distrustsSpec)) distrustsUptoCard

/-- THE SECOND FORM's CARD OF 'tileskeep.Heals'. -/
def healsUptoCard : Claim7 := { stood := { row := healsUptoRow, standIns := [], harness := (true, "4b5c0d883d32f71878f2aaaf1380b9c7268071fbdf814253df8f5f7417c702fb"), looks := true }, kinds := [], alts := [], laidByText := true, laidKinds := [.data, .data, .data, .data, .handle, .sentinel, .sentinel, .sentinel, .sentinel, .sentinel, .sentinel, .sentinel, .sentinel, .sentinel, .pinned], laidTests := true, laidLooks := .later }
def HealsUptoCardSaid : Prop := Claim7.holds Tryz.pinned (.plain (OpenSpec.upto healsSpec)) healsUptoCard
end Rows
end Go.Proofs.YtinhekmmdlhfkaaGreatDoor
