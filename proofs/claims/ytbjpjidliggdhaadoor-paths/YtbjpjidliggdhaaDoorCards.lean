/-
  DERIVED. GIVEN WITH THE SEED: THE CARDS: each row of YtbjpjidliggdhaaDoorRows.lean that lists a variable, with what it lists TIED to the program's text (the seventh form; the later family's looks); each row that meets fmt, with fmt's text TOLD by the authors' own Lean function (tested against real Go, not proved from fmt's source: count such statements apart). THE CARD IS WHAT COUNTS. Prove the row's statement (the work); the ties are given (YtbjpjidliggdhaaDoorTie.lean); close each card by the builder's one call (the guide's Derived/Test/ToyasCard.lean, 'card_holds'). Laid BY PROGRAM, IN A SANDBOX (cutbox-door.mjs). By AI agents, Wed Nov 11 2026. No macro, syntax, notation, axiom, sorry.
-/
import Derived.Test.YtbjpjidliggdhaaDoorRows
import GoSem.ClaimSeven
namespace Go.Proofs.YtbjpjidliggdhaaDoor
namespace Rows

/-- THE TIED CARD OF 'tileslaw.Paths'. -/
def pathsCard : Claim7 := { stood := { row := pathsRow, standIns := [], harness := (true, "32b71896f84441beb478542d38256e8fd623b0a9f72504d515c519253fb13fbf"), looks := true }, kinds := [], alts := [], laidByText := true, laidKinds := [.handle, .sentinel, .sentinel, .sentinel, .sentinel, .sentinel, .sentinel, .sentinel], laidTests := true, laidLooks := .later }
def PathsCardSaid : Prop := Claim7.holds Tryd.pinned (.plain (OpenSpec.ofChange pathsSpec)) pathsCard

/-- THE TIED CARD OF 'tileskeep.Proves'. -/
def provesCard : Claim7 := { stood := { row := provesRow, standIns := [], harness := (true, "32b71896f84441beb478542d38256e8fd623b0a9f72504d515c519253fb13fbf"), looks := true }, kinds := [], alts := [], laidByText := true, laidKinds := [.handle, .sentinel, .sentinel, .sentinel, .sentinel, .sentinel, .sentinel, .sentinel], laidTests := true, laidLooks := .later }
def ProvesCardSaid : Prop := Claim7.holds Tryd.pinned (.plain (OpenSpec.ofChange provesSpec)) provesCard

/-- THE TIED CARD OF 'tileskeep.Extends'. -/
def extendsCard : Claim7 := { stood := { row := extendsRow, standIns := [], harness := (true, "32b71896f84441beb478542d38256e8fd623b0a9f72504d515c519253fb13fbf"), looks := true }, kinds := [], alts := [], laidByText := true, laidKinds := [.handle, .sentinel, .sentinel, .sentinel, .sentinel, .sentinel, .sentinel, .sentinel], laidTests := true, laidLooks := .later }
def ExtendsCardSaid : Prop := Claim7.holds Tryd.pinned (.plain (OpenSpec.ofChange extendsSpec)) extendsCard

/-- THE SECOND FORM's CARD OF 'tileslaw.Paths'. -/
def pathsUptoCard : Claim7 := { stood := { row := pathsUptoRow, standIns := [], harness := (true, "32b71896f84441beb478542d38256e8fd623b0a9f72504d515c519253fb13fbf"), looks := true }, kinds := [], alts := [], laidByText := true, laidKinds := [.handle, .sentinel, .sentinel, .sentinel, .sentinel, .sentinel, .sentinel, .sentinel], laidTests := true, laidLooks := .later }
def PathsUptoCardSaid : Prop := Claim7.holds Tryd.pinned (.plain (OpenSpec.upto pathsSpec)) pathsUptoCard

/-- THE SECOND FORM's CARD OF 'tileskeep.Proves'. -/
def provesUptoCard : Claim7 := { stood := { row := provesUptoRow, standIns := [], harness := (true, "32b71896f84441beb478542d38256e8fd623b0a9f72504d515c519253fb13fbf"), looks := true }, kinds := [], alts := [], laidByText := true, laidKinds := [.handle, .sentinel, .sentinel, .sentinel, .sentinel, .sentinel, .sentinel, .sentinel], laidTests := true, laidLooks := .later }
def ProvesUptoCardSaid : Prop := Claim7.holds Tryd.pinned (.plain (OpenSpec.upto provesSpec)) provesUptoCard

/-- THE SECOND FORM's CARD OF 'tileskeep.Extends'. -/
def extendsUptoCard : Claim7 := { stood := { row := extendsUptoRow, standIns := [], harness := (true, "32b71896f84441beb478542d38256e8fd623b0a9f72504d515c519253fb13fbf"), looks := true }, kinds := [], alts := [], laidByText := true, laidKinds := [.handle, .sentinel, .sentinel, .sentinel, .sentinel, .sentinel, .sentinel, .sentinel], laidTests := true, laidLooks := .later }
def ExtendsUptoCardSaid : Prop := Claim7.holds Tryd.pinned (.plain (OpenSpec.upto extendsSpec)) extendsUptoCard
end Rows
end Go.Proofs.YtbjpjidliggdhaaDoor
