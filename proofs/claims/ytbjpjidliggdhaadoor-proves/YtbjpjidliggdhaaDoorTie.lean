/-
  DERIVED. GIVEN WITH THE SEED: THE PROGRAM's TIES (one call each: nine closed facts by the kernel) AND EACH ROW's TIE, after the 31st guide's Derived/Test/Toyas{Tie, Card}.lean. No idea stands in it: it is a product of the set-up. Laid BY PROGRAM, IN A SANDBOX (cutbox-door.mjs). By AI agents, Wed Nov 11 2026. No macro, syntax, notation, axiom, sorry.
-/
import Derived.Test.YtbjpjidliggdhaaDoorRows
import Derived.LaidByTextLater
import Derived.SevenTiedAt
import Derived.LaidSub
import Derived.LaidOnce
namespace Go.Proofs.YtbjpjidliggdhaaDoor
open Go
set_option maxRecDepth 100000
theorem seatTie1 : Tryd.prog.laidByTextLater [("errors.errorType", Rows.laid_errors_errorType), ("tiles/api.ErrEntry", Rows.laid_tiles_api_ErrEntry), ("tiles/api.ErrRange", Rows.laid_tiles_api_ErrRange), ("tiles/api.ErrCheckpoint", Rows.laid_tiles_api_ErrCheckpoint), ("tiles/api.ErrOld", Rows.laid_tiles_api_ErrOld), ("tiles/api.ErrProof", Rows.laid_tiles_api_ErrProof), ("tiles/api.ErrTile", Rows.laid_tiles_api_ErrTile), ("tiles/api.ErrFailed", Rows.laid_tiles_api_ErrFailed)] [.handle, .sentinel, .sentinel, .sentinel, .sentinel, .sentinel, .sentinel, .sentinel] true :=
  Program.laidByTextLater_by_one 149 8 2 (by kernel_rfl) (by kernel_rfl) (by kernel_rfl) (by kernel_rfl) (by kernel_rfl) (by kernel_rfl) (fun _ _ => by kernel_rfl)
theorem noOwnUnsafe : Tryd.pinned.checked.prog.headLifts.contains "ownunsafe" = false := by kernel_rfl
theorem tie : Tryd.prog.laidByTextLater [("errors.errorType", Rows.laid_errors_errorType), ("tiles/api.ErrEntry", Rows.laid_tiles_api_ErrEntry), ("tiles/api.ErrRange", Rows.laid_tiles_api_ErrRange), ("tiles/api.ErrCheckpoint", Rows.laid_tiles_api_ErrCheckpoint), ("tiles/api.ErrOld", Rows.laid_tiles_api_ErrOld), ("tiles/api.ErrProof", Rows.laid_tiles_api_ErrProof), ("tiles/api.ErrTile", Rows.laid_tiles_api_ErrTile), ("tiles/api.ErrFailed", Rows.laid_tiles_api_ErrFailed)] [.handle, .sentinel, .sentinel, .sentinel, .sentinel, .sentinel, .sentinel, .sentinel] true :=
  Program.laidByTextLater.sub seatTie1 ["errors.errorType", "tiles/api.ErrEntry", "tiles/api.ErrRange", "tiles/api.ErrCheckpoint", "tiles/api.ErrOld", "tiles/api.ErrProof", "tiles/api.ErrTile", "tiles/api.ErrFailed"] (by kernel_rfl) (by kernel_rfl)
theorem paths_row_tie : Rows.pathsRow.laidByTextAt .later Tryd.pinned [.handle, .sentinel, .sentinel, .sentinel, .sentinel, .sentinel, .sentinel, .sentinel] true :=
  OpenClaim.laidByTextAt_later rfl rfl tie noOwnUnsafe
theorem proves_row_tie : Rows.provesRow.laidByTextAt .later Tryd.pinned [.handle, .sentinel, .sentinel, .sentinel, .sentinel, .sentinel, .sentinel, .sentinel] true :=
  OpenClaim.laidByTextAt_later rfl rfl tie noOwnUnsafe
theorem extends_row_tie : Rows.extendsRow.laidByTextAt .later Tryd.pinned [.handle, .sentinel, .sentinel, .sentinel, .sentinel, .sentinel, .sentinel, .sentinel] true :=
  OpenClaim.laidByTextAt_later rfl rfl tie noOwnUnsafe
theorem pathsUpto_row_tie : Rows.pathsUptoRow.laidByTextAt .later Tryd.pinned [.handle, .sentinel, .sentinel, .sentinel, .sentinel, .sentinel, .sentinel, .sentinel] true :=
  OpenClaim.laidByTextAt_later rfl rfl tie noOwnUnsafe
theorem provesUpto_row_tie : Rows.provesUptoRow.laidByTextAt .later Tryd.pinned [.handle, .sentinel, .sentinel, .sentinel, .sentinel, .sentinel, .sentinel, .sentinel] true :=
  OpenClaim.laidByTextAt_later rfl rfl tie noOwnUnsafe
theorem extendsUpto_row_tie : Rows.extendsUptoRow.laidByTextAt .later Tryd.pinned [.handle, .sentinel, .sentinel, .sentinel, .sentinel, .sentinel, .sentinel, .sentinel] true :=
  OpenClaim.laidByTextAt_later rfl rfl tie noOwnUnsafe
end Go.Proofs.YtbjpjidliggdhaaDoor
