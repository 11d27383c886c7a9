/-
  NARROWER THAN 'FOR EVERY INPUT', by the rows' own cells (each row's printed sentence says how): Paths: laid · Proves: laid · Extends: laid.
  DERIVED. THE GIVEN ROWS OF THIS SEAT. 3 by the template 'for every input the law returns true; each argument reads behind the call as it read before'; 0 by the template 'total and deterministic' (their statements: YtbjpjidliggdhaaDoorTotals.lean).
  GIVEN WITH THE SEED: the statements are not yours to turn. If you find one false, say at which input.
  Laid BY PROGRAM, IN A SANDBOX (cutbox-rows.mjs): the forced cells as the released guide's own fill.sh prints them over the translation a4f20424a4c777a8… (all of the seat's roots in one cut). By AI agents, Wed Nov 11 2026. No macro, syntax, notation, axiom, sorry.
-/
import Derived.Test.YtbjpjidliggdhaaDoorChecked
import GoSem.Claim
import GoSem.ClaimJoined
import GoSem.ClaimMapViews
import Derived.JoinedTies
import Derived.KernelRfl
namespace Go.Proofs.YtbjpjidliggdhaaDoor
/- THE CELL 'sum', in the pinned program and in every row, IS THE sha256 OF THE DUMP (.gsa) THAT YtbjpjidliggdhaaDoorProg.lean LOADS. Nothing in Lean hashes anything: it is a label: what it is worth is what the hold of that sum in a sandbox is worth. -/
noncomputable def Tryd.pinned : Pinned := { name := "ytbjpjidliggdhaadoor", sum := "a4f20424a4c777a8a40ff20ff70ce7cadf5e44648a8f3f6a302ebd85d31228d2", checked := Tryd.checked }
namespace Rows
def none {H : Type} : Left H := { results := [], args := [] }

/- WHAT THE LISTED PACKAGE-LEVEL VARIABLES READ AS WHEN THE CALL BEGINS. Each datum BY PROGRAM (the guide's laid-datum.mjs) off the statement by which the dump's own 'gosem.cut.vars' lays the variable. In a bare row this is a premise. The card (YtbjpjidliggdhaaDoorCards.lean) ties it to the program's text. -/
def laid_errors_errorType {H : Type} : DataW H := .iface "internal/reflectlite.rtype" (.agg [.ptr (.lit (.string [101, 114, 114, 111, 114]))])
def laid_tiles_api_ErrEntry {H : Type} : DataW H := .iface "*errors.errorString" (.ptr (.agg [.lit (.string [116, 104, 101, 32, 101, 110, 116, 114, 121, 32, 105, 115, 32, 116, 111, 111, 32, 108, 111, 110, 103])]))
def laid_tiles_api_ErrRange {H : Type} : DataW H := .iface "*errors.errorString" (.ptr (.agg [.lit (.string [116, 104, 101, 114, 101, 32, 105, 115, 32, 110, 111, 32, 115, 117, 99, 104, 32, 101, 110, 116, 114, 121, 44, 32, 111, 114, 32, 110, 111, 32, 115, 117, 99, 104, 32, 115, 105, 122, 101])]))
def laid_tiles_api_ErrCheckpoint {H : Type} : DataW H := .iface "*errors.errorString" (.ptr (.agg [.lit (.string [116, 104, 105, 115, 32, 105, 115, 32, 110, 111, 32, 99, 104, 101, 99, 107, 112, 111, 105, 110, 116, 32, 111, 102, 32, 116, 104, 97, 116, 32, 107, 101, 121])]))
def laid_tiles_api_ErrOld {H : Type} : DataW H := .iface "*errors.errorString" (.ptr (.agg [.lit (.string [116, 104, 101, 32, 99, 104, 101, 99, 107, 112, 111, 105, 110, 116, 32, 105, 115, 32, 111, 108, 100, 101, 114, 32, 116, 104, 97, 110, 32, 119, 104, 97, 116, 32, 105, 115, 32, 116, 114, 117, 115, 116, 101, 100])]))
def laid_tiles_api_ErrProof {H : Type} : DataW H := .iface "*errors.errorString" (.ptr (.agg [.lit (.string [119, 104, 97, 116, 32, 104, 97, 115, 32, 99, 111, 109, 101, 32, 100, 111, 101, 115, 32, 110, 111, 116, 32, 102, 105, 116])]))
def laid_tiles_api_ErrTile {H : Type} : DataW H := .iface "*errors.errorString" (.ptr (.agg [.lit (.string [97, 32, 116, 105, 108, 101, 32, 111, 114, 32, 98, 117, 110, 100, 108, 101, 32, 105, 115, 32, 109, 105, 115, 115, 105, 110, 103, 32, 111, 114, 32, 98, 114, 111, 107, 101, 110])]))
def laid_tiles_api_ErrFailed {H : Type} : DataW H := .iface "*errors.errorString" (.ptr (.agg [.lit (.string [116, 104, 101, 32, 112, 117, 98, 108, 105, 115, 104, 101, 114, 32, 104, 97, 115, 32, 102, 97, 105, 108, 101, 100])]))

/-- 'tileslaw.Paths': WHATEVER THE INPUT: true; the input reads as it did. -/
def pathsSpec : ChangeSpec := { name := "paths", fn := fun _ => fun
  | [d1, d2, d3] => { results := [.lit (.bool true)], args := [d1, d2, d3] }
  | _ => none }
def pathsRow : OpenClaim := { program := "ytbjpjidliggdhaadoor", sum := "a4f20424a4c777a8a40ff20ff70ce7cadf5e44648a8f3f6a302ebd85d31228d2", func := "tiles/tileslaw.Paths", spec := "paths", inPlace := ["internal/reflectlite.TypeOf", "internal/reflectlite.ValueOf", "(internal/reflectlite.Value).Type", "(internal/reflectlite.Value).IsNil", "(internal/reflectlite.Value).Elem", "(internal/reflectlite.Value).Set"], unfollowed := true, recurses := true, named := ["tiles/api.ErrRange", "tiles/api.ErrEntry", "tiles/api.ErrCheckpoint", "tiles/api.ErrOld", "tiles/api.ErrProof", "tiles/api.ErrFailed", "tiles/api.ErrTile", "errors.errorType"], apart := false, laid := [("errors.errorType", laid_errors_errorType), ("tiles/api.ErrEntry", laid_tiles_api_ErrEntry), ("tiles/api.ErrRange", laid_tiles_api_ErrRange), ("tiles/api.ErrCheckpoint", laid_tiles_api_ErrCheckpoint), ("tiles/api.ErrOld", laid_tiles_api_ErrOld), ("tiles/api.ErrProof", laid_tiles_api_ErrProof), ("tiles/api.ErrTile", laid_tiles_api_ErrTile), ("tiles/api.ErrFailed", laid_tiles_api_ErrFailed)] }
def PathsSaid : Prop := pathsRow.holds Tryd.pinned (OpenSpec.ofChange pathsSpec)

/-- ITS FALSE NEIGHBOUR: 'it returns false'. Refute it at one input. -/
def pathsWrong : ChangeSpec := { name := "paths", fn := fun _ => fun
  | [d1, d2, d3] => { results := [.lit (.bool false)], args := [d1, d2, d3] }
  | _ => none }
def PathsWrongFalsely : Prop := pathsRow.holds Tryd.pinned (OpenSpec.ofChange pathsWrong)

/-- 'tileskeep.Proves': WHATEVER THE INPUT: true; the input reads as it did. -/
def provesSpec : ChangeSpec := { name := "proves", fn := fun _ => fun
  | [d1, d2] => { results := [.lit (.bool true)], args := [d1, d2] }
  | _ => none }
def provesRow : OpenClaim := { program := "ytbjpjidliggdhaadoor", sum := "a4f20424a4c777a8a40ff20ff70ce7cadf5e44648a8f3f6a302ebd85d31228d2", func := "tiles/tileskeep.Proves", spec := "proves", inPlace := ["internal/reflectlite.TypeOf", "internal/reflectlite.ValueOf", "(internal/reflectlite.Value).Type", "(internal/reflectlite.Value).IsNil", "(internal/reflectlite.Value).Elem", "(internal/reflectlite.Value).Set"], unfollowed := true, recurses := true, named := ["tiles/api.ErrRange", "tiles/api.ErrEntry", "tiles/api.ErrCheckpoint", "tiles/api.ErrOld", "tiles/api.ErrProof", "tiles/api.ErrFailed", "tiles/api.ErrTile", "errors.errorType"], apart := false, laid := [("errors.errorType", laid_errors_errorType), ("tiles/api.ErrEntry", laid_tiles_api_ErrEntry), ("tiles/api.ErrRange", laid_tiles_api_ErrRange), ("tiles/api.ErrCheckpoint", laid_tiles_api_ErrCheckpoint), ("tiles/api.ErrOld", laid_tiles_api_ErrOld), ("tiles/api.ErrProof", laid_tiles_api_ErrProof), ("tiles/api.ErrTile", laid_tiles_api_ErrTile), ("tiles/api.ErrFailed", laid_tiles_api_ErrFailed)] }
def ProvesSaid : Prop := provesRow.holds Tryd.pinned (OpenSpec.ofChange provesSpec)

/-- ITS FALSE NEIGHBOUR: 'it returns false'. Refute it at one input. -/
def provesWrong : ChangeSpec := { name := "proves", fn := fun _ => fun
  | [d1, d2] => { results := [.lit (.bool false)], args := [d1, d2] }
  | _ => none }
def ProvesWrongFalsely : Prop := provesRow.holds Tryd.pinned (OpenSpec.ofChange provesWrong)

/-- 'tileskeep.Extends': WHATEVER THE INPUT: true; the input reads as it did. -/
def extendsSpec : ChangeSpec := { name := "extends", fn := fun _ => fun
  | [d] => { results := [.lit (.bool true)], args := [d] }
  | _ => none }
def extendsRow : OpenClaim := { program := "ytbjpjidliggdhaadoor", sum := "a4f20424a4c777a8a40ff20ff70ce7cadf5e44648a8f3f6a302ebd85d31228d2", func := "tiles/tileskeep.Extends", spec := "extends", inPlace := ["internal/reflectlite.TypeOf", "internal/reflectlite.ValueOf", "(internal/reflectlite.Value).Type", "(internal/reflectlite.Value).IsNil", "(internal/reflectlite.Value).Elem", "(internal/reflectlite.Value).Set"], unfollowed := true, recurses := true, named := ["tiles/api.ErrRange", "tiles/api.ErrEntry", "tiles/api.ErrCheckpoint", "tiles/api.ErrOld", "tiles/api.ErrProof", "tiles/api.ErrFailed", "tiles/api.ErrTile", "errors.errorType"], apart := false, laid := [("errors.errorType", laid_errors_errorType), ("tiles/api.ErrEntry", laid_tiles_api_ErrEntry), ("tiles/api.ErrRange", laid_tiles_api_ErrRange), ("tiles/api.ErrCheckpoint", laid_tiles_api_ErrCheckpoint), ("tiles/api.ErrOld", laid_tiles_api_ErrOld), ("tiles/api.ErrProof", laid_tiles_api_ErrProof), ("tiles/api.ErrTile", laid_tiles_api_ErrTile), ("tiles/api.ErrFailed", laid_tiles_api_ErrFailed)] }
def ExtendsSaid : Prop := extendsRow.holds Tryd.pinned (OpenSpec.ofChange extendsSpec)

/-- ITS FALSE NEIGHBOUR: 'it returns false'. Refute it at one input. -/
def extendsWrong : ChangeSpec := { name := "extends", fn := fun _ => fun
  | [d] => { results := [.lit (.bool false)], args := [d] }
  | _ => none }
def ExtendsWrongFalsely : Prop := extendsRow.holds Tryd.pinned (OpenSpec.ofChange extendsWrong)

/- THE SECOND FORM. 'bulk': how many values and letters a reading holds, each counted each time it is reached (what is shared counts as often as it is met; a slice's spare places count too). A statement '..UptoSaid' is the law's where the arguments, and the package variables that the reading takes, are together of bulk at most 1048576: NARROWER than '..Said'. Prove '..Said' where nothing that the law and all that it calls make is longer than what came in: it says more and counts as full. Else prove '..UptoSaid'. A law counts once. -/
mutual
def uptoBulk {H : Type} : DataW H → Nat
  | .lit (.string bytes) => bytes.length + 1
  | .lit _ => 1
  | .nil => 1
  | .ptr d => uptoBulk d + 1
  | .slice elems spare => uptoBulkAll elems + uptoBulkAll spare + 1
  | .agg parts => uptoBulkAll parts + 1
  | .iface _ d => uptoBulk d + 1
  | .map entries => uptoBulkEntries entries + 1
  | .held _ => 1
def uptoBulkAll {H : Type} : List (DataW H) → Nat
  | [] => 0
  | d :: r => uptoBulk d + uptoBulkAll r
def uptoBulkEntries {H : Type} : List (Lit × DataW H) → Nat
  | [] => 0
  | x :: r => uptoBulkEntry x + uptoBulkEntries r
def uptoBulkEntry {H : Type} : Lit × DataW H → Nat
  | (.string bytes, d) => bytes.length + uptoBulk d + 1
  | (_, d) => uptoBulk d + 1
 end
def uptoSmall : (H : Type) → List (DataW H) → Bool := fun _ ds => decide (uptoBulkAll ds ≤ 1048576)
def OpenSpec.upto (s : _root_.Go.ChangeSpec) : _root_.Go.OpenSpec := { _root_.Go.OpenSpec.ofChange s with cond := some uptoSmall }

/-- 'tileslaw.Paths', WHERE WHAT IT READS IS OF BULK AT MOST 1048576: true; the input reads as it did. -/
def pathsUptoRow : OpenClaim := { program := "ytbjpjidliggdhaadoor", sum := "a4f20424a4c777a8a40ff20ff70ce7cadf5e44648a8f3f6a302ebd85d31228d2", func := "tiles/tileslaw.Paths", spec := "paths", inPlace := ["internal/reflectlite.TypeOf", "internal/reflectlite.ValueOf", "(internal/reflectlite.Value).Type", "(internal/reflectlite.Value).IsNil", "(internal/reflectlite.Value).Elem", "(internal/reflectlite.Value).Set"], unfollowed := true, recurses := true, named := ["tiles/api.ErrRange", "tiles/api.ErrEntry", "tiles/api.ErrCheckpoint", "tiles/api.ErrOld", "tiles/api.ErrProof", "tiles/api.ErrFailed", "tiles/api.ErrTile", "errors.errorType"], apart := false, laid := [("errors.errorType", laid_errors_errorType), ("tiles/api.ErrEntry", laid_tiles_api_ErrEntry), ("tiles/api.ErrRange", laid_tiles_api_ErrRange), ("tiles/api.ErrCheckpoint", laid_tiles_api_ErrCheckpoint), ("tiles/api.ErrOld", laid_tiles_api_ErrOld), ("tiles/api.ErrProof", laid_tiles_api_ErrProof), ("tiles/api.ErrTile", laid_tiles_api_ErrTile), ("tiles/api.ErrFailed", laid_tiles_api_ErrFailed)], narrowed := true }
def PathsUptoSaid : Prop := pathsUptoRow.holds Tryd.pinned (OpenSpec.upto pathsSpec)

/-- 'tileskeep.Proves', WHERE WHAT IT READS IS OF BULK AT MOST 1048576: true; the input reads as it did. -/
def provesUptoRow : OpenClaim := { program := "ytbjpjidliggdhaadoor", sum := "a4f20424a4c777a8a40ff20ff70ce7cadf5e44648a8f3f6a302ebd85d31228d2", func := "tiles/tileskeep.Proves", spec := "proves", inPlace := ["internal/reflectlite.TypeOf", "internal/reflectlite.ValueOf", "(internal/reflectlite.Value).Type", "(internal/reflectlite.Value).IsNil", "(internal/reflectlite.Value).Elem", "(internal/reflectlite.Value).Set"], unfollowed := true, recurses := true, named := ["tiles/api.ErrRange", "tiles/api.ErrEntry", "tiles/api.ErrCheckpoint", "tiles/api.ErrOld", "tiles/api.ErrProof", "tiles/api.ErrFailed", "tiles/api.ErrTile", "errors.errorType"], apart := false, laid := [("errors.errorType", laid_errors_errorType), ("tiles/api.ErrEntry", laid_tiles_api_ErrEntry), ("tiles/api.ErrRange", laid_tiles_api_ErrRange), ("tiles/api.ErrCheckpoint", laid_tiles_api_ErrCheckpoint), ("tiles/api.ErrOld", laid_tiles_api_ErrOld), ("tiles/api.ErrProof", laid_tiles_api_ErrProof), ("tiles/api.ErrTile", laid_tiles_api_ErrTile), ("tiles/api.ErrFailed", laid_tiles_api_ErrFailed)], narrowed := true }
def ProvesUptoSaid : Prop := provesUptoRow.holds Tryd.pinned (OpenSpec.upto provesSpec)

/-- 'tileskeep.Extends', WHERE WHAT IT READS IS OF BULK AT MOST 1048576: true; the input reads as it did. -/
def extendsUptoRow : OpenClaim := { program := "ytbjpjidliggdhaadoor", sum := "a4f20424a4c777a8a40ff20ff70ce7cadf5e44648a8f3f6a302ebd85d31228d2", func := "tiles/tileskeep.Extends", spec := "extends", inPlace := ["internal/reflectlite.TypeOf", "internal/reflectlite.ValueOf", "(internal/reflectlite.Value).Type", "(internal/reflectlite.Value).IsNil", "(internal/reflectlite.Value).Elem", "(internal/reflectlite.Value).Set"], unfollowed := true, recurses := true, named := ["tiles/api.ErrRange", "tiles/api.ErrEntry", "tiles/api.ErrCheckpoint", "tiles/api.ErrOld", "tiles/api.ErrProof", "tiles/api.ErrFailed", "tiles/api.ErrTile", "errors.errorType"], apart := false, laid := [("errors.errorType", laid_errors_errorType), ("tiles/api.ErrEntry", laid_tiles_api_ErrEntry), ("tiles/api.ErrRange", laid_tiles_api_ErrRange), ("tiles/api.ErrCheckpoint", laid_tiles_api_ErrCheckpoint), ("tiles/api.ErrOld", laid_tiles_api_ErrOld), ("tiles/api.ErrProof", laid_tiles_api_ErrProof), ("tiles/api.ErrTile", laid_tiles_api_ErrTile), ("tiles/api.ErrFailed", laid_tiles_api_ErrFailed)], narrowed := true }
def ExtendsUptoSaid : Prop := extendsUptoRow.holds Tryd.pinned (OpenSpec.upto extendsSpec)

end Rows
end Go.Proofs.YtbjpjidliggdhaaDoor
