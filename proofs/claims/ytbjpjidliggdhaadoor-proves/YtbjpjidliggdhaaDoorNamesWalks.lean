
import Derived.Test.YtbjpjidliggdhaaDoorBase
namespace Go.Proofs.YtbjpjidliggdhaaDoor
open Go.RowKit

theorem compPtr : (Tryd.prog.info? 122).map (·.comparable) = some true := by kernel_rfl
theorem sizeStr : (Tryd.prog.info? 144).map (·.size) = some 1 := by kernel_rfl

/-- The two errors are of different places: '==' says no. -/
theorem errs_differ {w : World} {a b : Addr} (hne : a ≠ b) (ha : ∃ c t, w.heap[a.block]? = some (.cells c t (0, 0))) (hb : ∃ c t, w.heap[b.block]? = some (.cells c t (0, 0))) :
    (binOp .eql 39 (.iface 122 (.pointer (some a))) (.iface 122 (.pointer (some b)))).run Tryd.prog w = .ok (.bool false) w := by
  obtain ⟨i, hi, hcmp⟩ := Option.map_eq_some_iff.1 compPtr
  obtain ⟨j, hj, hjs⟩ := Option.map_eq_some_iff.1 sizeStr
  obtain ⟨ca, ta, ha⟩ := ha
  obtain ⟨cb, tb, hb⟩ := hb
  exact run_eql_iface_ptr_other w Tryd.underlying39 Tryd.underlying122 hi hcmp hj (by rw [hjs]; decide) hne ha hb

/-- What the seven sentinels' cells hold. -/
structure Sents (w : World) (at_ : Nat → Addr) : Prop where
  entry : w.cell? ⟨1, 0, none⟩ = some (.iface 122 (.pointer (some (at_ 0))))
  range : w.cell? ⟨0, 0, none⟩ = some (.iface 122 (.pointer (some (at_ 1))))
  check : w.cell? ⟨2, 0, none⟩ = some (.iface 122 (.pointer (some (at_ 2))))
  old : w.cell? ⟨3, 0, none⟩ = some (.iface 122 (.pointer (some (at_ 3))))
  proof : w.cell? ⟨4, 0, none⟩ = some (.iface 122 (.pointer (some (at_ 4))))
  tile : w.cell? ⟨6, 0, none⟩ = some (.iface 122 (.pointer (some (at_ 5))))
  failed : w.cell? ⟨5, 0, none⟩ = some (.iface 122 (.pointer (some (at_ 6))))
  apart : ∀ i j, i < 7 → j < 7 → i ≠ j → at_ i ≠ at_ j
  block : ∀ i, i < 7 → ∃ c t, w.heap[(at_ i).block]? = some (.cells c t (0, 0))

end Go.Proofs.YtbjpjidliggdhaaDoor
