
import Derived.Test.YtbjpjidliggdhaaDoorNamesWalks
import Derived.Test.YtbjpjidliggdhaaDoorRootWalks
namespace Go.Proofs.YtbjpjidliggdhaaDoor
open Go.RowKit
set_option maxRecDepth 100000

theorem Sents.below {w w' : World} {at_ : Nat → Addr} (h : Sents w at_) (hb : Below w.heap.size w w') : Sents w' at_ := by
  have c : ∀ {a : Addr} {v : Value}, w.cell? a = some v → w'.cell? a = some v := fun {a v} e => by rw [hb.cell (p := a) (cell_lt e)]; exact e
  refine ⟨c h.entry, c h.range, c h.check, c h.old, c h.proof, c h.tile, c h.failed, h.apart, fun i hi => ?_⟩
  obtain ⟨cs, t, e⟩ := h.block i hi
  refine ⟨cs, t, ?_⟩
  rw [hb.block _ ?_]
  · exact e
  · rcases Nat.lt_or_ge (at_ i).block w.heap.size with h' | h'
    · exact h'
    · simp [Array.getElem?_eq_none h'] at e

/-- What an error is told as. -/
def told (n : Int) : Value := .agg #[.int .i64 n, .string ⟨#[]⟩]

set_option maxHeartbeats 1000000 in
theorem of_nil (at_ : Nat → Addr) (w : World) (hs : Sents w at_) :
    Calls Tryd.prog 19 #[.nilIface] w fun e w' => e = .returned (told 0) ∧ Below w.heap.size w w' := by
  obtain ⟨h0, h1, h2, h3, h4, h5, h6, hap, hbl⟩ := hs
  clear hap hbl h5
  have g0 : ∀ o, (w.alloc o).cell? ⟨1, 0, none⟩ = some (.iface 122 (.pointer (some (at_ 0)))) := fun o => by rw [cell_old _ _ ⟨_, 0, none⟩ (cell_lt h0)]; exact h0
  have g1 : ∀ o, (w.alloc o).cell? ⟨0, 0, none⟩ = some (.iface 122 (.pointer (some (at_ 1)))) := fun o => by rw [cell_old _ _ ⟨_, 0, none⟩ (cell_lt h1)]; exact h1
  have g2 : ∀ o, (w.alloc o).cell? ⟨2, 0, none⟩ = some (.iface 122 (.pointer (some (at_ 2)))) := fun o => by rw [cell_old _ _ ⟨_, 0, none⟩ (cell_lt h2)]; exact h2
  have g3 : ∀ o, (w.alloc o).cell? ⟨3, 0, none⟩ = some (.iface 122 (.pointer (some (at_ 3)))) := fun o => by rw [cell_old _ _ ⟨_, 0, none⟩ (cell_lt h3)]; exact h3
  have g4 : ∀ o, (w.alloc o).cell? ⟨4, 0, none⟩ = some (.iface 122 (.pointer (some (at_ 4)))) := fun o => by rw [cell_old _ _ ⟨_, 0, none⟩ (cell_lt h4)]; exact h4
  have g6 : ∀ o, (w.alloc o).cell? ⟨5, 0, none⟩ = some (.iface 122 (.pointer (some (at_ 6)))) := fun o => by rw [cell_old _ _ ⟨_, 0, none⟩ (cell_lt h6)]; exact h6
  clear h0 h1 h2 h3 h4 h6
  go_enter Tryd.func19, Tryd.ntmps19
  go_wp2_with fail
  refine bodyPost_ret (v := told 0) (results_cell_row Tryd.results19 _ _ w.heap.size 25 _ (0, 0) _ rfl (heap_alloc_old (heap_alloc_old (heap_alloc_last _ _))) Tryd.underlying25 rfl (by kernel_rfl)) rfl ⟨rfl, ?_⟩
  exact ((below_alloc _ _).trans ((below_alloc _ _).mono (by simp))).trans ((below_alloc _ _).mono (by simp; omega))
theorem assert_no (v : Value) (W : World) : (Instr.typeAssert (.iface 122 v) 39 64 true).run Tryd.prog W = .ok (.tuple #[.pointer none, .bool false]) W := by kernel_rfl
set_option maxHeartbeats 1000000 in
theorem of_range (at_ : Nat → Addr) (w : World) (hs : Sents w at_) :
    Calls Tryd.prog 19 #[.iface 122 (.pointer (some (at_ 1)))] w fun e w' => e = .returned (told 2) ∧ Below w.heap.size w w' := by
  obtain ⟨h0, h1, h2, h3, h4, h5, h6, hap, hbl⟩ := hs
  have Hap := hide (hap 1 0 (by decide) (by decide) (by decide))
  have Hbl := hide (And.intro (hbl 0 (by decide)) (hbl 1 (by decide)))
  clear hap hbl h5
  have g0 : ∀ o, (w.alloc o).cell? ⟨1, 0, none⟩ = some (.iface 122 (.pointer (some (at_ 0)))) := fun o => by rw [cell_old _ _ ⟨_, 0, none⟩ (cell_lt h0)]; exact h0
  have g1 : ∀ o, (w.alloc o).cell? ⟨0, 0, none⟩ = some (.iface 122 (.pointer (some (at_ 1)))) := fun o => by rw [cell_old _ _ ⟨_, 0, none⟩ (cell_lt h1)]; exact h1
  have g2 : ∀ o, (w.alloc o).cell? ⟨2, 0, none⟩ = some (.iface 122 (.pointer (some (at_ 2)))) := fun o => by rw [cell_old _ _ ⟨_, 0, none⟩ (cell_lt h2)]; exact h2
  have g3 : ∀ o, (w.alloc o).cell? ⟨3, 0, none⟩ = some (.iface 122 (.pointer (some (at_ 3)))) := fun o => by rw [cell_old _ _ ⟨_, 0, none⟩ (cell_lt h3)]; exact h3
  have g4 : ∀ o, (w.alloc o).cell? ⟨4, 0, none⟩ = some (.iface 122 (.pointer (some (at_ 4)))) := fun o => by rw [cell_old _ _ ⟨_, 0, none⟩ (cell_lt h4)]; exact h4
  have g6 : ∀ o, (w.alloc o).cell? ⟨5, 0, none⟩ = some (.iface 122 (.pointer (some (at_ 6)))) := fun o => by rw [cell_old _ _ ⟨_, 0, none⟩ (cell_lt h6)]; exact h6
  clear h0 h1 h2 h3 h4 h6
  have hno := assert_no (.pointer (some (at_ 1)))
  have hdf : ∀ o1 o2 o3, (binOp .eql 39 (.iface 122 (.pointer (some (at_ 1)))) (.iface 122 (.pointer (some (at_ 0))))).run Tryd.prog (((w.alloc o1).alloc o2).alloc o3) = .ok (.bool false) (((w.alloc o1).alloc o2).alloc o3) := fun o1 o2 o3 => by
    obtain ⟨⟨c0, t0, e0⟩, ⟨c1, t1, e1⟩⟩ := Hbl.out
    exact errs_differ Hap.out ⟨c1, t1, heap_alloc_old (heap_alloc_old (heap_alloc_old e1))⟩ ⟨c0, t0, heap_alloc_old (heap_alloc_old (heap_alloc_old e0))⟩
  have hsm : ∀ W, (binOp .eql 39 (.iface 122 (.pointer (some (at_ 1)))) (.iface 122 (.pointer (some (at_ 1))))).run Tryd.prog W = .ok (.bool true) W := fun W => by
    obtain ⟨i, hi, hcmp⟩ := Option.map_eq_some_iff.1 compPtr
    obtain ⟨j, hj, hjs⟩ := Option.map_eq_some_iff.1 sizeStr
    exact run_eql_iface_ptr_same W (at_ 1) Tryd.underlying39 Tryd.underlying122 hi hcmp hj
  go_enter Tryd.func19, Tryd.ntmps19
  go_wp2_with fail
  refine wp_loop_rounds 3 ?_
  rw [rounds_succ]
  go_wp2_with fail
  rw [rounds_succ]
  go_wp2_with fail
  rw [rounds_succ]
  go_wp2_with fail
  refine bodyPost_ret (v := told 2) (results_cell_row Tryd.results19 _ _ w.heap.size 25 _ (0, 0) _ rfl (heap_alloc_old (heap_alloc_old (heap_alloc_last _ _))) Tryd.underlying25 rfl (by kernel_rfl)) rfl ⟨rfl, ?_⟩
  exact ((below_alloc _ _).trans ((below_alloc _ _).mono (by simp))).trans ((below_alloc _ _).mono (by simp; omega))
end Go.Proofs.YtbjpjidliggdhaaDoor
