
import Derived.Test.YtfgbghmefomolaaDoorBase
namespace Go.Proofs.YtfgbghmefomolaaDoor
open Go.RowKit

theorem compPtr : (Tryd.prog.info? 105).map (·.comparable) = some true := by kernel_rfl
theorem sizeStr : (Tryd.prog.info? 107).map (·.size) = some 1 := by kernel_rfl

/-- The two errors are of different places: '==' says no. -/
theorem errs_differ {w : World} {a b : Addr} (hne : a ≠ b) (ha : ∃ c t, w.heap[a.block]? = some (.cells c t (0, 0))) (hb : ∃ c t, w.heap[b.block]? = some (.cells c t (0, 0))) :
    (binOp .eql 36 (.iface 105 (.pointer (some a))) (.iface 105 (.pointer (some b)))).run Tryd.prog w = .ok (.bool false) w := by
  obtain ⟨i, hi, hcmp⟩ := Option.map_eq_some_iff.1 compPtr
  obtain ⟨j, hj, hjs⟩ := Option.map_eq_some_iff.1 sizeStr
  obtain ⟨ca, ta, ha⟩ := ha
  obtain ⟨cb, tb, hb⟩ := hb
  exact run_eql_iface_ptr_other w Tryd.underlying36 Tryd.underlying105 hi hcmp hj (by rw [hjs]; decide) hne ha hb

set_option maxHeartbeats 400000 in
theorem index_none (b n cap : Nat) (at_ : Nat → Addr) (a : Addr) (w : World) (hn : n ≤ 7) (hcells : ∀ j, j < n → w.cell? ⟨b, j, none⟩ = some (.iface 105 (.pointer (some (at_ j)))))
    (hne : ∀ j, j < n → (binOp .eql 36 (.iface 105 (.pointer (some a))) (.iface 105 (.pointer (some (at_ j))))).run Tryd.prog w = .ok (.bool false) w) :
    Calls Tryd.prog 28 #[.slice (some ⟨b, 0, none⟩) n cap, .iface 105 (.pointer (some a))] w fun e w' => e = .returned (.int .i64 (-1)) ∧ w' = w := by
  go_enter Tryd.func28, Tryd.ntmps28
  go_wp2
  go_loop [8] (fun i => ∃ k : Nat, k ≤ n ∧ i = .int .i64 k) (fun i => n - (intOf i).toNat)
  case atStart => exact ⟨0, Nat.zero_le _, rfl⟩
  case round =>
    obtain ⟨k, hk, rfl⟩ := hrel
    by_cases hlt : k < n
    · have hc := hcells k hlt
      have he := hne k hlt
      clear hcells hne
      go_wp2
      go_round
      case rel => exact ⟨k + 1, by omega, by go_num⟩
      case measure => simp [intOf]; omega
    · clear hcells hne
      go_wp2
      go_ret
      exact ⟨rfl, rfl⟩

set_option maxHeartbeats 400000 in
theorem contains_no (b n cap : Nat) (at_ : Nat → Addr) (a : Addr) (w : World) (hn : n ≤ 7) (hcells : ∀ j, j < n → w.cell? ⟨b, j, none⟩ = some (.iface 105 (.pointer (some (at_ j)))))
    (hne : ∀ j, j < n → (binOp .eql 36 (.iface 105 (.pointer (some a))) (.iface 105 (.pointer (some (at_ j))))).run Tryd.prog w = .ok (.bool false) w) :
    Calls Tryd.prog 16 #[.slice (some ⟨b, 0, none⟩) n cap, .iface 105 (.pointer (some a))] w fun e w' => e = .returned (.bool false) ∧ w' = w := by
  have H := hide hcells
  have H' := hide hne
  clear hcells hne
  go_enter Tryd.func16, Tryd.ntmps16
  go_wp2_with fail
  refine (index_none b n cap at_ a _ hn H.out H'.out).mono ?_
  rintro e w' ⟨rfl, rfl⟩
  go_wp2_with fail
  go_ret
  exact ⟨rfl, rfl⟩

/-- What the seven sentinels' cells hold. -/
structure Sents (w : World) (at_ : Nat → Addr) : Prop where
  entry : w.cell? ⟨0, 0, none⟩ = some (.iface 105 (.pointer (some (at_ 0))))
  range : w.cell? ⟨1, 0, none⟩ = some (.iface 105 (.pointer (some (at_ 1))))
  check : w.cell? ⟨2, 0, none⟩ = some (.iface 105 (.pointer (some (at_ 2))))
  old : w.cell? ⟨3, 0, none⟩ = some (.iface 105 (.pointer (some (at_ 3))))
  proof : w.cell? ⟨4, 0, none⟩ = some (.iface 105 (.pointer (some (at_ 4))))
  tile : w.cell? ⟨5, 0, none⟩ = some (.iface 105 (.pointer (some (at_ 5))))
  failed : w.cell? ⟨6, 0, none⟩ = some (.iface 105 (.pointer (some (at_ 6))))
  apart : ∀ i j, i < 7 → j < 7 → i ≠ j → at_ i ≠ at_ j
  block : ∀ i, i < 7 → ∃ c t, w.heap[(at_ i).block]? = some (.cells c t (0, 0))

set_option maxHeartbeats 1000000 in
theorem same_yes (at_ : Nat → Addr) (w : World) (hs : Sents w at_) :
    Calls Tryd.prog 6 #[] w fun e w' => e = .returned (.bool true) ∧ Below w.heap.size w w' := by
  obtain ⟨h0, h1, h2, h3, h4, h5, h6, hap, hbl⟩ := hs
  have Hap := hide hap
  have Hbl := hide hbl
  clear hap hbl
  go_enter Tryd.func6, Tryd.ntmps6
  go_wp2_with fail
  have hcell : ∀ j, j < 7 → (w.alloc (Obj.cells #[Value.iface 105 (Value.pointer (some (at_ 0))), Value.iface 105 (Value.pointer (some (at_ 1))), Value.iface 105 (Value.pointer (some (at_ 2))), Value.iface 105 (Value.pointer (some (at_ 3))), Value.iface 105 (Value.pointer (some (at_ 4))), Value.iface 105 (Value.pointer (some (at_ 5))), Value.iface 105 (Value.pointer (some (at_ 6)))] 36)).cell? ⟨w.heap.size, j, none⟩ = some (.iface 105 (.pointer (some (at_ j)))) := by
    intro j hj
    rw [World.cell?_alloc_at _ _ _ _ rfl]
    match j, hj with
    | 0, _ => rfl
    | 1, _ => rfl
    | 2, _ => rfl
    | 3, _ => rfl
    | 4, _ => rfl
    | 5, _ => rfl
    | 6, _ => rfl
  have hbl : ∀ i, i < 7 → ∃ c t, (w.alloc (Obj.cells #[Value.iface 105 (Value.pointer (some (at_ 0))), Value.iface 105 (Value.pointer (some (at_ 1))), Value.iface 105 (Value.pointer (some (at_ 2))), Value.iface 105 (Value.pointer (some (at_ 3))), Value.iface 105 (Value.pointer (some (at_ 4))), Value.iface 105 (Value.pointer (some (at_ 5))), Value.iface 105 (Value.pointer (some (at_ 6)))] 36)).heap[(at_ i).block]? = some (.cells c t (0, 0)) := by
    intro i hi
    obtain ⟨c, t, h⟩ := Hbl.out i hi
    exact ⟨c, t, heap_alloc_old h⟩
  have hbe : Below w.heap.size w (w.alloc (Obj.cells #[Value.iface 105 (Value.pointer (some (at_ 0))), Value.iface 105 (Value.pointer (some (at_ 1))), Value.iface 105 (Value.pointer (some (at_ 2))), Value.iface 105 (Value.pointer (some (at_ 3))), Value.iface 105 (Value.pointer (some (at_ 4))), Value.iface 105 (Value.pointer (some (at_ 5))), Value.iface 105 (Value.pointer (some (at_ 6)))] 36)) := (Below.refl _ _).alloc (Nat.le_refl _) _
  generalize w.alloc (Obj.cells #[Value.iface 105 (Value.pointer (some (at_ 0))), Value.iface 105 (Value.pointer (some (at_ 1))), Value.iface 105 (Value.pointer (some (at_ 2))), Value.iface 105 (Value.pointer (some (at_ 3))), Value.iface 105 (Value.pointer (some (at_ 4))), Value.iface 105 (Value.pointer (some (at_ 5))), Value.iface 105 (Value.pointer (some (at_ 6)))] 36) = W at *
  have Hcell := hide hcell
  have Hbl' := hide hbl
  have Hbe := hide hbe
  clear hcell hbl hbe Hbl h0 h1 h2 h3 h4 h5 h6
  go_loopw [13] (fun i wr => ∃ k n : Nat, k ≤ 7 ∧ i = .int .i64 k ∧ wr = W.drewN n) (fun i _ => 7 - (intOf i).toNat)
  case atStart => exact ⟨0, 0, Nat.zero_le _, rfl, rfl⟩
  case round =>
    obtain ⟨k, n, hk, rfl, rfl⟩ := hrel
    by_cases hlt : k < 7
    · have hc := Hcell.out k hlt
      have hki : (k : Int) < 7 := by omega
      have hk7 : (k : Int) ≤ 7 := by omega
      go_wp2_with fail
      go_quiet ((go_at_call 16; go_must (exact (contains_no _ k _ at_ (at_ k) _ (by omega) (by exact fun j hj => Hcell.out j (by omega)) (by exact fun j hj => errs_differ (Hap.out k j (by omega) (by omega) (by omega)) (Hbl'.out k (by omega)) (Hbl'.out j (by omega)))).mono fun _ _ ⟨he, hw⟩ => ⟨he, _, hw⟩)))
      go_wp2_with fail
      go_roundw
      case rel => exact ⟨k + 1, _, by omega, by go_num, rfl⟩
      case measure => simp [intOf]; omega
    · go_wp2_with fail
      go_ret
      exact ⟨rfl, below_drewN Hbe.out _⟩

set_option maxHeartbeats 400000 in
theorem names_yes (at_ : Nat → Addr) (w : World) (hs : Sents w at_) :
    Calls Tryd.prog 3 #[] w fun e w' => e = .returned (.bool true) ∧ Below w.heap.size w w' := by
  go_enter Tryd.func3, Tryd.ntmps3
  go_wp2_with fail
  refine (same_yes at_ w hs).mono ?_
  rintro e w' ⟨rfl, hb⟩
  go_wp2_with fail
  go_ret
  exact ⟨rfl, hb⟩
end Go.Proofs.YtfgbghmefomolaaDoor
