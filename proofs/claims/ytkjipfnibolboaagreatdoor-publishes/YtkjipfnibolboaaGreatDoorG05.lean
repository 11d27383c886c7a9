import Derived.Test.YtkjipfnibolboaaGreatDoorG04
import Derived.BigRegion
import Derived.Deep.RegionWith
import Derived.Test.YtkjipfnibolboaaGreatDoorG02
import Derived.Test.YtkjipfnibolboaaGreatDoorG01
import Derived.Lib.Strings
import Derived.Lib.Slices
import Derived.Lib.Small
import Derived.Lib.Walk
import Derived.Lib.BitFns

namespace Go.Proofs.YtkjipfnibolboaaGreatDoor
open Go.RowKit

theorem node_parts (w : World) (O : Obj) (a b : List UInt8) (ha : a.length = 8) (hb : b.length = 8) :
    Bss (((((w.alloc (.cells (hv a) 93)).alloc (.cells (hv b) 93)).alloc O).alloc (.cells #[.int .u8 1] 5)).alloc
      (.cells #[.slice (some ⟨w.heap.size + 1 + 1 + 1, 0, none⟩) 1 1, .slice (some ⟨w.heap.size, 0, none⟩) 8 8, .slice (some ⟨w.heap.size + 1, 0, none⟩) 8 8] 89)) (.slice (some ⟨w.heap.size + 1 + 1 + 1 + 1, 0, none⟩) 3 3) [[1], a, b] := by
  refine ⟨_, _, rfl, Nat.le_refl _, .inr ⟨_, _, rfl, fun i hi => ?_⟩⟩
  match i, hi with
  | 0, _ =>
    refine ⟨.slice (some ⟨w.heap.size + 1 + 1 + 1, 0, none⟩) 1 1, by rw [cell_new _ _ _ _ _ (by simp)]; rfl, ?_⟩
    exact (Bs.fresh _ [1] _ _ (by simp) 1).below (below_alloc _ _)
  | 1, _ =>
    refine ⟨.slice (some ⟨w.heap.size, 0, none⟩) 8 8, by rw [cell_new _ _ _ _ _ (by simp)]; rfl, ?_⟩
    have h := (Bs.fresh w a 93 _ rfl 8)
    rw [ha] at h
    exact (h.below (below_alloc3 _ _ _ _)).below (below_alloc _ _)
  | 2, _ =>
    refine ⟨.slice (some ⟨w.heap.size + 1, 0, none⟩) 8 8, by rw [cell_new _ _ _ _ _ (by simp)]; rfl, ?_⟩
    have h := (Bs.fresh (w.alloc (.cells (hv a) 93)) b 93 (w.heap.size + 1) (by simp) 8)
    rw [hb] at h
    exact h.below (below_alloc3 _ _ _ _)

theorem agg8 (l : List UInt8) (h : l.length = 8) : ∃ x0 x1 x2 x3 x4 x5 x6 x7 : Int, hv l = #[.int .u8 x0, .int .u8 x1, .int .u8 x2, .int .u8 x3, .int .u8 x4, .int .u8 x5, .int .u8 x6, .int .u8 x7] := by
  obtain ⟨b0, b1, b2, b3, b4, b5, b6, b7, rfl⟩ := hv8 l h
  exact ⟨_, _, _, _, _, _, _, _, rfl⟩

theorem below_set8 {B g : Nat} {a w : World} (h : Below B a w) (hg : B ≤ g) (v0 v1 v2 v3 v4 v5 v6 v7 : Value) :
    Below B a ((((((((w.setCell ⟨g, 0, none⟩ v0).setCell ⟨g, 1, none⟩ v1).setCell ⟨g, 2, none⟩ v2).setCell ⟨g, 3, none⟩ v3).setCell ⟨g, 4, none⟩ v4).setCell ⟨g, 5, none⟩ v5).setCell ⟨g, 6, none⟩ v6).setCell ⟨g, 7, none⟩ v7) :=
  (((((((h.setCell hg _).setCell hg _).setCell hg _).setCell hg _).setCell hg _).setCell hg _).setCell hg _).setCell hg _
/-- Eight cells of a block that is known. -/
theorem zeros8 {w : World} {g : Nat} {t : TypeId} (hg : w.heap[g]? = some (.cells #[Value.int IntKind.u8 0, Value.int IntKind.u8 0, Value.int IntKind.u8 0, Value.int IntKind.u8 0, Value.int IntKind.u8 0, Value.int IntKind.u8 0, Value.int IntKind.u8 0, Value.int IntKind.u8 0] t (0, 0))) :
    (w.cell? ⟨g, 0, none⟩ = some (.int .u8 0) ∧ w.cell? ⟨g, 1, none⟩ = some (.int .u8 0) ∧ w.cell? ⟨g, 2, none⟩ = some (.int .u8 0) ∧ w.cell? ⟨g, 3, none⟩ = some (.int .u8 0) ∧ w.cell? ⟨g, 4, none⟩ = some (.int .u8 0) ∧ w.cell? ⟨g, 5, none⟩ = some (.int .u8 0) ∧ w.cell? ⟨g, 6, none⟩ = some (.int .u8 0) ∧ w.cell? ⟨g, 7, none⟩ = some (.int .u8 0)) ∧ ∀ j, w.frozen? ⟨g, j, none⟩ = false := by
  refine ⟨⟨?_, ?_, ?_, ?_, ?_, ?_, ?_, ?_⟩, fun j => frozen_of_row _ _ _ _ _ hg⟩ <;> (rw [cell_of_row _ _ _ _ _ _ hg]; rfl)

theorem node_call (a b : List UInt8) (w : World) (ha : a.length = 8) (hb : b.length = 8) {xs : Array Value} (hx : hv (nodeH a b) = xs) :
    Calls Tryz.prog 78 #[.slice (some ⟨w.heap.size + 1 + 1 + 1 + 1, 0, none⟩) 3 3] (((((w.alloc (.cells (hv a) 93)).alloc (.cells (hv b) 93)).alloc (.cells #[Value.int IntKind.u8 0, Value.int IntKind.u8 0, Value.int IntKind.u8 0, Value.int IntKind.u8 0, Value.int IntKind.u8 0, Value.int IntKind.u8 0, Value.int IntKind.u8 0, Value.int IntKind.u8 0] 93)).alloc (.cells #[.int .u8 1] 5)).alloc
      (.cells #[.slice (some ⟨w.heap.size + 1 + 1 + 1, 0, none⟩) 1 1, .slice (some ⟨w.heap.size, 0, none⟩) 8 8, .slice (some ⟨w.heap.size + 1, 0, none⟩) 8 8] 89)).drew
      fun e w' => e = .returned (.agg xs) ∧ ((w'.cell? ⟨w.heap.size + 1 + 1, 0, none⟩ = some (.int .u8 0) ∧ w'.cell? ⟨w.heap.size + 1 + 1, 1, none⟩ = some (.int .u8 0) ∧ w'.cell? ⟨w.heap.size + 1 + 1, 2, none⟩ = some (.int .u8 0) ∧ w'.cell? ⟨w.heap.size + 1 + 1, 3, none⟩ = some (.int .u8 0) ∧ w'.cell? ⟨w.heap.size + 1 + 1, 4, none⟩ = some (.int .u8 0) ∧ w'.cell? ⟨w.heap.size + 1 + 1, 5, none⟩ = some (.int .u8 0) ∧ w'.cell? ⟨w.heap.size + 1 + 1, 6, none⟩ = some (.int .u8 0) ∧ w'.cell? ⟨w.heap.size + 1 + 1, 7, none⟩ = some (.int .u8 0)) ∧ ∀ j, w'.frozen? ⟨w.heap.size + 1 + 1, j, none⟩ = false) ∧ Hid (Below w.heap.size w w') := by
  refine (hashOf_any _ [[1], a, b] _ (by unfold maxLen; simp) ?_ (by exact node_parts w _ a b ha hb)).mono ?_
  · intro l hl
    simp at hl
    rcases hl with rfl | rfl | rfl <;> simp [maxLen, *]
  rintro r w' ⟨hr, hbe⟩
  refine ⟨?_, zeros8 (t := 93) ?_, ?_⟩
  · rw [hr, ← hx]; simp [nodeH]
  · rw [hbe.block _ (by simp)]
    exact heap_alloc_old (heap_alloc_old (by rw [show w.heap.size + 1 + 1 = ((w.alloc (.cells (hv a) 93)).alloc (.cells (hv b) 93)).heap.size by simp]; exact heap_alloc_last _ _))
  · refine Below.trans (b := (((((w.alloc (.cells (hv a) 93)).alloc (.cells (hv b) 93)).alloc (.cells #[Value.int IntKind.u8 0, Value.int IntKind.u8 0, Value.int IntKind.u8 0, Value.int IntKind.u8 0, Value.int IntKind.u8 0, Value.int IntKind.u8 0, Value.int IntKind.u8 0, Value.int IntKind.u8 0] 93)).alloc (.cells #[.int .u8 1] 5)).alloc
      (.cells #[.slice (some ⟨w.heap.size + 1 + 1 + 1, 0, none⟩) 1 1, .slice (some ⟨w.heap.size, 0, none⟩) 8 8, .slice (some ⟨w.heap.size + 1, 0, none⟩) 8 8] 89)).drew) ?_ (hbe.mono (by simp; omega))
    exact ((below_alloc3 w _ _ _).trans ((below_alloc2 _ _ _).mono (by simp; omega))).drew

set_option maxHeartbeats 1000000 in
theorem node_any (a b : List UInt8) (w : World) (ha : a.length = 8) (hb : b.length = 8) :
    Calls Tryz.prog 81 #[.agg (hv a), .agg (hv b)] w fun r w' => r = .returned (.agg (hv (nodeH a b))) ∧ Below w.heap.size w w' := by
  obtain ⟨x0, x1, x2, x3, x4, x5, x6, x7, hx⟩ := agg8 (nodeH a b) (nodeH_length a b)
  have Hx := hide hx
  have Ha := hide ha
  have Hb := hide hb
  clear ha hb hx
  go_enter Tryz.func81, Tryz.ntmps81
  go_wp2_with fail
  go_region_with (go_at_call 78; (refine (node_call a b w Ha.out Hb.out Hx.out).mono ?_; rintro e w' ⟨rfl, ⟨⟨c0, c1, c2, c3, c4, c5, c6, c7⟩, hf⟩, HB⟩))
  go_wp2
  refine bodyPost_ret (v := .agg #[.int .u8 x0, .int .u8 x1, .int .u8 x2, .int .u8 x3, .int .u8 x4, .int .u8 x5, .int .u8 x6, .int .u8 x7]) (by simp [results, Tryz.results81, go_sem, c0, c1, c2, c3, c4, c5, c6, c7]) rfl ⟨by rw [Hx.out], ?_⟩
  exact below_set8 HB.out (by omega) _ _ _ _ _ _ _ _
end Go.Proofs.YtkjipfnibolboaaGreatDoor

namespace Go.Proofs.YtkjipfnibolboaaGreatDoor
open Go.RowKit

theorem bitLen_log (m : Nat) (h : m ≠ 0) (h' : m < 2 ^ 64) : Lib.bitLen m = m.log2 + 1 := by
  have h1 := Nat.log2_self_le h
  have h2 : m < 2 ^ (m.log2 + 1) := Nat.lt_log2_self
  rw [Lib.bitLen_shift m.log2 m h1 h']
  have e : m / 2 ^ m.log2 = 1 := by
    have hp : 0 < 2 ^ m.log2 := Nat.two_pow_pos _
    rw [Nat.pow_succ] at h2
    exact Nat.div_eq_of_lt_le (by omega) (by omega)
  rw [e]
  rfl

theorem tab_at (q : Int) (h0 : 0 ≤ q) (h1 : q < 256) (hs : q.toNat < Lib.len8tab.size) : ((Lib.len8tab[q.toNat]'hs).toNat : Int) = Lib.bitLen q.toNat := by
  rw [← Lib.len8_of q h0 (by omega)]
  unfold Lib.len8
  rw [getElem?_pos Lib.len8tab q.toNat hs]
  rfl

theorem len_way (c : Nat) (q : Int) (x : Nat) (hc : c ≤ 56) (h0 : 0 ≤ q) (h1 : q < 256) (hs : q.toNat < Lib.len8tab.size) (hx : Lib.bitLen x = c + Lib.bitLen q.toNat) :
    wrap64 (c + wrap64 ((Lib.len8tab[q.toNat]'hs).toNat : Int)) = (Lib.bitLen x : Int) := by
  rw [tab_at q h0 h1 hs, hx]
  have := Lib.bitLen_le8' q h0 (by omega)
  rw [show wrap64 (Lib.bitLen q.toNat : Int) = (Lib.bitLen q.toNat : Int) by unfold wrap64; omega]
  unfold wrap64
  omega

set_option maxHeartbeats 4000000 in
set_option maxRecDepth 100000 in
theorem len64_any (x : Int) (w : World) (h0 : 0 ≤ x) (h1 : x ≤ 18446744073709551615) :
    Calls Tryz.prog 119 #[.int .u64 x] w fun e w' => e = .returned (.int .i64 (Lib.bitLen x.toNat)) ∧ w' = w := by
  have hsz : Lib.len8tab.size = 256 := Lib.len8tab_size
  go_enter Tryz.func119, Tryz.ntmps119
  go_wp2
  all_goals go_ret
  all_goals refine ⟨congrArg Ending.returned (congrArg (Value.int IntKind.i64) ?_), rfl⟩
  · exact len_way 56 _ _ (by omega) (by omega) (by omega) (by omega) (by rw [Lib.bitLen_shift56 x.toNat (by omega) (by omega)]; congr 2; omega)
  · exact len_way 48 _ _ (by omega) (by omega) (by omega) (by omega) (by rw [Lib.bitLen_shift48 x.toNat (by omega) (by omega)]; congr 2; omega)
  · exact len_way 40 _ _ (by omega) (by omega) (by omega) (by omega) (by rw [Lib.bitLen_shift40 x.toNat (by omega) (by omega)]; congr 2; omega)
  · exact len_way 32 _ _ (by omega) (by omega) (by omega) (by omega) (by rw [Lib.bitLen_shift32 x.toNat (by omega) (by omega)]; congr 2; omega)
  · exact len_way 24 _ _ (by omega) (by omega) (by omega) (by omega) (by rw [Lib.bitLen_shift24 x.toNat (by omega) (by omega)]; congr 2; omega)
  · exact len_way 16 _ _ (by omega) (by omega) (by omega) (by omega) (by rw [Lib.bitLen_shift16 x.toNat (by omega) (by omega)]; congr 2; omega)
  · exact len_way 8 _ _ (by omega) (by omega) (by omega) (by omega) (by rw [Lib.bitLen_shift8 x.toNat (by omega) (by omega)]; congr 2; omega)
  · have := len_way 0 x x.toNat (by omega) (by omega) (by omega) (by omega) (by simp)
    simpa using this

set_option maxHeartbeats 400000 in
theorem len_any (x : Int) (w : World) (h0 : 0 ≤ x) (h1 : x ≤ 18446744073709551615) :
    Calls Tryz.prog 102 #[.int .u64 x] w fun e w' => e = .returned (.int .i64 (Lib.bitLen x.toNat)) ∧ w' = w := by
  go_enter Tryz.func102, Tryz.ntmps102
  go_wp2_with fail
  refine (len64_any x w h0 h1).mono ?_
  rintro e w' ⟨rfl, rfl⟩
  go_wp2_with fail
  go_ret
  exact ⟨rfl, rfl⟩

set_option maxHeartbeats 400000 in
theorem split_any (n : Nat) (w : World) (h0 : 2 ≤ n) (h1 : n ≤ 9223372036854775807) :
    Calls Tryz.prog 80 #[.int .i64 n] w fun e w' => e = .returned (.int .i64 (kOf n)) ∧ w' = w := by
  go_enter Tryz.func80, Tryz.ntmps80
  go_wp2_with fail
  refine (len_any ((n : Int) - 1) w (by omega) (by omega)).mono ?_
  rintro e w' ⟨hr, rfl⟩
  have hj : Lib.bitLen ((n : Int) - 1).toNat = (n - 1).log2 + 1 := by
    rw [show ((n : Int) - 1).toNat = n - 1 by omega]
    exact bitLen_log _ (by omega) (by omega)
  have hj62 : (n - 1).log2 ≤ 62 := by
    have := (Nat.log2_lt (n := n - 1) (k := 63) (by omega)).2 (by omega)
    omega
  rw [hj] at hr
  subst hr
  have Hk : Hid (kOf n = 2 ^ (n - 1).log2) := rfl
  clear hj
  generalize (n - 1).log2 = j at *
  go_wp2_with fail
  go_ret
  refine ⟨congrArg Ending.returned (congrArg (Value.int IntKind.i64) ?_), rfl⟩
  have h2 : 2 ^ j ≤ 2 ^ 62 := Nat.pow_le_pow_right (by omega) hj62
  have h3 : ((2 : Int) ^ j) = ((2 ^ j : Nat) : Int) := by simp
  rw [Hk.out]
  show wrap64 ((2 : Int) ^ j) = _
  rw [h3]
  generalize 2 ^ j = p at *
  unfold wrap64
  omega

set_option maxHeartbeats 400000 in
theorem below_any (n : Nat) (w : World) (h0 : 2 ≤ n) (h1 : n ≤ 9223372036854775807) :
    Calls Tryz.prog 65 #[.int .i64 n] w fun e w' => e = .returned (.int .i64 (kOf n)) ∧ w' = w := by
  go_enter Tryz.func65, Tryz.ntmps65
  go_wp2_with fail
  go_loop [3] (fun t => ∃ j : Nat, ∃ k : Nat, k = 2 ^ j ∧ k < n ∧ t = .int .i64 k) (fun t => n - (intOf t).toNat)
  case atStart => exact ⟨0, 1, rfl, by omega, rfl⟩
  case round =>
    obtain ⟨j, k, hk, hlt, rfl⟩ := hrel
    have Hk := hide hk
    have hpos : 1 ≤ k := by rw [hk]; exact Nat.one_le_two_pow
    clear hk
    by_cases hc : 2 * k < n
    · go_wp2
      go_round
      case rel => exact ⟨j + 1, 2 * k, by rw [Hk.out, Nat.pow_succ]; omega, by omega, by go_num⟩
      case measure => simp [intOf]; omega
    · go_wp2
      go_ret
      refine ⟨congrArg Ending.returned (congrArg (Value.int IntKind.i64) (congrArg Int.ofNat ?_)), rfl⟩
      rw [Hk.out]
      exact kOf_eq n j (by rw [← Hk.out]; omega) (by rw [Nat.pow_succ, ← Hk.out]; omega)
end Go.Proofs.YtkjipfnibolboaaGreatDoor
