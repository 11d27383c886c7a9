
import Derived.Test.YtfgbghmefomolaaLeafWalks
import Derived.BigRegion
import Derived.Deep.RegionWith
namespace Go.Proofs.Ytfgbghmefomolaa
open Go.RowKit

theorem node_parts (w : World) (O : Obj) (a b : List UInt8) (ha : a.length = 8) (hb : b.length = 8) :
    Bss (((((w.alloc (.cells (hv a) 38)).alloc (.cells (hv b) 38)).alloc O).alloc (.cells #[.int .u8 1] 5)).alloc
      (.cells #[.slice (some ⟨w.heap.size + 1 + 1 + 1, 0, none⟩) 1 1, .slice (some ⟨w.heap.size, 0, none⟩) 8 8, .slice (some ⟨w.heap.size + 1, 0, none⟩) 8 8] 41)) (.slice (some ⟨w.heap.size + 1 + 1 + 1 + 1, 0, none⟩) 3 3) [[1], a, b] := by
  refine ⟨_, _, rfl, Nat.le_refl _, .inr ⟨_, _, rfl, fun i hi => ?_⟩⟩
  match i, hi with
  | 0, _ =>
    refine ⟨.slice (some ⟨w.heap.size + 1 + 1 + 1, 0, none⟩) 1 1, by rw [cell_new _ _ _ _ _ (by simp)]; rfl, ?_⟩
    exact (Bs.fresh _ [1] _ _ (by simp) 1).below (below_alloc _ _)
  | 1, _ =>
    refine ⟨.slice (some ⟨w.heap.size, 0, none⟩) 8 8, by rw [cell_new _ _ _ _ _ (by simp)]; rfl, ?_⟩
    have h := (Bs.fresh w a 38 _ rfl 8)
    rw [ha] at h
    exact (h.below (below_alloc3 _ _ _ _)).below (below_alloc _ _)
  | 2, _ =>
    refine ⟨.slice (some ⟨w.heap.size + 1, 0, none⟩) 8 8, by rw [cell_new _ _ _ _ _ (by simp)]; rfl, ?_⟩
    have h := (Bs.fresh (w.alloc (.cells (hv a) 38)) b 38 (w.heap.size + 1) (by simp) 8)
    rw [hb] at h
    exact h.below (below_alloc3 _ _ _ _)

theorem agg8 (l : List UInt8) (h : l.length = 8) : ∃ x0 x1 x2 x3 x4 x5 x6 x7 : Int, hv l = #[.int .u8 x0, .int .u8 x1, .int .u8 x2, .int .u8 x3, .int .u8 x4, .int .u8 x5, .int .u8 x6, .int .u8 x7] := by
  obtain ⟨b0, b1, b2, b3, b4, b5, b6, b7, rfl⟩ := hv8 l h
  exact ⟨_, _, _, _, _, _, _, _, rfl⟩

theorem below_set8 {B g : Nat} {a w : World} (h : Below B a w) (hg : B ≤ g) (v0 v1 v2 v3 v4 v5 v6 v7 : Value) :
    Below B a ((((((((w.setCell ⟨g, 0, none⟩ v0).setCell ⟨g, 1, none⟩ v1).setCell ⟨g, 2, none⟩ v2).setCell ⟨g, 3, none⟩ v3).setCell ⟨g, 4, none⟩ v4).setCell ⟨g, 5, none⟩ v5).setCell ⟨g, 6, none⟩ v6).setCell ⟨g, 7, none⟩ v7) :=
  (((((((h.setCell hg _).setCell hg _).setCell hg _).setCell hg _).setCell hg _).setCell hg _).setCell hg _).setCell hg _
/-- Eight cells of a block that is known. -/
theorem zeros8 {w : World} {g : Nat} {t : TypeId} (hg : w.heap[g]? = some (.cells #[Value.int IntKind.u8 0, Value.int IntKind.u8 0, Value.int IntKind.u8 0, Value.int IntKind.u8 0, Value.int IntKind.u8 0, Value.int IntKind.u8 0, Value.int IntKind.u8 0, Value.int IntKind.u8 0] t (0, 0))) :
    (w.cell? ⟨g, 0, none⟩ = some (.int .u8 0) ∧ w.cell? ⟨g, 1, none⟩ = some (.int .u8 0) ∧ w.cell? ⟨g, 2, none⟩ = some (.int .u8 0) ∧ w.cell? ⟨g, 3, none⟩ = some (.int .u8 0) ∧ w.cell? ⟨g, 4, none⟩ = some (.int .u8 0) ∧ w.cell? ⟨g, 5, none⟩ = some (.int .u8 0) ∧ w.cell? ⟨g, 6, none⟩ = some (.int .u8 0) ∧ w.cell? ⟨g, 7, none⟩ = some (.int .u8 0)) ∧ ∀ j, w.frozen? ⟨g, j, none⟩ = false := by
  refine ⟨⟨?_, ?_, ?_, ?_, ?_, ?_, ?_, ?_⟩, fun j => frozen_of_row _ _ _ _ _ hg⟩ <;> (rw [cell_of_row _ _ _ _ _ _ hg]; rfl)

theorem node_call (a b : List UInt8) (w : World) (ha : a.length = 8) (hb : b.length = 8) {xs : Array Value} (hx : hv (nodeH a b) = xs) :
    Calls Try.prog 38 #[.slice (some ⟨w.heap.size + 1 + 1 + 1 + 1, 0, none⟩) 3 3] (((((w.alloc (.cells (hv a) 38)).alloc (.cells (hv b) 38)).alloc (.cells #[Value.int IntKind.u8 0, Value.int IntKind.u8 0, Value.int IntKind.u8 0, Value.int IntKind.u8 0, Value.int IntKind.u8 0, Value.int IntKind.u8 0, Value.int IntKind.u8 0, Value.int IntKind.u8 0] 38)).alloc (.cells #[.int .u8 1] 5)).alloc
      (.cells #[.slice (some ⟨w.heap.size + 1 + 1 + 1, 0, none⟩) 1 1, .slice (some ⟨w.heap.size, 0, none⟩) 8 8, .slice (some ⟨w.heap.size + 1, 0, none⟩) 8 8] 41)).drew
      fun e w' => e = .returned (.agg xs) ∧ ((w'.cell? ⟨w.heap.size + 1 + 1, 0, none⟩ = some (.int .u8 0) ∧ w'.cell? ⟨w.heap.size + 1 + 1, 1, none⟩ = some (.int .u8 0) ∧ w'.cell? ⟨w.heap.size + 1 + 1, 2, none⟩ = some (.int .u8 0) ∧ w'.cell? ⟨w.heap.size + 1 + 1, 3, none⟩ = some (.int .u8 0) ∧ w'.cell? ⟨w.heap.size + 1 + 1, 4, none⟩ = some (.int .u8 0) ∧ w'.cell? ⟨w.heap.size + 1 + 1, 5, none⟩ = some (.int .u8 0) ∧ w'.cell? ⟨w.heap.size + 1 + 1, 6, none⟩ = some (.int .u8 0) ∧ w'.cell? ⟨w.heap.size + 1 + 1, 7, none⟩ = some (.int .u8 0)) ∧ ∀ j, w'.frozen? ⟨w.heap.size + 1 + 1, j, none⟩ = false) ∧ Hid (Below w.heap.size w w') := by
  refine (hashOf_any _ [[1], a, b] _ (by unfold maxLen; simp) ?_ (by exact node_parts w _ a b ha hb)).mono ?_
  · intro l hl
    simp at hl
    rcases hl with rfl | rfl | rfl <;> simp [maxLen, *]
  rintro r w' ⟨hr, hbe⟩
  refine ⟨?_, zeros8 (t := 38) ?_, ?_⟩
  · rw [hr, ← hx]; simp [nodeH]
  · rw [hbe.block _ (by simp)]
    exact heap_alloc_old (heap_alloc_old (by rw [show w.heap.size + 1 + 1 = ((w.alloc (.cells (hv a) 38)).alloc (.cells (hv b) 38)).heap.size by simp]; exact heap_alloc_last _ _))
  · refine Below.trans (b := (((((w.alloc (.cells (hv a) 38)).alloc (.cells (hv b) 38)).alloc (.cells #[Value.int IntKind.u8 0, Value.int IntKind.u8 0, Value.int IntKind.u8 0, Value.int IntKind.u8 0, Value.int IntKind.u8 0, Value.int IntKind.u8 0, Value.int IntKind.u8 0, Value.int IntKind.u8 0] 38)).alloc (.cells #[.int .u8 1] 5)).alloc
      (.cells #[.slice (some ⟨w.heap.size + 1 + 1 + 1, 0, none⟩) 1 1, .slice (some ⟨w.heap.size, 0, none⟩) 8 8, .slice (some ⟨w.heap.size + 1, 0, none⟩) 8 8] 41)).drew) ?_ (hbe.mono (by simp; omega))
    exact ((below_alloc3 w _ _ _).trans ((below_alloc2 _ _ _).mono (by simp; omega))).drew

set_option maxHeartbeats 1000000 in
theorem node_any (a b : List UInt8) (w : World) (ha : a.length = 8) (hb : b.length = 8) :
    Calls Try.prog 40 #[.agg (hv a), .agg (hv b)] w fun r w' => r = .returned (.agg (hv (nodeH a b))) ∧ Below w.heap.size w w' := by
  obtain ⟨x0, x1, x2, x3, x4, x5, x6, x7, hx⟩ := agg8 (nodeH a b) (nodeH_length a b)
  have Hx := hide hx
  have Ha := hide ha
  have Hb := hide hb
  clear ha hb hx
  go_enter Try.func40, Try.ntmps40
  go_wp2_with fail
  go_region_with (go_at_call 38; (refine (node_call a b w Ha.out Hb.out Hx.out).mono ?_; rintro e w' ⟨rfl, ⟨⟨c0, c1, c2, c3, c4, c5, c6, c7⟩, hf⟩, HB⟩))
  go_wp2
  refine bodyPost_ret (v := .agg #[.int .u8 x0, .int .u8 x1, .int .u8 x2, .int .u8 x3, .int .u8 x4, .int .u8 x5, .int .u8 x6, .int .u8 x7]) (by simp [results, Try.results40, go_sem, c0, c1, c2, c3, c4, c5, c6, c7]) rfl ⟨by rw [Hx.out], ?_⟩
  exact below_set8 HB.out (by omega) _ _ _ _ _ _ _ _
end Go.Proofs.Ytfgbghmefomolaa
