
import Derived.Test.YtfgbghmefomolaaHashWalks
namespace Go.Proofs.Ytfgbghmefomolaa
open Go.RowKit

theorem cell_new (w : World) (c : Array Value) (t : TypeId) (i n : Nat) (hn : n = w.heap.size) : (w.alloc (.cells c t)).cell? ⟨n, i, none⟩ = c[i]? := by
  subst hn
  rw [cell_of_row _ _ _ c t (0, 0) (heap_alloc_last _ _)]
theorem cell_old (w : World) (o : Obj) (p : Addr) (h : p.block < w.heap.size) : (w.alloc o).cell? p = w.cell? p :=
  ((Below.refl _ _).alloc (Nat.le_refl _) o : Below w.heap.size w (w.alloc o)).cell h
theorem size_alloc (w : World) (o : Obj) : (w.alloc o).heap.size = w.heap.size + 1 := by simp
theorem below_alloc (w : World) (o : Obj) : Below w.heap.size w (w.alloc o) := (Below.refl _ _).alloc (Nat.le_refl _) o
theorem below_alloc2 (w : World) (o p : Obj) : Below w.heap.size w ((w.alloc o).alloc p) := (below_alloc w o).trans ((below_alloc _ p).mono (by simp))
theorem below_alloc3 (w : World) (o p q : Obj) : Below w.heap.size w (((w.alloc o).alloc p).alloc q) := (below_alloc2 w o p).trans ((below_alloc _ q).mono (by simp; omega))

/-- A fresh row of bytes. -/
theorem Bs.fresh (w : World) (l : List UInt8) (t : TypeId) (n : Nat) (hn : n = w.heap.size) (cap : Nat) : Bs (w.alloc (.cells (hv l) t)) (.slice (some ⟨n, 0, none⟩) l.length cap) l :=
  ⟨_, _, rfl, .inr ⟨_, _, rfl, fun i h => by rw [cell_new _ _ _ _ _ hn]; simp [hv, h]⟩⟩

theorem leaf_parts (w : World) (o : Obj) (v : Value) (e : List UInt8) (h : Bs w v e) :
    Bss (((w.alloc o).alloc (.cells #[.int .u8 0] 5)).alloc (.cells #[.slice (some ⟨w.heap.size + 1, 0, none⟩) 1 1, v] 41)) (.slice (some ⟨w.heap.size + 1 + 1, 0, none⟩) 2 2) [[0], e] := by
  refine ⟨_, _, rfl, Nat.le_refl _, .inr ⟨_, _, rfl, fun i hi => ?_⟩⟩
  match i, hi with
  | 0, _ =>
    refine ⟨.slice (some ⟨w.heap.size + 1, 0, none⟩) 1 1, by rw [cell_new _ _ _ _ _ (by simp)]; rfl, ?_⟩
    exact (Bs.fresh (w.alloc o) [0] _ _ (by simp) 1).below (below_alloc _ _)
  | 1, _ =>
    refine ⟨v, by rw [cell_new _ _ _ _ _ (by simp)]; rfl, ?_⟩
    exact h.below (below_alloc3 _ _ _ _)

set_option maxHeartbeats 400000 in
theorem leaf_any (v : Value) (e : List UInt8) (w : World) (hlen : e.length ≤ maxLen) (h : Bs w v e) :
    Calls Try.prog 29 #[v] w fun r w' => r = .returned (.agg (hv (leafH e))) ∧ Below w.heap.size w w' := by
  have H := hide h
  have Hlen := hide hlen
  clear hlen
  obtain ⟨a, cap, rfl, h'⟩ := h
  clear h'
  go_enter Try.func29, Try.ntmps29
  go_wp2_with fail
  refine (hashOf_any _ [[0], e] _ (by unfold maxLen; simp) (fun l hl => by simp at hl; rcases hl with rfl | rfl; (simp [maxLen]); exact Hlen.out) (leaf_parts w _ _ e H.out)).mono ?_
  rintro r w' ⟨hr, hb⟩
  rw [show hash [[0], e].flatten = leafH e by simp [leafH]] at hr
  subst hr
  have hg : w'.heap[w.heap.size]? = some (.cells #[Value.int IntKind.u8 0, Value.int IntKind.u8 0, Value.int IntKind.u8 0, Value.int IntKind.u8 0, Value.int IntKind.u8 0, Value.int IntKind.u8 0, Value.int IntKind.u8 0, Value.int IntKind.u8 0] 38 (0, 0)) := by
    rw [hb.block _ (by simp; omega)]
    exact heap_alloc_old (heap_alloc_old (heap_alloc_last _ _))
  have Hg := hide hg
  clear hg
  go_wp2_with (refine wpList_store_row rfl 38 _ _ rfl w.heap.size (hv (leafH e)) rfl rfl 38 _ Hg.out (by kernel_rfl) rfl (hv_one _) ?_)
  refine bodyPost_ret (v := .agg (hv (leafH e))) (results_cell_row Try.results29 _ _ w.heap.size 38 _ (0, 0) _ rfl (setRow_heap _ _ _ _ _ _ Hg.out) Try.underlying38 rfl (by kernel_rfl)) rfl ⟨?_, ?_⟩
  · rfl
  · exact below_setRow ((below_alloc3 _ _ _ _).trans (hb.mono (by simp; omega))) (Nat.le_refl _) _
end Go.Proofs.Ytfgbghmefomolaa
