
import Derived.Test.YtfgbghmefomolaaDoorHashWalks
namespace Go.Proofs.YtfgbghmefomolaaDoor
open Go.RowKit

theorem cell_new (w : World) (c : Array Value) (t : TypeId) (i n : Nat) (hn : n = w.heap.size) : (w.alloc (.cells c t)).cell? ⟨n, i, none⟩ = c[i]? := by
  subst hn
  rw [cell_of_row _ _ _ c t (0, 0) (heap_alloc_last _ _)]
theorem cell_old (w : World) (o : Obj) (p : Addr) (h : p.block < w.heap.size) : (w.alloc o).cell? p = w.cell? p :=
  ((Below.refl _ _).alloc (Nat.le_refl _) o : Below w.heap.size w (w.alloc o)).cell h
theorem size_alloc (w : World) (o : Obj) : (w.alloc o).heap.size = w.heap.size + 1 := by simp
theorem below_alloc (w : World) (o : Obj) : Below w.heap.size w (w.alloc o) := (Below.refl _ _).alloc (Nat.le_refl _) o
theorem below_alloc2 (w : World) (o p : Obj) : Below w.heap.size w ((w.alloc o).alloc p) := (below_alloc w o).trans ((below_alloc _ p).mono (by simp))
theorem below_alloc3 (w : World) (o p q : Obj) : Below w.heap.size w (((w.alloc o).alloc p).alloc q) := (below_alloc2 w o p).trans ((below_alloc _ q).mono (by simp; omega))

/-- A fresh row of bytes. -/
theorem Bs.fresh (w : World) (l : List UInt8) (t : TypeId) (n : Nat) (hn : n = w.heap.size) (cap : Nat) : Bs (w.alloc (.cells (hv l) t)) (.slice (some ⟨n, 0, none⟩) l.length cap) l :=
  ⟨_, _, rfl, .inr ⟨_, _, rfl, fun i h => by rw [cell_new _ _ _ _ _ hn]; simp [hv, h]⟩⟩

theorem leaf_parts (w : World) (o : Obj) (v : Value) (e : List UInt8) (h : Bs w v e) :
    Bss (((w.alloc o).alloc (.cells #[.int .u8 0] 5)).alloc (.cells #[.slice (some ⟨w.heap.size + 1, 0, none⟩) 1 1, v] 43)) (.slice (some ⟨w.heap.size + 1 + 1, 0, none⟩) 2 2) [[0], e] := by
  refine ⟨_, _, rfl, Nat.le_refl _, .inr ⟨_, _, rfl, fun i hi => ?_⟩⟩
  match i, hi with
  | 0, _ =>
    refine ⟨.slice (some ⟨w.heap.size + 1, 0, none⟩) 1 1, by rw [cell_new _ _ _ _ _ (by simp)]; rfl, ?_⟩
    exact (Bs.fresh (w.alloc o) [0] _ _ (by simp) 1).below (below_alloc _ _)
  | 1, _ =>
    refine ⟨v, by rw [cell_new _ _ _ _ _ (by simp)]; rfl, ?_⟩
    exact h.below (below_alloc3 _ _ _ _)

end Go.Proofs.YtfgbghmefomolaaDoor
