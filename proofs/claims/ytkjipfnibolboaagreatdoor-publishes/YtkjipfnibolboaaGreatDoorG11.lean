import Derived.Test.YtkjipfnibolboaaGreatDoorG08
import Derived.Test.YtkjipfnibolboaaGreatDoorG06

namespace Go.Proofs.YtkjipfnibolboaaGreatDoor
open Go.RowKit

theorem setCells_other (b : Nat) : ∀ (vs : List Value) (o : Nat) (w : World) (k : Nat), k ≠ b → (w.setCells b o vs).heap[k]? = w.heap[k]?
  | [], _, _, _, _ => rfl
  | v :: r, o, w, k, h => by rw [World.setCells, setCells_other b r (o + 1) _ k h, Below.heap_setCell _ _ _ _ h]
theorem setCells_rest (b : Nat) : ∀ (vs : List Value) (o : Nat) (w : World), (w.setCells b o vs).os = w.os ∧ (w.setCells b o vs).tape = w.tape ∧ (w.setCells b o vs).output = w.output ∧ (w.setCells b o vs).heap.size = w.heap.size
  | [], _, _ => ⟨rfl, rfl, rfl, rfl⟩
  | v :: r, o, w => by
    obtain ⟨a, b', c, d⟩ := setCells_rest b r (o + 1) (w.setCell ⟨b, o, none⟩ v)
    exact ⟨a, b', c, by rw [World.setCells, d]; simp [World.setCell]⟩

/-- Nothing but the blocks from B to T has turned. -/
structure Within (B T : Nat) (w w' : World) : Prop where
  os : w'.os = w.os
  tape : w'.tape = w.tape
  output : w'.output = w.output
  size : w'.heap.size = w.heap.size
  block : ∀ k, k < B ∨ T ≤ k → w'.heap[k]? = w.heap[k]?
theorem Within.refl (B T : Nat) (w : World) : Within B T w w := ⟨rfl, rfl, rfl, rfl, fun _ _ => rfl⟩
theorem Within.set {B T : Nat} {w w' : World} (h : Within B T w w') (g : Nat) (hB : B ≤ g) (hT : g < T) (o : Nat) (vs : List Value) : Within B T w (w'.setCells g o vs) := by
  obtain ⟨a, b, c, d⟩ := setCells_rest g vs o w'
  exact ⟨a.trans h.os, b.trans h.tape, c.trans h.output, d.trans h.size, fun k hk => by rw [setCells_other g vs o w' k (by omega)]; exact h.block k hk⟩

theorem clear_el {P : Program} (w : World) (t e ty : TypeId) (z : Value) (ht : P.underlying t = some (.slice e)) (hv : ∀ w, (zeroValue e).run P w = .ok z w) (hz : z.cells = #[z]) (h1 : z.oneCell' = true) (g n c : Nat) (hth : w.there g 0 n) :
    (Builtin.clear_ #[t] ty #[.slice (some ⟨g, 0, none⟩) n c]).run P w = .ok (.tuple #[]) (w.setCells g 0 (List.replicate n z)) := by
  by_cases h0 : n = 0
  · subst h0
    simp [Builtin.clear_, run_underlying ht, World.setCells]
  · exact Lib.run_clear_slice w t e ty z ht hv hz h1 g 0 n c (by omega) (fun j hj => (hth j hj).1) (fun j hj => (hth j hj).2)
theorem clear_none {P : Program} (w : World) (t e ty : TypeId) (ht : P.underlying t = some (.slice e)) (a : Option Addr) (c : Nat) :
    (Builtin.clear_ #[t] ty #[.slice a 0 c]).run P w = .ok (.tuple #[]) w := by
  cases a <;> simp [Builtin.clear_, run_underlying ht]

theorem there_of_row {w : World} {g n : Nat} {C : Array Value} {t : TypeId} {fr : Nat × Nat} (hg : w.heap[g]? = some (.cells C t fr)) (hn : n ≤ C.size) (hf : n ≤ fr.1 ∨ fr = (0, 0)) : w.there g 0 n := fun j hj => by
  refine ⟨by rw [Nat.zero_add, cell_of_row _ _ _ _ _ _ hg, Array.getElem?_eq_getElem (by omega)]; rfl, ?_⟩
  obtain ⟨lo, hi⟩ := fr
  unfold World.frozen?
  simp only [hg, Nat.zero_add]
  rcases hf with hf | hf
  · simp at hf ⊢; omega
  · simp only [Prod.mk.injEq] at hf
    simp [hf.1, hf.2]

/-- What spoil goes over: the row's block, its elements. -/
structure Sp (B T : Nat) (w0 w : World) (g n : Nat) (gs ns cs : Nat → Nat) : Prop where
  within : Within B T w0 w
  row : w.there g 0 n
  gB : B ≤ g
  gT : g < T
  cell : ∀ j, j < n → w.cell? ⟨g, j, none⟩ = some (.slice (some ⟨gs j, 0, none⟩) (ns j) (cs j))
  el : ∀ j, j < n → w.there (gs j) 0 (ns j) ∧ B ≤ gs j ∧ gs j < T ∧ gs j ≠ g
theorem Sp.next {B T : Nat} {w0 w : World} {g n : Nat} {gs ns cs : Nat → Nat} (h : Sp B T w0 w g n gs ns cs) (k : Nat) (hk : k < n) (z : Value) : Sp B T w0 (w.setCells (gs k) 0 (List.replicate (ns k) z)) g n gs ns cs := by
  obtain ⟨_, h1, h2, h3⟩ := h.el k hk
  refine ⟨h.within.set _ h1 h2 _ _, World.there_setCells h.row _ _ _, h.gB, h.gT, fun j hj => ?_, fun j hj => ?_⟩
  · rw [World.cell?_setCells_out _ _ _ _ _ (fun e => absurd e.symm h3)]
    exact h.cell j hj
  · exact ⟨World.there_setCells (h.el j hj).1 _ _ _, (h.el j hj).2⟩

theorem zeroByte (w : World) : (zeroValue 5).run Tryz.prog w = .ok (.int .u8 0) w := by kernel_rfl
theorem zeroBytes (w : World) : (zeroValue 89).run Tryz.prog w = .ok (.slice none 0 0) w := by kernel_rfl

end Go.Proofs.YtkjipfnibolboaaGreatDoor

namespace Go.Proofs.YtkjipfnibolboaaGreatDoor
open Go.RowKit
set_option maxRecDepth 100000

/-- A call's result lies in a block that was made behind all that may have turned. -/
theorem Within.below {B : Nat} {w w1 w2 : World} {T : Nat} (h1 : Below B w w1) (h2 : Within B T w1 w2) : Below B w w2 :=
  ⟨h2.os.trans h1.os, h2.tape.trans h1.tape, h2.output.trans h1.output, by rw [h2.size]; exact h1.size, fun k hk => (h2.block k (.inl hk)).trans (h1.block k hk)⟩

def fewB (ss : List ByteArray) : Bool := decide (ss.length ≤ 4096) && ss.all fun s => decide (s.size ≤ 1048576)
theorem fewB_true {ss : List ByteArray} (h : fewB ss = true) : ss.length ≤ 4096 ∧ ∀ s ∈ ss, s.size ≤ 1048576 := by
  simp [fewB] at h; exact h
theorem fewB_mk {ss : List ByteArray} (h : ss.length ≤ 4096) (h' : ∀ j (hj : j < ss.length), ss[j].size ≤ 1048576) : fewB ss = true := by
  simp only [fewB, Bool.and_eq_true, decide_eq_true_eq, List.all_eq_true]
  refine ⟨h, fun s hs => ?_⟩
  obtain ⟨j, hj, rfl⟩ := List.getElem_of_mem hs
  exact h' j hj
theorem fewB_big {ss : List ByteArray} (h : 4096 < ss.length) : fewB ss = false := by
  simp [fewB]; omega
theorem fewB_long {ss : List ByteArray} (k : Nat) (hk : k < ss.length) (h : 1048576 < ss[k].size) : fewB ss = false := by
  simp only [fewB, Bool.and_eq_false_iff]
  right
  rw [List.all_eq_false]
  exact ⟨ss[k], List.getElem_mem hk, by simp; omega⟩

end Go.Proofs.YtkjipfnibolboaaGreatDoor
