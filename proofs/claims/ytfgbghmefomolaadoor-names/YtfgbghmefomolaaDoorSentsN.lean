
import Derived.Test.YtfgbghmefomolaaDoorNamesWalks
import Derived.LaidLaws
import Derived.ProofKit
import Derived.LaidMore
import Derived.OpenShut
import Derived.Stop.Joined
namespace Go.Proofs.YtfgbghmefomolaaDoor
open Go.ChangeShapes Go.WideShapes Go.ChangeAt Go.RowKit

theorem own : ownKnob Tryd.prog.godebug = none := by kernel_rfl
theorem nameStr : Tryd.prog.typeName? 3 105 = some "*errors.errorString" := by kernel_rfl
theorem cellsErrStr : Tryd.prog.cellsOf 107 = 1 := by kernel_rfl
theorem cellsStr : Tryd.prog.cellsOf 9 = 1 := by kernel_rfl
theorem starStr : "*" ++ "errors.errorString" = "*errors.errorString" := by decide
theorem rowStr (u : TypeId) (h : Tryd.prog.typeName? 3 u = some "*errors.errorString") : u = 105 :=
  typeName_ptr_named (nm := "errors.errorString") (by rw [starStr]; kernel_rfl) (by kernel_rfl) (by decide) u (by rw [starStr]; exact h)

set_option maxRecDepth 100000 in
/-- One listed sentinel: what its cell holds, and the places of the rest. -/
theorem laid_step {W : World} {n : String} {g : Nat} {text : List UInt8} {r : List (String × DataW Unit)} {ps : List MemPlace}
    (h : DataW.LaidVars Tryd.prog W ((n, .iface "*errors.errorString" (.ptr (.agg [.lit (.string text)]))) :: r) ps)
    (hrows : ∀ b off, MemPlace.cell b off ∈ ps → (∃ c t, W.heap[b]? = some (.cells c t (0, 0))) ∧ ∀ u v, W.cell? ⟨b, off, none⟩ = some (.iface u v) → Value.okWide Tryd.prog W .any 0 u v)
    (hg : Tryd.prog.globalNamed n = some g) (ht : (Tryd.prog.globals[g]?).map (·.type) = some 36) :
    ∃ a q, W.cell? ⟨g, 0, none⟩ = some (.iface 105 (.pointer (some a))) ∧ DataW.LaidVars Tryd.prog W r q ∧ ps = .cell g 0 :: .cell a.block a.off :: q := by
  obtain ⟨g0, t0, cs0, f0, p0, q0, hg0, ht0, hv0, hd0, hq, e0⟩ := h
  obtain rfl := Option.some.inj (hg.symm.trans hg0)
  obtain rfl := Option.some.inj (ht.symm.trans ht0)
  subst e0
  obtain ⟨l0⟩ := cs0
  have ok0 : ∀ u v, l0 = [.iface u v] → Value.okWide Tryd.prog W .any 0 u v := fun u v e => by
    subst e
    exact (hrows g 0 (by simp [MemPlace.row])).2 u v (by simpa using World.var?_cell hg0 hv0 0)
  obtain ⟨a0, s0, rfl, hc0, hs0, hz0, rfl⟩ := errorString_of_trod Tryd.underlying36 rowStr Tryd.underlying105 Tryd.underlying107 rfl rfl Tryd.underlying9 cellsErrStr cellsStr hd0 ok0
  exact ⟨a0, q0, by simpa using World.var?_cell hg0 hv0 0, hq, by simp [MemPlace.row, List.range_succ]⟩

theorem sents_of_laid {W : World} (h : laidMet Tryd.prog Rows.namesRow.laid W) : ∃ at_, Sents W at_ := by
  obtain ⟨ps, hv, hnd, hrows⟩ := h
  obtain ⟨a0, q0, c0, v0, e0⟩ := laid_step (g := 0) hv hrows (by kernel_rfl) (by kernel_rfl)
  obtain ⟨a1, q1, c1, v1, e1⟩ := laid_step (g := 1) v0 (fun b o hm => hrows b o (by rw [e0]; simp [hm])) (by kernel_rfl) (by kernel_rfl)
  subst e1
  obtain ⟨a2, q2, c2, v2, e2⟩ := laid_step (g := 2) v1 (fun b o hm => hrows b o (by rw [e0]; simp [hm])) (by kernel_rfl) (by kernel_rfl)
  subst e2
  obtain ⟨a3, q3, c3, v3, e3⟩ := laid_step (g := 3) v2 (fun b o hm => hrows b o (by rw [e0]; simp [hm])) (by kernel_rfl) (by kernel_rfl)
  subst e3
  obtain ⟨a4, q4, c4, v4, e4⟩ := laid_step (g := 4) v3 (fun b o hm => hrows b o (by rw [e0]; simp [hm])) (by kernel_rfl) (by kernel_rfl)
  subst e4
  obtain ⟨a5, q5, c5, v5, e5⟩ := laid_step (g := 5) v4 (fun b o hm => hrows b o (by rw [e0]; simp [hm])) (by kernel_rfl) (by kernel_rfl)
  subst e5
  obtain ⟨a6, q6, c6, v6, e6⟩ := laid_step (g := 6) v5 (fun b o hm => hrows b o (by rw [e0]; simp [hm])) (by kernel_rfl) (by kernel_rfl)
  subst e6
  obtain rfl : q6 = [] := v6
  subst e0
  have hsub : ([a0, a1, a2, a3, a4, a5, a6].map fun a => MemPlace.cell a.block a.off).Nodup := by
    refine List.Nodup.sublist ?_ hnd
    repeat (first | exact List.Sublist.slnil | (apply List.Sublist.cons; apply List.Sublist.cons_cons))
  rw [List.Nodup, List.pairwise_map] at hsub
  refine ⟨fun i => [a0, a1, a2, a3, a4, a5, a6].getD i a0, c0, c1, c2, c3, c4, c5, c6, ?_, ?_⟩
  · have key : ∀ i j, i < j → (hj : j < 7) → [a0, a1, a2, a3, a4, a5, a6].getD i a0 ≠ [a0, a1, a2, a3, a4, a5, a6].getD j a0 := by
      intro i j hij hj e
      have := List.pairwise_iff_getElem.1 hsub i j (by simp; omega) (by simpa using hj) hij
      rw [List.getD_eq_getElem?_getD, List.getD_eq_getElem?_getD, List.getElem?_eq_getElem (by simp; omega), List.getElem?_eq_getElem (by simpa using hj), Option.getD_some, Option.getD_some] at e
      exact this (by rw [e])
    intro i j hi hj hij
    rcases Nat.lt_or_gt_of_ne hij with h | h
    · exact key i j h hj
    · exact fun e => key j i h hi e.symm
  · intro i hi
    match i, hi with
    | 0, _ => exact (hrows a0.block a0.off (by simp)).1
    | 1, _ => exact (hrows a1.block a1.off (by simp)).1
    | 2, _ => exact (hrows a2.block a2.off (by simp)).1
    | 3, _ => exact (hrows a3.block a3.off (by simp)).1
    | 4, _ => exact (hrows a4.block a4.off (by simp)).1
    | 5, _ => exact (hrows a5.block a5.off (by simp)).1
    | 6, _ => exact (hrows a6.block a6.off (by simp)).1
end Go.Proofs.YtfgbghmefomolaaDoor
