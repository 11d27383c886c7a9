
import Derived.Test.YtfgbghmefomolaaMath
namespace Go.Proofs.Ytfgbghmefomolaa
open Go.RowKit

/-- What P5 rebuilds; z: what stands for nothing. -/
def rebF (z : List UInt8) : Nat → List UInt8 → Nat → Nat → List (List UInt8) → List UInt8 × Bool
  | 0, _, _, _, _ => (z, false)
  | f + 1, leaf, i, n, ps =>
    if n = 1 then (leaf, decide (ps.length = 0))
    else if ps.length = 0 then (z, false)
    else if i < kOf n then (nodeH (rebF z f leaf i (kOf n) ps.dropLast).1 (ps.getLastD []), (rebF z f leaf i (kOf n) ps.dropLast).2)
    else (nodeH (ps.getLastD []) (rebF z f leaf (i - kOf n) (n - kOf n) ps.dropLast).1, (rebF z f leaf (i - kOf n) (n - kOf n) ps.dropLast).2)
theorem rebF_one (z leaf : List UInt8) (f i : Nat) (ps : List (List UInt8)) : rebF z (f + 1) leaf i 1 ps = (leaf, decide (ps.length = 0)) := by
  rw [rebF, if_pos rfl]
theorem rebF_none (z leaf : List UInt8) (f i n : Nat) (ps : List (List UInt8)) (h : n ≠ 1) (h0 : ps.length = 0) : rebF z (f + 1) leaf i n ps = (z, false) := by
  rw [rebF, if_neg h, if_pos h0]
theorem rebF_left (z leaf : List UInt8) (f i n : Nat) (ps : List (List UInt8)) (h : n ≠ 1) (h0 : ps.length ≠ 0) (hi : i < kOf n) : rebF z (f + 1) leaf i n ps = (nodeH (rebF z f leaf i (kOf n) ps.dropLast).1 (ps.getLastD []), (rebF z f leaf i (kOf n) ps.dropLast).2) := by
  rw [rebF, if_neg h, if_neg h0, if_pos hi]
theorem rebF_right (z leaf : List UInt8) (f i n : Nat) (ps : List (List UInt8)) (h : n ≠ 1) (h0 : ps.length ≠ 0) (hi : ¬ i < kOf n) : rebF z (f + 1) leaf i n ps = (nodeH (ps.getLastD []) (rebF z f leaf (i - kOf n) (n - kOf n) ps.dropLast).1, (rebF z f leaf (i - kOf n) (n - kOf n) ps.dropLast).2) := by
  rw [rebF, if_neg h, if_neg h0, if_neg hi]
/-- What stands for nothing counts for nothing. -/
theorem rebF_agree (z z' leaf : List UInt8) (f : Nat) : ∀ (i n : Nat) (ps : List (List UInt8)), (rebF z f leaf i n ps).2 = (rebF z' f leaf i n ps).2 ∧ ((rebF z f leaf i n ps).2 = true → (rebF z f leaf i n ps).1 = (rebF z' f leaf i n ps).1) := by
  induction f with
  | zero => intro i n ps; simp [rebF]
  | succ f ih =>
    intro i n ps
    by_cases h1 : n = 1
    · subst h1; rw [rebF_one, rebF_one]; simp
    by_cases h0 : ps.length = 0
    · rw [rebF_none _ _ _ _ _ _ h1 h0, rebF_none _ _ _ _ _ _ h1 h0]; simp
    by_cases hi : i < kOf n
    · rw [rebF_left _ _ _ _ _ _ h1 h0 hi, rebF_left _ _ _ _ _ _ h1 h0 hi]
      have := ih i (kOf n) ps.dropLast
      exact ⟨this.1, fun h => by simp only; rw [this.2 h]⟩
    · rw [rebF_right _ _ _ _ _ _ h1 h0 hi, rebF_right _ _ _ _ _ _ h1 h0 hi]
      have := ih (i - kOf n) (n - kOf n) ps.dropLast
      exact ⟨this.1, fun h => by simp only; rw [this.2 h]⟩
theorem rebF_len (z leaf : List UInt8) (hz : z.length ≤ 8) (hl : leaf.length ≤ 8) (f i n : Nat) (ps : List (List UInt8)) : (rebF z f leaf i n ps).1.length ≤ 8 := by
  cases f with
  | zero => exact hz
  | succ f =>
    by_cases h1 : n = 1
    · subst h1; rw [rebF_one]; exact hl
    by_cases h0 : ps.length = 0
    · rw [rebF_none _ _ _ _ _ _ h1 h0]; exact hz
    by_cases hi : i < kOf n
    · rw [rebF_left _ _ _ _ _ _ h1 h0 hi]; exact Nat.le_of_eq (nodeH_length _ _)
    · rw [rebF_right _ _ _ _ _ _ h1 h0 hi]; exact Nat.le_of_eq (nodeH_length _ _)
theorem rebF_len8 (z leaf : List UInt8) (hz : z.length = 8) (hl : leaf.length = 8) (f i n : Nat) (ps : List (List UInt8)) : (rebF z f leaf i n ps).1.length = 8 := by
  cases f with
  | zero => exact hz
  | succ f =>
    by_cases h1 : n = 1
    · subst h1; rw [rebF_one]; exact hl
    by_cases h0 : ps.length = 0
    · rw [rebF_none _ _ _ _ _ _ h1 h0]; exact hz
    by_cases hi : i < kOf n
    · rw [rebF_left _ _ _ _ _ _ h1 h0 hi]; exact nodeH_length _ _
    · rw [rebF_right _ _ _ _ _ _ h1 h0 hi]; exact nodeH_length _ _

/-- The last one of a list, and the others. -/
theorem last_split {α : Type} (l : List α) (m : Nat) (h : l.length = m + 1) (d : α) : l.getLastD d = l[m] ∧ l.dropLast = l.take m := by
  refine ⟨?_, ?_⟩
  · rw [List.getLastD_eq_getLast?, List.getLast?_eq_getElem?, show l.length - 1 = m by omega, List.getElem?_eq_getElem (by omega)]; rfl
  · rw [List.dropLast_eq_take, h, Nat.add_sub_cancel]
end Go.Proofs.Ytfgbghmefomolaa
