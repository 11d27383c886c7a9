import Derived.Test.YtoomnijgdpbphaaGreatDoorG01

namespace Go.Proofs.YtoomnijgdpbphaaGreatDoor
open Go.RowKit

/-- What P5 rebuilds; z: what stands for nothing. -/
def rebF (z : List UInt8) : Nat → List UInt8 → Nat → Nat → List (List UInt8) → List UInt8 × Bool
  | 0, _, _, _, _ => (z, false)
  | f + 1, leaf, i, n, ps =>
    if n = 1 then (leaf, decide (ps.length = 0))
    else if ps.length = 0 then (z, false)
    else if i < kOf n then (nodeH (rebF z f leaf i (kOf n) ps.dropLast).1 (ps.getLastD []), (rebF z f leaf i (kOf n) ps.dropLast).2)
    else (nodeH (ps.getLastD []) (rebF z f leaf (i - kOf n) (n - kOf n) ps.dropLast).1, (rebF z f leaf (i - kOf n) (n - kOf n) ps.dropLast).2)
theorem rebF_one (z leaf : List UInt8) (f i : Nat) (ps : List (List UInt8)) : rebF z (f + 1) leaf i 1 ps = (leaf, decide (ps.length = 0)) := by
  rw [rebF, if_pos rfl]
theorem rebF_none (z leaf : List UInt8) (f i n : Nat) (ps : List (List UInt8)) (h : n ≠ 1) (h0 : ps.length = 0) : rebF z (f + 1) leaf i n ps = (z, false) := by
  rw [rebF, if_neg h, if_pos h0]
theorem rebF_left (z leaf : List UInt8) (f i n : Nat) (ps : List (List UInt8)) (h : n ≠ 1) (h0 : ps.length ≠ 0) (hi : i < kOf n) : rebF z (f + 1) leaf i n ps = (nodeH (rebF z f leaf i (kOf n) ps.dropLast).1 (ps.getLastD []), (rebF z f leaf i (kOf n) ps.dropLast).2) := by
  rw [rebF, if_neg h, if_neg h0, if_pos hi]
theorem rebF_right (z leaf : List UInt8) (f i n : Nat) (ps : List (List UInt8)) (h : n ≠ 1) (h0 : ps.length ≠ 0) (hi : ¬ i < kOf n) : rebF z (f + 1) leaf i n ps = (nodeH (ps.getLastD []) (rebF z f leaf (i - kOf n) (n - kOf n) ps.dropLast).1, (rebF z f leaf (i - kOf n) (n - kOf n) ps.dropLast).2) := by
  rw [rebF, if_neg h, if_neg h0, if_neg hi]
/-- What stands for nothing counts for nothing. -/
theorem rebF_agree (z z' leaf : List UInt8) (f : Nat) : ∀ (i n : Nat) (ps : List (List UInt8)), (rebF z f leaf i n ps).2 = (rebF z' f leaf i n ps).2 ∧ ((rebF z f leaf i n ps).2 = true → (rebF z f leaf i n ps).1 = (rebF z' f leaf i n ps).1) := by
  induction f with
  | zero => intro i n ps; simp [rebF]
  | succ f ih =>
    intro i n ps
    by_cases h1 : n = 1
    · subst h1; rw [rebF_one, rebF_one]; simp
    by_cases h0 : ps.length = 0
    · rw [rebF_none _ _ _ _ _ _ h1 h0, rebF_none _ _ _ _ _ _ h1 h0]; simp
    by_cases hi : i < kOf n
    · rw [rebF_left _ _ _ _ _ _ h1 h0 hi, rebF_left _ _ _ _ _ _ h1 h0 hi]
      have := ih i (kOf n) ps.dropLast
      exact ⟨this.1, fun h => by simp only; rw [this.2 h]⟩
    · rw [rebF_right _ _ _ _ _ _ h1 h0 hi, rebF_right _ _ _ _ _ _ h1 h0 hi]
      have := ih (i - kOf n) (n - kOf n) ps.dropLast
      exact ⟨this.1, fun h => by simp only; rw [this.2 h]⟩
theorem rebF_len (z leaf : List UInt8) (hz : z.length ≤ 8) (hl : leaf.length ≤ 8) (f i n : Nat) (ps : List (List UInt8)) : (rebF z f leaf i n ps).1.length ≤ 8 := by
  cases f with
  | zero => exact hz
  | succ f =>
    by_cases h1 : n = 1
    · subst h1; rw [rebF_one]; exact hl
    by_cases h0 : ps.length = 0
    · rw [rebF_none _ _ _ _ _ _ h1 h0]; exact hz
    by_cases hi : i < kOf n
    · rw [rebF_left _ _ _ _ _ _ h1 h0 hi]; exact Nat.le_of_eq (nodeH_length _ _)
    · rw [rebF_right _ _ _ _ _ _ h1 h0 hi]; exact Nat.le_of_eq (nodeH_length _ _)
theorem rebF_len8 (z leaf : List UInt8) (hz : z.length = 8) (hl : leaf.length = 8) (f i n : Nat) (ps : List (List UInt8)) : (rebF z f leaf i n ps).1.length = 8 := by
  cases f with
  | zero => exact hz
  | succ f =>
    by_cases h1 : n = 1
    · subst h1; rw [rebF_one]; exact hl
    by_cases h0 : ps.length = 0
    · rw [rebF_none _ _ _ _ _ _ h1 h0]; exact hz
    by_cases hi : i < kOf n
    · rw [rebF_left _ _ _ _ _ _ h1 h0 hi]; exact nodeH_length _ _
    · rw [rebF_right _ _ _ _ _ _ h1 h0 hi]; exact nodeH_length _ _

/-- The last one of a list, and the others. -/
theorem last_split {α : Type} (l : List α) (m : Nat) (h : l.length = m + 1) (d : α) : l.getLastD d = l[m] ∧ l.dropLast = l.take m := by
  refine ⟨?_, ?_⟩
  · rw [List.getLastD_eq_getLast?, List.getLast?_eq_getElem?, show l.length - 1 = m by omega, List.getElem?_eq_getElem (by omega)]; rfl
  · rw [List.dropLast_eq_take, h, Nat.add_sub_cancel]
end Go.Proofs.YtoomnijgdpbphaaGreatDoor

namespace Go.Proofs.YtoomnijgdpbphaaGreatDoor
open Go.RowKit

/-- What P7 rebuilds; z: what stands for nothing. -/
def rtsF (z a : List UInt8) : Nat → Nat → Nat → List (List UInt8) → Bool → List UInt8 × List UInt8 × Bool
  | 0, _, _, _, _ => (z, z, false)
  | f + 1, m, n, ps, whole =>
    if m = n then (if whole = true then (a, a, decide (ps.length = 0)) else if ps.length = 1 then (ps.headD [], ps.headD [], true) else (z, z, false))
    else if ps.length = 0 then (z, z, false)
    else if m ≤ kOf n then ((rtsF z a f m (kOf n) ps.dropLast whole).1, nodeH (rtsF z a f m (kOf n) ps.dropLast whole).2.1 (ps.getLastD []), (rtsF z a f m (kOf n) ps.dropLast whole).2.2)
    else (nodeH (ps.getLastD []) (rtsF z a f (m - kOf n) (n - kOf n) ps.dropLast false).1, nodeH (ps.getLastD []) (rtsF z a f (m - kOf n) (n - kOf n) ps.dropLast false).2.1, (rtsF z a f (m - kOf n) (n - kOf n) ps.dropLast false).2.2)
variable (z a : List UInt8) (f m n : Nat) (ps : List (List UInt8)) (whole : Bool)
theorem rtsF_whole : rtsF z a (f + 1) n n ps true = (a, a, decide (ps.length = 0)) := by
  rw [rtsF, if_pos rfl, if_pos rfl]
theorem rtsF_part (h : ps.length = 1) : rtsF z a (f + 1) n n ps false = (ps.headD [], ps.headD [], true) := by
  rw [rtsF, if_pos rfl, if_neg (by simp), if_pos h]
theorem rtsF_not (h : ps.length ≠ 1) : rtsF z a (f + 1) n n ps false = (z, z, false) := by
  rw [rtsF, if_pos rfl, if_neg (by simp), if_neg h]
theorem rtsF_none (hm : m ≠ n) (h : ps.length = 0) : rtsF z a (f + 1) m n ps whole = (z, z, false) := by
  rw [rtsF, if_neg hm, if_pos h]
theorem rtsF_left (hm : m ≠ n) (h : ps.length ≠ 0) (hk : m ≤ kOf n) : rtsF z a (f + 1) m n ps whole = ((rtsF z a f m (kOf n) ps.dropLast whole).1, nodeH (rtsF z a f m (kOf n) ps.dropLast whole).2.1 (ps.getLastD []), (rtsF z a f m (kOf n) ps.dropLast whole).2.2) := by
  rw [rtsF, if_neg hm, if_neg h, if_pos hk]
theorem rtsF_right (hm : m ≠ n) (h : ps.length ≠ 0) (hk : ¬ m ≤ kOf n) : rtsF z a (f + 1) m n ps whole = (nodeH (ps.getLastD []) (rtsF z a f (m - kOf n) (n - kOf n) ps.dropLast false).1, nodeH (ps.getLastD []) (rtsF z a f (m - kOf n) (n - kOf n) ps.dropLast false).2.1, (rtsF z a f (m - kOf n) (n - kOf n) ps.dropLast false).2.2) := by
  rw [rtsF, if_neg hm, if_neg h, if_neg hk]
theorem rtsF_agree (z z' a : List UInt8) (f : Nat) : ∀ (m n : Nat) (ps : List (List UInt8)) (whole : Bool), (rtsF z a f m n ps whole).2.2 = (rtsF z' a f m n ps whole).2.2 ∧ ((rtsF z a f m n ps whole).2.2 = true → rtsF z a f m n ps whole = rtsF z' a f m n ps whole) := by
  induction f with
  | zero => intro m n ps whole; simp [rtsF]
  | succ f ih =>
    intro m n ps whole
    by_cases h1 : m = n
    · subst h1
      cases whole with
      | true => rw [rtsF_whole, rtsF_whole]; simp
      | false =>
        by_cases h : ps.length = 1
        · rw [rtsF_part _ _ _ _ _ h, rtsF_part _ _ _ _ _ h]; simp
        · rw [rtsF_not _ _ _ _ _ h, rtsF_not _ _ _ _ _ h]; simp
    by_cases h0 : ps.length = 0
    · rw [rtsF_none _ _ _ _ _ _ _ h1 h0, rtsF_none _ _ _ _ _ _ _ h1 h0]; simp
    by_cases hk : m ≤ kOf n
    · rw [rtsF_left _ _ _ _ _ _ _ h1 h0 hk, rtsF_left _ _ _ _ _ _ _ h1 h0 hk]
      have := ih m (kOf n) ps.dropLast whole
      exact ⟨this.1, fun h => by rw [this.2 h]⟩
    · rw [rtsF_right _ _ _ _ _ _ _ h1 h0 hk, rtsF_right _ _ _ _ _ _ _ h1 h0 hk]
      have := ih (m - kOf n) (n - kOf n) ps.dropLast false
      exact ⟨this.1, fun h => by rw [this.2 h]⟩
theorem head_len (ps : List (List UInt8)) (h : ps.length = 1) (p8 : ∀ p ∈ ps, p.length = 8) : (ps.headD []).length = 8 := by
  match ps, h with
  | [p], _ => exact p8 p (by simp)
theorem rtsF_len8 (z a : List UInt8) (hz : z.length = 8) (ha : a.length = 8) (f : Nat) : ∀ (m n : Nat) (ps : List (List UInt8)) (whole : Bool), (∀ p ∈ ps, p.length = 8) → (rtsF z a f m n ps whole).1.length = 8 ∧ (rtsF z a f m n ps whole).2.1.length = 8 := by
  induction f with
  | zero => exact fun m n ps whole _ => ⟨hz, hz⟩
  | succ f ih =>
    intro m n ps whole p8
    have p8' : ∀ p ∈ ps.dropLast, p.length = 8 := fun p hp => p8 p (List.dropLast_subset _ hp)
    by_cases h1 : m = n
    · subst h1
      cases whole with
      | true => rw [rtsF_whole]; exact ⟨ha, ha⟩
      | false =>
        by_cases h : ps.length = 1
        · rw [rtsF_part _ _ _ _ _ h]; exact ⟨head_len ps h p8, head_len ps h p8⟩
        · rw [rtsF_not _ _ _ _ _ h]; exact ⟨hz, hz⟩
    by_cases h0 : ps.length = 0
    · rw [rtsF_none _ _ _ _ _ _ _ h1 h0]; exact ⟨hz, hz⟩
    by_cases hk : m ≤ kOf n
    · rw [rtsF_left _ _ _ _ _ _ _ h1 h0 hk]; exact ⟨(ih m (kOf n) ps.dropLast whole p8').1, nodeH_length _ _⟩
    · rw [rtsF_right _ _ _ _ _ _ _ h1 h0 hk]; exact ⟨nodeH_length _ _, nodeH_length _ _⟩
theorem head_le (ps : List (List UInt8)) (h : ps.length = 1) (p8 : ∀ p ∈ ps, p.length ≤ 8) : (ps.headD []).length ≤ 8 := by
  match ps, h with
  | [p], _ => exact p8 p (by simp)
theorem rtsF_le8 (z a : List UInt8) (hz : z.length ≤ 8) (ha : a.length ≤ 8) (f : Nat) : ∀ (m n : Nat) (ps : List (List UInt8)) (whole : Bool), (∀ p ∈ ps, p.length ≤ 8) → (rtsF z a f m n ps whole).1.length ≤ 8 ∧ (rtsF z a f m n ps whole).2.1.length ≤ 8 := by
  induction f with
  | zero => exact fun m n ps whole _ => ⟨hz, hz⟩
  | succ f ih =>
    intro m n ps whole p8
    have p8' : ∀ p ∈ ps.dropLast, p.length ≤ 8 := fun p hp => p8 p (List.dropLast_subset _ hp)
    by_cases h1 : m = n
    · subst h1
      cases whole with
      | true => rw [rtsF_whole]; exact ⟨ha, ha⟩
      | false =>
        by_cases h : ps.length = 1
        · rw [rtsF_part _ _ _ _ _ h]; exact ⟨head_le ps h p8, head_le ps h p8⟩
        · rw [rtsF_not _ _ _ _ _ h]; exact ⟨hz, hz⟩
    by_cases h0 : ps.length = 0
    · rw [rtsF_none _ _ _ _ _ _ _ h1 h0]; exact ⟨hz, hz⟩
    by_cases hk : m ≤ kOf n
    · rw [rtsF_left _ _ _ _ _ _ _ h1 h0 hk]; exact ⟨(ih m (kOf n) ps.dropLast whole p8').1, Nat.le_of_eq (nodeH_length _ _)⟩
    · rw [rtsF_right _ _ _ _ _ _ _ h1 h0 hk]; exact ⟨Nat.le_of_eq (nodeH_length _ _), Nat.le_of_eq (nodeH_length _ _)⟩
end Go.Proofs.YtoomnijgdpbphaaGreatDoor
