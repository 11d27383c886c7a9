
import Derived.Test.YtbjpjidliggdhaaDoorTreeMath
namespace Go.Proofs.YtbjpjidliggdhaaDoor
/-- The spans of a path, of a proof: within the size. -/
theorem pathS_in : ∀ (f a n i : Nat), n ≤ 2 ^ f → ∀ s ∈ pathS f a n i, a ≤ s.1 ∧ s.1 + s.2 ≤ a + n ∧ 1 ≤ s.2 := by
  intro f
  induction f with
  | zero => intro a n i h s hs; simp [pathS] at hs
  | succ f ih =>
    intro a n i h s hs
    by_cases h1 : n ≤ 1
    · rw [pathS_one _ _ _ _ h1] at hs; simp at hs
    obtain ⟨k1, k2, k3, k4, k5, k6⟩ := kOf_half n f (by omega) h
    by_cases hi : i < a + kOf n
    · rw [pathS_left f a n i (by omega) hi] at hs
      rcases List.mem_append.1 hs with hs | hs
      · have := ih a (kOf n) i k1 s hs; omega
      · obtain rfl : s = _ := List.mem_singleton.1 hs
        simp only; omega
    · rw [pathS_right f a n i (by omega) hi] at hs
      rcases List.mem_append.1 hs with hs | hs
      · have := ih (a + kOf n) (n - kOf n) i k2 s hs; omega
      · obtain rfl : s = _ := List.mem_singleton.1 hs
        simp only; omega
theorem partS_in : ∀ (f m a n : Nat) (whole : Bool), n ≤ 2 ^ f → 1 ≤ n → a < m → m ≤ a + n → ∀ s ∈ partS f m a n whole, a ≤ s.1 ∧ s.1 + s.2 ≤ a + n ∧ 1 ≤ s.2 := by
  intro f
  induction f with
  | zero =>
    intro m a n whole h hn1 hm1 hm2 s hs
    unfold partS at hs
    split at hs
    · split at hs
      · simp at hs
      · obtain rfl : s = _ := List.mem_singleton.1 hs
        simp only; omega
    · simp at hs
  | succ f ih =>
    intro m a n whole h hn1 hm1 hm2 s hs
    by_cases hm : m = a + n
    · rw [partS_end _ _ _ _ _ hm] at hs
      split at hs
      · simp at hs
      · obtain rfl : s = _ := List.mem_singleton.1 hs
        simp only; omega
    obtain ⟨k1, k2, k3, k4, k5, k6⟩ := kOf_half n f (by omega) h
    by_cases hk : m ≤ a + kOf n
    · rw [partS_left f m a n whole hm hk] at hs
      rcases List.mem_append.1 hs with hs | hs
      · have := ih m a (kOf n) whole k1 k3 hm1 hk s hs; omega
      · obtain rfl : s = _ := List.mem_singleton.1 hs
        simp only; omega
    · rw [partS_right f m a n whole hm hk] at hs
      rcases List.mem_append.1 hs with hs | hs
      · have := ih m (a + kOf n) (n - kOf n) false k2 k4 (by omega) (by omega) s hs; omega
      · obtain rfl : s = _ := List.mem_singleton.1 hs
        simp only; omega
end Go.Proofs.YtbjpjidliggdhaaDoor
