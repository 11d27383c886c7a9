
import Derived.Test.YtbjpjidliggdhaaDoorRtsMath
namespace Go.Proofs.YtbjpjidliggdhaaDoor
open Go.RowKit

/-- The path of P4. -/
def pathF : Nat → List (List UInt8) → Nat → List (List UInt8)
  | 0, _, _ => []
  | f + 1, ls, i =>
    if ls.length ≤ 1 then []
    else if i < kOf ls.length then pathF f (ls.take (kOf ls.length)) i ++ [rootF f (ls.drop (kOf ls.length))]
    else pathF f (ls.drop (kOf ls.length)) (i - kOf ls.length) ++ [rootF f (ls.take (kOf ls.length))]
theorem pathF_one (f : Nat) (ls : List (List UInt8)) (i : Nat) (h : ls.length ≤ 1) : pathF f ls i = [] := by
  cases f with
  | zero => rfl
  | succ f => rw [pathF, if_pos h]
theorem pathF_left (f : Nat) (ls : List (List UInt8)) (i : Nat) (h : 2 ≤ ls.length) (hi : i < kOf ls.length) : pathF (f + 1) ls i = pathF f (ls.take (kOf ls.length)) i ++ [rootF f (ls.drop (kOf ls.length))] := by
  rw [pathF, if_neg (by omega), if_pos hi]
theorem pathF_right (f : Nat) (ls : List (List UInt8)) (i : Nat) (h : 2 ≤ ls.length) (hi : ¬ i < kOf ls.length) : pathF (f + 1) ls i = pathF f (ls.drop (kOf ls.length)) (i - kOf ls.length) ++ [rootF f (ls.take (kOf ls.length))] := by
  rw [pathF, if_neg (by omega), if_neg hi]
theorem pathF_len8 (f : Nat) : ∀ (ls : List (List UInt8)) (i : Nat), ∀ p ∈ pathF f ls i, p.length = 8 := by
  induction f with
  | zero => intro ls i p hp; simp [pathF] at hp
  | succ f ih =>
    intro ls i p hp
    by_cases h1 : ls.length ≤ 1
    · rw [pathF_one _ _ _ h1] at hp; simp at hp
    by_cases hi : i < kOf ls.length
    · rw [pathF_left _ _ _ (by omega) hi] at hp
      rcases List.mem_append.1 hp with h | h
      · exact ih _ _ p h
      · rw [List.mem_singleton.1 h]; exact rootF_length _ _
    · rw [pathF_right _ _ _ (by omega) hi] at hp
      rcases List.mem_append.1 hp with h | h
      · exact ih _ _ p h
      · rw [List.mem_singleton.1 h]; exact rootF_length _ _
theorem pathF_count (f : Nat) : ∀ (ls : List (List UInt8)) (i : Nat), (pathF f ls i).length ≤ f := by
  induction f with
  | zero => intro ls i; simp [pathF]
  | succ f ih =>
    intro ls i
    by_cases h1 : ls.length ≤ 1
    · rw [pathF_one _ _ _ h1]; simp
    by_cases hi : i < kOf ls.length
    · rw [pathF_left _ _ _ (by omega) hi]
      have := ih (ls.take (kOf ls.length)) i
      simp; omega
    · rw [pathF_right _ _ _ (by omega) hi]
      have := ih (ls.drop (kOf ls.length)) (i - kOf ls.length)
      simp; omega

/-- PART of P6. -/
def prtF : Nat → Nat → List (List UInt8) → Bool → List (List UInt8)
  | 0, _, _, _ => []
  | f + 1, m, ls, whole =>
    if m = ls.length then (if whole = true then [] else [rootF (f + 1) ls])
    else if m ≤ kOf ls.length then prtF f m (ls.take (kOf ls.length)) whole ++ [rootF f (ls.drop (kOf ls.length))]
    else prtF f (m - kOf ls.length) (ls.drop (kOf ls.length)) false ++ [rootF f (ls.take (kOf ls.length))]
theorem prtF_whole (f : Nat) (ls : List (List UInt8)) : prtF (f + 1) ls.length ls true = [] := by
  rw [prtF, if_pos rfl, if_pos rfl]
theorem prtF_not (f : Nat) (ls : List (List UInt8)) : prtF (f + 1) ls.length ls false = [rootF (f + 1) ls] := by
  rw [prtF, if_pos rfl, if_neg (by simp)]
theorem prtF_left (f m : Nat) (ls : List (List UInt8)) (whole : Bool) (h : m ≠ ls.length) (hk : m ≤ kOf ls.length) : prtF (f + 1) m ls whole = prtF f m (ls.take (kOf ls.length)) whole ++ [rootF f (ls.drop (kOf ls.length))] := by
  rw [prtF, if_neg h, if_pos hk]
theorem prtF_right (f m : Nat) (ls : List (List UInt8)) (whole : Bool) (h : m ≠ ls.length) (hk : ¬ m ≤ kOf ls.length) : prtF (f + 1) m ls whole = prtF f (m - kOf ls.length) (ls.drop (kOf ls.length)) false ++ [rootF f (ls.take (kOf ls.length))] := by
  rw [prtF, if_neg h, if_neg hk]
theorem prtF_len8 (f : Nat) : ∀ (m : Nat) (ls : List (List UInt8)) (whole : Bool), ∀ p ∈ prtF f m ls whole, p.length = 8 := by
  induction f with
  | zero => intro m ls whole p hp; simp [prtF] at hp
  | succ f ih =>
    intro m ls whole p hp
    by_cases h1 : m = ls.length
    · subst h1
      cases whole with
      | true => rw [prtF_whole] at hp; simp at hp
      | false => rw [prtF_not] at hp; rw [List.mem_singleton.1 hp]; exact rootF_length _ _
    by_cases hk : m ≤ kOf ls.length
    · rw [prtF_left _ _ _ _ h1 hk] at hp
      rcases List.mem_append.1 hp with h | h
      · exact ih _ _ _ p h
      · rw [List.mem_singleton.1 h]; exact rootF_length _ _
    · rw [prtF_right _ _ _ _ h1 hk] at hp
      rcases List.mem_append.1 hp with h | h
      · exact ih _ _ _ p h
      · rw [List.mem_singleton.1 h]; exact rootF_length _ _
theorem prtF_count (f : Nat) : ∀ (m : Nat) (ls : List (List UInt8)) (whole : Bool), (prtF f m ls whole).length ≤ f := by
  induction f with
  | zero => intro m ls whole; simp [prtF]
  | succ f ih =>
    intro m ls whole
    by_cases h1 : m = ls.length
    · subst h1
      cases whole with
      | true => rw [prtF_whole]; simp
      | false => rw [prtF_not]; simp
    by_cases hk : m ≤ kOf ls.length
    · rw [prtF_left _ _ _ _ h1 hk]
      have := ih m (ls.take (kOf ls.length)) whole
      simp; omega
    · rw [prtF_right _ _ _ _ h1 hk]
      have := ih (m - kOf ls.length) (ls.drop (kOf ls.length)) false
      simp; omega
end Go.Proofs.YtbjpjidliggdhaaDoor
