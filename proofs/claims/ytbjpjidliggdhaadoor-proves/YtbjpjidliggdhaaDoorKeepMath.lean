
import Derived.Test.YtbjpjidliggdhaaDoorPathMath
namespace Go.Proofs.YtbjpjidliggdhaaDoor
open Go.RowKit

theorem rootF_step (f : Nat) : ∀ ls : List (List UInt8), ls.length ≤ f → rootF (f + 1) ls = rootF f ls := by
  induction f with
  | zero => intro ls h; rw [rootF_nil _ _ (by omega), rootF_nil _ _ (by omega)]
  | succ f ih =>
    intro ls h
    by_cases h0 : ls.length = 0
    · rw [rootF_nil _ _ h0, rootF_nil _ _ h0]
    by_cases h1 : ls.length = 1
    · rw [rootF_one _ _ h1, rootF_one _ _ h1]
    obtain ⟨k1, k2, k3⟩ := kOf_spec ls.length (by omega)
    rw [rootF_more (f + 1) ls (by omega), rootF_more f ls (by omega), ih (ls.take (kOf ls.length)) (by simp; omega), ih (ls.drop (kOf ls.length)) (by simp; omega)]
theorem snoc_dropLast (P : List (List UInt8)) (R : List UInt8) : (P ++ [R]).dropLast = P := by simp
theorem snoc_last (P : List (List UInt8)) (R : List UInt8) : (P ++ [R]).getLastD [] = R := by simp [List.getLastD_eq_getLast?]
theorem snoc_ne (P : List (List UInt8)) (R : List UInt8) : (P ++ [R]).length ≠ 0 := by simp

theorem pathF_lt (f : Nat) : ∀ (ls : List (List UInt8)) (i : Nat), 1 ≤ ls.length → (pathF f ls i).length + 1 ≤ ls.length := by
  induction f with
  | zero => intro ls i h; simpa [pathF] using h
  | succ f ih =>
    intro ls i h
    by_cases h1 : ls.length ≤ 1
    · rw [pathF_one _ _ _ h1]; simpa using h
    obtain ⟨k1, k2, k3⟩ := kOf_spec ls.length (by omega)
    by_cases hi : i < kOf ls.length
    · rw [pathF_left _ _ _ (by omega) hi]
      have := ih (ls.take (kOf ls.length)) i (by simp; omega)
      simp at this ⊢; omega
    · rw [pathF_right _ _ _ (by omega) hi]
      have := ih (ls.drop (kOf ls.length)) (i - kOf ls.length) (by simp; omega)
      simp at this ⊢; omega
/-- What the path gives is rebuilt to the root. -/
theorem reb_path (z : List UInt8) (f : Nat) : ∀ (ls : List (List UInt8)) (i : Nat), 1 ≤ ls.length → ls.length ≤ f → i < ls.length →
    rebF z f (leafH (ls.getD i [])) i ls.length (pathF f ls i) = (rootF f ls, true) := by
  induction f with
  | zero => intro ls i h1 h2; omega
  | succ f ih =>
    intro ls i h1 hf hi
    by_cases h : ls.length = 1
    · rw [pathF_one _ _ _ (by omega), h, rebF_one, rootF_one _ _ h]
      obtain rfl : i = 0 := by omega
      match ls, h with
      | [l], _ => simp
    obtain ⟨k1, k2, k3⟩ := kOf_spec ls.length (by omega)
    by_cases hk : i < kOf ls.length
    · rw [pathF_left _ _ _ (by omega) hk, rebF_left _ _ _ _ _ _ h (snoc_ne _ _) hk, snoc_dropLast, snoc_last]
      have e := ih (ls.take (kOf ls.length)) i (by simp; omega) (by simp; omega) (by simp; omega)
      have e1 : (ls.take (kOf ls.length)).getD i [] = ls.getD i [] := by simp [List.getD_eq_getElem?_getD, hk]
      have e2 : (ls.take (kOf ls.length)).length = kOf ls.length := by simp; omega
      rw [e1, e2] at e
      rw [e, rootF_more _ _ (by omega)]
    · rw [pathF_right _ _ _ (by omega) hk, rebF_right _ _ _ _ _ _ h (snoc_ne _ _) hk, snoc_dropLast, snoc_last]
      have e := ih (ls.drop (kOf ls.length)) (i - kOf ls.length) (by simp; omega) (by simp; omega) (by simp; omega)
      have e1 : (ls.drop (kOf ls.length)).getD (i - kOf ls.length) [] = ls.getD i [] := by
        simp only [List.getD_eq_getElem?_getD, List.getElem?_drop]
        rw [show kOf ls.length + (i - kOf ls.length) = i by omega]
      have e2 : (ls.drop (kOf ls.length)).length = ls.length - kOf ls.length := by simp
      rw [e1, e2] at e
      rw [e, rootF_more _ _ (by omega)]
/-- Nothing is rebuilt of another number of hashes. -/
theorem reb_count (z leaf : List UInt8) (f : Nat) : ∀ (ls : List (List UInt8)) (i : Nat) (qs : List (List UInt8)), 1 ≤ ls.length → (rebF z f leaf i ls.length qs).2 = true → qs.length = (pathF f ls i).length := by
  induction f with
  | zero => intro ls i qs h1 h; simp [rebF] at h
  | succ f ih =>
    intro ls i qs h1 h
    by_cases hl : ls.length = 1
    · rw [hl, rebF_one] at h
      rw [pathF_one _ _ _ (by omega)]
      simpa using h
    by_cases h0 : qs.length = 0
    · rw [rebF_none _ _ _ _ _ _ hl h0] at h; simp at h
    obtain ⟨k1, k2, k3⟩ := kOf_spec ls.length (by omega)
    have hd : qs.dropLast.length = qs.length - 1 := by simp
    by_cases hk : i < kOf ls.length
    · rw [rebF_left _ _ _ _ _ _ hl h0 hk] at h
      have e2 : (ls.take (kOf ls.length)).length = kOf ls.length := by simp; omega
      have := ih (ls.take (kOf ls.length)) i qs.dropLast (by omega) (by rw [e2]; exact h)
      rw [pathF_left _ _ _ (by omega) hk, List.length_append, List.length_singleton, ← this, hd]; omega
    · rw [rebF_right _ _ _ _ _ _ hl h0 hk] at h
      have e2 : (ls.drop (kOf ls.length)).length = ls.length - kOf ls.length := by simp
      have := ih (ls.drop (kOf ls.length)) (i - kOf ls.length) qs.dropLast (by omega) (by rw [e2]; exact h)
      rw [pathF_right _ _ _ (by omega) hk, List.length_append, List.length_singleton, ← this, hd]; omega

theorem prtF_le (f : Nat) : ∀ (m : Nat) (ls : List (List UInt8)) (whole : Bool), 1 ≤ m → m ≤ ls.length → (prtF f m ls whole).length ≤ ls.length := by
  induction f with
  | zero => intro m ls whole h h2; simp [prtF]
  | succ f ih =>
    intro m ls whole h h2
    by_cases h1 : m = ls.length
    · subst h1
      cases whole with
      | true => rw [prtF_whole]; simp
      | false => rw [prtF_not]; simpa using h
    obtain ⟨k1, k2, k3⟩ := kOf_spec ls.length (by omega)
    by_cases hk : m ≤ kOf ls.length
    · rw [prtF_left _ _ _ _ h1 hk]
      have := ih m (ls.take (kOf ls.length)) whole h (by simp; omega)
      simp at this ⊢; omega
    · rw [prtF_right _ _ _ _ h1 hk]
      have := ih (m - kOf ls.length) (ls.drop (kOf ls.length)) false (by omega) (by simp; omega)
      simp at this ⊢; omega
/-- What PART gives is rebuilt to both roots. -/
theorem rts_part (z a : List UInt8) (f : Nat) : ∀ (m : Nat) (ls : List (List UInt8)) (whole : Bool), 1 ≤ m → m ≤ ls.length → ls.length ≤ f → (whole = true → a = rootF f (ls.take m)) →
    rtsF z a f m ls.length (prtF f m ls whole) whole = (rootF f (ls.take m), rootF f ls, true) := by
  induction f with
  | zero => intro m ls whole h1 h2 h3; omega
  | succ f ih =>
    intro m ls whole h1 h2 hf ha
    by_cases hm : m = ls.length
    · subst hm
      cases whole with
      | true => rw [prtF_whole, rtsF_whole, List.take_length] ; rw [List.take_length] at ha; rw [← ha rfl]; simp
      | false => rw [prtF_not, rtsF_part _ _ _ _ _ (by simp), List.take_length]; simp
    obtain ⟨k1, k2, k3⟩ := kOf_spec ls.length (by omega)
    by_cases hk : m ≤ kOf ls.length
    · rw [prtF_left _ _ _ _ hm hk, rtsF_left _ _ _ _ _ _ _ hm (snoc_ne _ _) hk, snoc_dropLast, snoc_last]
      have e1 : (ls.take (kOf ls.length)).take m = ls.take m := by rw [List.take_take, Nat.min_eq_left hk]
      have e2 : (ls.take (kOf ls.length)).length = kOf ls.length := by simp; omega
      have es : rootF (f + 1) (ls.take m) = rootF f (ls.take m) := rootF_step f _ (by simp; omega)
      have e := ih m (ls.take (kOf ls.length)) whole h1 (by omega) (by omega) (fun hw => by rw [e1, ← es]; exact ha hw)
      rw [e1, e2] at e
      rw [e, es, rootF_more f ls (by omega)]
    · rw [prtF_right _ _ _ _ hm hk, rtsF_right _ _ _ _ _ _ _ hm (snoc_ne _ _) hk, snoc_dropLast, snoc_last]
      have e2 : (ls.drop (kOf ls.length)).length = ls.length - kOf ls.length := by simp
      have e := ih (m - kOf ls.length) (ls.drop (kOf ls.length)) false (by omega) (by omega) (by omega) (by simp)
      rw [e2] at e
      have hl : (ls.take m).length = m := by simp; omega
      have hkm : kOf m = kOf ls.length := by
        unfold kOf at hk k2 ⊢
        refine (kOf_eq m _ (by omega) ?_).symm
        rw [Nat.pow_succ]; omega
      have e3 : (ls.take m).take (kOf ls.length) = ls.take (kOf ls.length) := by rw [List.take_take, Nat.min_eq_left (by omega)]
      have e4 : (ls.take m).drop (kOf ls.length) = (ls.drop (kOf ls.length)).take (m - kOf ls.length) := by rw [List.drop_take]
      rw [e, rootF_more f ls (by omega), rootF_more f (ls.take m) (by omega), hl, hkm, e3, e4]
theorem rts_count (z a : List UInt8) (f : Nat) : ∀ (m : Nat) (ls : List (List UInt8)) (whole : Bool) (qs : List (List UInt8)), 1 ≤ m → m ≤ ls.length → (rtsF z a f m ls.length qs whole).2.2 = true → qs.length = (prtF f m ls whole).length := by
  induction f with
  | zero => intro m ls whole qs h1 h2 h; simp [rtsF] at h
  | succ f ih =>
    intro m ls whole qs h1 h2 h
    by_cases hm : m = ls.length
    · subst hm
      cases whole with
      | true => rw [rtsF_whole] at h; rw [prtF_whole]; simpa using h
      | false =>
        rw [prtF_not]
        by_cases hq : qs.length = 1
        · simpa using hq
        · rw [rtsF_not _ _ _ _ _ hq] at h; simp at h
    by_cases h0 : qs.length = 0
    · rw [rtsF_none _ _ _ _ _ _ _ hm h0] at h; simp at h
    obtain ⟨k1, k2, k3⟩ := kOf_spec ls.length (by omega)
    have hd : qs.dropLast.length = qs.length - 1 := by simp
    by_cases hk : m ≤ kOf ls.length
    · rw [rtsF_left _ _ _ _ _ _ _ hm h0 hk] at h
      have e2 : (ls.take (kOf ls.length)).length = kOf ls.length := by simp; omega
      have := ih m (ls.take (kOf ls.length)) whole qs.dropLast h1 (by omega) (by rw [e2]; exact h)
      rw [prtF_left _ _ _ _ hm hk, List.length_append, List.length_singleton, ← this, hd]; omega
    · rw [rtsF_right _ _ _ _ _ _ _ hm h0 hk] at h
      have e2 : (ls.drop (kOf ls.length)).length = ls.length - kOf ls.length := by simp
      have := ih (m - kOf ls.length) (ls.drop (kOf ls.length)) false qs.dropLast (by omega) (by omega) (by rw [e2]; exact h)
      rw [prtF_right _ _ _ _ hm hk, List.length_append, List.length_singleton, ← this, hd]; omega
end Go.Proofs.YtbjpjidliggdhaaDoor
