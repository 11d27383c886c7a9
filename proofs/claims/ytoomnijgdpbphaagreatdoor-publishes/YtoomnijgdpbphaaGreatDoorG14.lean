import Derived.Test.YtoomnijgdpbphaaGreatDoorG13

namespace Go.Proofs.YtoomnijgdpbphaaGreatDoor
open Go.RowKit

/-- The path of P4. -/
def pathF : Nat → List (List UInt8) → Nat → List (List UInt8)
  | 0, _, _ => []
  | f + 1, ls, i =>
    if ls.length ≤ 1 then []
    else if i < kOf ls.length then pathF f (ls.take (kOf ls.length)) i ++ [rootF f (ls.drop (kOf ls.length))]
    else pathF f (ls.drop (kOf ls.length)) (i - kOf ls.length) ++ [rootF f (ls.take (kOf ls.length))]
theorem pathF_one (f : Nat) (ls : List (List UInt8)) (i : Nat) (h : ls.length ≤ 1) : pathF f ls i = [] := by
  cases f with
  | zero => rfl
  | succ f => rw [pathF, if_pos h]
theorem pathF_left (f : Nat) (ls : List (List UInt8)) (i : Nat) (h : 2 ≤ ls.length) (hi : i < kOf ls.length) : pathF (f + 1) ls i = pathF f (ls.take (kOf ls.length)) i ++ [rootF f (ls.drop (kOf ls.length))] := by
  rw [pathF, if_neg (by omega), if_pos hi]
theorem pathF_right (f : Nat) (ls : List (List UInt8)) (i : Nat) (h : 2 ≤ ls.length) (hi : ¬ i < kOf ls.length) : pathF (f + 1) ls i = pathF f (ls.drop (kOf ls.length)) (i - kOf ls.length) ++ [rootF f (ls.take (kOf ls.length))] := by
  rw [pathF, if_neg (by omega), if_neg hi]
theorem pathF_len8 (f : Nat) : ∀ (ls : List (List UInt8)) (i : Nat), ∀ p ∈ pathF f ls i, p.length = 8 := by
  induction f with
  | zero => intro ls i p hp; simp [pathF] at hp
  | succ f ih =>
    intro ls i p hp
    by_cases h1 : ls.length ≤ 1
    · rw [pathF_one _ _ _ h1] at hp; simp at hp
    by_cases hi : i < kOf ls.length
    · rw [pathF_left _ _ _ (by omega) hi] at hp
      rcases List.mem_append.1 hp with h | h
      · exact ih _ _ p h
      · rw [List.mem_singleton.1 h]; exact rootF_length _ _
    · rw [pathF_right _ _ _ (by omega) hi] at hp
      rcases List.mem_append.1 hp with h | h
      · exact ih _ _ p h
      · rw [List.mem_singleton.1 h]; exact rootF_length _ _
theorem pathF_count (f : Nat) : ∀ (ls : List (List UInt8)) (i : Nat), (pathF f ls i).length ≤ f := by
  induction f with
  | zero => intro ls i; simp [pathF]
  | succ f ih =>
    intro ls i
    by_cases h1 : ls.length ≤ 1
    · rw [pathF_one _ _ _ h1]; simp
    by_cases hi : i < kOf ls.length
    · rw [pathF_left _ _ _ (by omega) hi]
      have := ih (ls.take (kOf ls.length)) i
      simp; omega
    · rw [pathF_right _ _ _ (by omega) hi]
      have := ih (ls.drop (kOf ls.length)) (i - kOf ls.length)
      simp; omega

/-- PART of P6. -/
def prtF : Nat → Nat → List (List UInt8) → Bool → List (List UInt8)
  | 0, _, _, _ => []
  | f + 1, m, ls, whole =>
    if m = ls.length then (if whole = true then [] else [rootF (f + 1) ls])
    else if m ≤ kOf ls.length then prtF f m (ls.take (kOf ls.length)) whole ++ [rootF f (ls.drop (kOf ls.length))]
    else prtF f (m - kOf ls.length) (ls.drop (kOf ls.length)) false ++ [rootF f (ls.take (kOf ls.length))]
theorem prtF_whole (f : Nat) (ls : List (List UInt8)) : prtF (f + 1) ls.length ls true = [] := by
  rw [prtF, if_pos rfl, if_pos rfl]
theorem prtF_not (f : Nat) (ls : List (List UInt8)) : prtF (f + 1) ls.length ls false = [rootF (f + 1) ls] := by
  rw [prtF, if_pos rfl, if_neg (by simp)]
theorem prtF_left (f m : Nat) (ls : List (List UInt8)) (whole : Bool) (h : m ≠ ls.length) (hk : m ≤ kOf ls.length) : prtF (f + 1) m ls whole = prtF f m (ls.take (kOf ls.length)) whole ++ [rootF f (ls.drop (kOf ls.length))] := by
  rw [prtF, if_neg h, if_pos hk]
theorem prtF_right (f m : Nat) (ls : List (List UInt8)) (whole : Bool) (h : m ≠ ls.length) (hk : ¬ m ≤ kOf ls.length) : prtF (f + 1) m ls whole = prtF f (m - kOf ls.length) (ls.drop (kOf ls.length)) false ++ [rootF f (ls.take (kOf ls.length))] := by
  rw [prtF, if_neg h, if_neg hk]
theorem prtF_len8 (f : Nat) : ∀ (m : Nat) (ls : List (List UInt8)) (whole : Bool), ∀ p ∈ prtF f m ls whole, p.length = 8 := by
  induction f with
  | zero => intro m ls whole p hp; simp [prtF] at hp
  | succ f ih =>
    intro m ls whole p hp
    by_cases h1 : m = ls.length
    · subst h1
      cases whole with
      | true => rw [prtF_whole] at hp; simp at hp
      | false => rw [prtF_not] at hp; rw [List.mem_singleton.1 hp]; exact rootF_length _ _
    by_cases hk : m ≤ kOf ls.length
    · rw [prtF_left _ _ _ _ h1 hk] at hp
      rcases List.mem_append.1 hp with h | h
      · exact ih _ _ _ p h
      · rw [List.mem_singleton.1 h]; exact rootF_length _ _
    · rw [prtF_right _ _ _ _ h1 hk] at hp
      rcases List.mem_append.1 hp with h | h
      · exact ih _ _ _ p h
      · rw [List.mem_singleton.1 h]; exact rootF_length _ _
theorem prtF_count (f : Nat) : ∀ (m : Nat) (ls : List (List UInt8)) (whole : Bool), (prtF f m ls whole).length ≤ f := by
  induction f with
  | zero => intro m ls whole; simp [prtF]
  | succ f ih =>
    intro m ls whole
    by_cases h1 : m = ls.length
    · subst h1
      cases whole with
      | true => rw [prtF_whole]; simp
      | false => rw [prtF_not]; simp
    by_cases hk : m ≤ kOf ls.length
    · rw [prtF_left _ _ _ _ h1 hk]
      have := ih m (ls.take (kOf ls.length)) whole
      simp; omega
    · rw [prtF_right _ _ _ _ h1 hk]
      have := ih (m - kOf ls.length) (ls.drop (kOf ls.length)) false
      simp; omega
end Go.Proofs.YtoomnijgdpbphaaGreatDoor

namespace Go.Proofs.YtoomnijgdpbphaaGreatDoor

/-- The root of all. -/
def rootT (l : List (List UInt8)) : List UInt8 := rootF l.length l
theorem rootT_8 (l : List (List UInt8)) : (rootT l).length = 8 := rootF_length _ _
theorem rootF_fuel : ∀ (f g : Nat) (l : List (List UInt8)), l.length ≤ f → l.length ≤ g → rootF f l = rootF g l := by
  intro f
  induction f with
  | zero =>
    intro g l hf _
    rw [rootF_nil 0 l (by omega), rootF_nil g l (by omega)]
  | succ f ih =>
    intro g l hf hg
    by_cases h0 : l.length = 0
    · rw [rootF_nil _ l h0, rootF_nil _ l h0]
    · obtain ⟨g, rfl⟩ : ∃ g', g = g' + 1 := ⟨g - 1, by omega⟩
      by_cases h1 : l.length = 1
      · rw [rootF_one f l h1, rootF_one g l h1]
      · obtain ⟨k1, k2, k3⟩ := kOf_spec l.length (by omega)
        rw [rootF_more f l (by omega), rootF_more g l (by omega), ih g (l.take (kOf l.length)) (by simp; omega) (by simp; omega), ih g (l.drop (kOf l.length)) (by simp; omega) (by simp; omega)]
theorem rootT_split (l : List (List UInt8)) (h : 2 ≤ l.length) : rootT l = nodeH (rootT (l.take (kOf l.length))) (rootT (l.drop (kOf l.length))) := by
  obtain ⟨k1, k2, k3⟩ := kOf_spec l.length h
  unfold rootT
  obtain ⟨f, hf⟩ : ∃ f, l.length = f + 1 := ⟨l.length - 1, by omega⟩
  rw [hf, rootF_more f l h, ← hf]
  rw [rootF_fuel f (l.take (kOf l.length)).length (l.take (kOf l.length)) (by simp; omega) (Nat.le_refl _), rootF_fuel f (l.drop (kOf l.length)).length (l.drop (kOf l.length)) (by simp; omega) (Nat.le_refl _)]
theorem kOf_pow (p : Nat) : kOf (2 ^ (p + 1)) = 2 ^ p := by
  obtain ⟨h1, h2, h3⟩ := kOf_spec (2 ^ (p + 1)) (by rw [Nat.pow_succ]; have : 0 < 2 ^ p := Nat.pow_pos (by omega); omega)
  unfold kOf at *
  generalize (2 ^ (p + 1) - 1).log2 = q at *
  have a : q < p + 1 := (Nat.pow_lt_pow_iff_right (by omega : 1 < 2)).1 h1
  have b : p + 1 ≤ q + 1 := (Nat.pow_le_pow_iff_right (by omega : 1 < 2)).1 (by rw [Nat.pow_succ 2 q]; omega)
  congr 1
  omega

theorem rootT_one (e : List UInt8) : rootT [e] = leafH e := rfl
theorem rootT_none : rootT [] = hash [] := rfl
/-- A run of entries. -/
def run (es : List (List UInt8)) (s : Nat × Nat) : List (List UInt8) := (es.drop s.1).take s.2
theorem run_len (es : List (List UInt8)) (a n : Nat) (h : a + n ≤ es.length) : (run es (a, n)).length = n := by simp [run]; omega
theorem run_take (es : List (List UInt8)) (a n k : Nat) (h : k ≤ n) : (run es (a, n)).take k = run es (a, k) := by
  simp only [run, List.take_take]; congr 1; omega
theorem run_drop (es : List (List UInt8)) (a n k : Nat) : (run es (a, n)).drop k = run es (a + k, n - k) := by
  simp only [run, List.drop_take, List.drop_drop]
theorem run_all (es : List (List UInt8)) : run es (0, es.length) = es := by simp [run]

/-- P4, P6: which runs' roots. -/
def pathS : Nat → Nat → Nat → Nat → List (Nat × Nat)
  | 0, _, _, _ => []
  | f + 1, a, n, i =>
    if n ≤ 1 then []
    else if i < a + kOf n then pathS f a (kOf n) i ++ [(a + kOf n, n - kOf n)]
    else pathS f (a + kOf n) (n - kOf n) i ++ [(a, kOf n)]
def partS : Nat → Nat → Nat → Nat → Bool → List (Nat × Nat)
  | 0, m, a, n, whole => if m = a + n then (if whole = true then [] else [(a, n)]) else []
  | f + 1, m, a, n, whole =>
    if m = a + n then (if whole = true then [] else [(a, n)])
    else if m ≤ a + kOf n then partS f m a (kOf n) whole ++ [(a + kOf n, n - kOf n)]
    else partS f m (a + kOf n) (n - kOf n) false ++ [(a, kOf n)]
theorem pathS_one (f a n i : Nat) (h : n ≤ 1) : pathS f a n i = [] := by
  cases f with
  | zero => rfl
  | succ f => rw [pathS, if_pos h]
theorem pathS_left (f a n i : Nat) (h : 2 ≤ n) (hi : i < a + kOf n) : pathS (f + 1) a n i = pathS f a (kOf n) i ++ [(a + kOf n, n - kOf n)] := by
  rw [pathS, if_neg (by omega), if_pos hi]
theorem pathS_right (f a n i : Nat) (h : 2 ≤ n) (hi : ¬ i < a + kOf n) : pathS (f + 1) a n i = pathS f (a + kOf n) (n - kOf n) i ++ [(a, kOf n)] := by
  rw [pathS, if_neg (by omega), if_neg hi]
theorem partS_end (f m a n : Nat) (whole : Bool) (h : m = a + n) : partS f m a n whole = if whole = true then [] else [(a, n)] := by
  cases f with
  | zero => rw [partS, if_pos h]
  | succ f => rw [partS, if_pos h]
theorem partS_left (f m a n : Nat) (whole : Bool) (h : m ≠ a + n) (hk : m ≤ a + kOf n) : partS (f + 1) m a n whole = partS f m a (kOf n) whole ++ [(a + kOf n, n - kOf n)] := by
  rw [partS, if_neg h, if_pos hk]
theorem partS_right (f m a n : Nat) (whole : Bool) (h : m ≠ a + n) (hk : ¬ m ≤ a + kOf n) : partS (f + 1) m a n whole = partS f m (a + kOf n) (n - kOf n) false ++ [(a, kOf n)] := by
  rw [partS, if_neg h, if_neg hk]
theorem pathS_count (f : Nat) : ∀ a n i, (pathS f a n i).length ≤ f := by
  induction f with
  | zero => intro a n i; simp [pathS]
  | succ f ih =>
    intro a n i
    by_cases h : n ≤ 1
    · rw [pathS_one _ _ _ _ h]; simp
    by_cases hi : i < a + kOf n
    · rw [pathS_left f a n i (by omega) hi]; have := ih a (kOf n) i; simp; omega
    · rw [pathS_right f a n i (by omega) hi]; have := ih (a + kOf n) (n - kOf n) i; simp; omega
theorem partS_count (f : Nat) : ∀ m a n whole, (partS f m a n whole).length ≤ f + 1 := by
  induction f with
  | zero =>
    intro m a n whole
    by_cases h : m = a + n
    · rw [partS_end _ _ _ _ _ h]; split <;> simp
    · rw [partS, if_neg h]; simp
  | succ f ih =>
    intro m a n whole
    by_cases h : m = a + n
    · rw [partS_end _ _ _ _ _ h]; split <;> simp
    by_cases hk : m ≤ a + kOf n
    · rw [partS_left f m a n whole h hk]; have := ih m a (kOf n) whole; simp; omega
    · rw [partS_right f m a n whole h hk]; have := ih m (a + kOf n) (n - kOf n) false; simp; omega
/-- Halves of a run of at most 2^(f+1) entries. -/
theorem kOf_half (n f : Nat) (h2 : 2 ≤ n) (h : n ≤ 2 ^ (f + 1)) : kOf n ≤ 2 ^ f ∧ n - kOf n ≤ 2 ^ f ∧ 1 ≤ kOf n ∧ 1 ≤ n - kOf n ∧ kOf n < n ∧ n ≤ 2 * kOf n := by
  obtain ⟨k1, k2, k3⟩ := kOf_spec n h2
  have hk : kOf n ≤ 2 ^ f := by
    unfold kOf at *
    refine Nat.pow_le_pow_right (by omega) ?_
    have : (n - 1).log2 < f + 1 := (Nat.pow_lt_pow_iff_right (by omega : 1 < 2)).1 (Nat.lt_of_lt_of_le k1 h)
    omega
  omega
theorem pathS_roots (es : List (List UInt8)) : ∀ (f g a n i : Nat), n ≤ 2 ^ f → n ≤ g → a + n ≤ es.length → a ≤ i → i < a + n → pathF g (run es (a, n)) (i - a) = (pathS f a n i).map (fun s => rootT (run es s)) := by
  intro f
  induction f with
  | zero =>
    intro g a n i h hg hl h1 h2
    have hn := run_len es a n hl
    have hn1 : n ≤ 1 := by simpa using h
    rw [pathF_one _ _ _ (by omega)]; rfl
  | succ f ih =>
    intro g a n i h hg hl h1 h2
    have hn := run_len es a n hl
    by_cases hn1 : n ≤ 1
    · rw [pathF_one _ _ _ (by omega), pathS_one _ _ _ _ hn1]; rfl
    obtain ⟨g, rfl⟩ : ∃ g', g = g' + 1 := ⟨g - 1, by omega⟩
    obtain ⟨a1, a2, a3, a4, a5, a6⟩ := kOf_half n f (by omega) h
    have e1 := run_len es a (kOf n) (by omega)
    have e2 := run_len es (a + kOf n) (n - kOf n) (by omega)
    by_cases hi : i < a + kOf n
    · rw [pathS_left f a n i (by omega) hi, pathF_left g _ _ (by omega) (by rw [hn]; omega), hn, run_take es a n _ (by omega), run_drop, ih g a (kOf n) i a1 (by omega) (by omega) h1 hi, List.map_append]
      congr 2
      exact rootF_fuel _ _ _ (by omega) (Nat.le_refl _)
    · rw [pathS_right f a n i (by omega) hi, pathF_right g _ _ (by omega) (by rw [hn]; omega), hn, run_take es a n _ (by omega), run_drop, show i - a - kOf n = i - (a + kOf n) by omega, ih g (a + kOf n) (n - kOf n) i a2 (by omega) (by omega) (by omega) (by omega), List.map_append]
      congr 2
      exact rootF_fuel _ _ _ (by omega) (Nat.le_refl _)
theorem partS_roots (es : List (List UInt8)) : ∀ (f g m a n : Nat) (whole : Bool), n ≤ 2 ^ f → n ≤ g → a + n ≤ es.length → a < m → m ≤ a + n → prtF g (m - a) (run es (a, n)) whole = (partS f m a n whole).map (fun s => rootT (run es s)) := by
  intro f
  induction f with
  | zero =>
    intro g m a n whole h hg hl h1 h2
    have hn := run_len es a n hl
    have hn1 : n ≤ 1 := by simpa using h
    obtain ⟨g, rfl⟩ : ∃ g', g = g' + 1 := ⟨g - 1, by omega⟩
    rw [partS_end 0 m a n whole (by omega), show m - a = (run es (a, n)).length by omega]
    cases whole with
    | true => rw [prtF_whole]; rfl
    | false => rw [prtF_not]; simp [rootT]; exact rootF_fuel _ _ _ (by omega) (Nat.le_refl _)
  | succ f ih =>
    intro g m a n whole h hg hl h1 h2
    have hn := run_len es a n hl
    obtain ⟨g, rfl⟩ : ∃ g', g = g' + 1 := ⟨g - 1, by omega⟩
    by_cases hm : m = a + n
    · rw [partS_end _ m a n whole hm, show m - a = (run es (a, n)).length by omega]
      cases whole with
      | true => rw [prtF_whole]; rfl
      | false => rw [prtF_not]; simp [rootT]; exact rootF_fuel _ _ _ (by omega) (Nat.le_refl _)
    obtain ⟨a1, a2, a3, a4, a5, a6⟩ := kOf_half n f (by omega) h
    have e1 := run_len es a (kOf n) (by omega)
    have e2 := run_len es (a + kOf n) (n - kOf n) (by omega)
    by_cases hk : m ≤ a + kOf n
    · rw [partS_left f m a n whole hm hk, prtF_left g _ _ _ (by omega) (by rw [hn]; omega), hn, run_take es a n _ (by omega), run_drop, ih g m a (kOf n) whole a1 (by omega) (by omega) h1 hk, List.map_append]
      congr 2
      exact rootF_fuel _ _ _ (by omega) (Nat.le_refl _)
    · rw [partS_right f m a n whole hm hk, prtF_right g _ _ _ (by omega) (by rw [hn]; omega), hn, run_take es a n _ (by omega), run_drop, show m - a - kOf n = m - (a + kOf n) by omega, ih g m (a + kOf n) (n - kOf n) false a2 (by omega) (by omega) (by omega) (by omega), List.map_append]
      congr 2
      exact rootF_fuel _ _ _ (by omega) (Nat.le_refl _)
end Go.Proofs.YtoomnijgdpbphaaGreatDoor
