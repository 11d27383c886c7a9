import Derived.Test.YtoomnijgdpbphaaGreatDoorG15
import Derived.Test.YtoomnijgdpbphaaGreatDoorG10
import Derived.Test.YtoomnijgdpbphaaGreatDoorG12
import Derived.Test.YtoomnijgdpbphaaGreatDoorG09

namespace Go.Proofs.YtoomnijgdpbphaaGreatDoor

/-- What stands where. -/
abbrev Lk := List UInt8 → Option (List UInt8)
/-- A bundle of an index and a width. -/
def bunAt (lk : Lk) (j w : Nat) : Option (List (List UInt8)) := match lk (nameF (-1) j w) with
  | some d => (match unbF d with | some es => if es.length = w then some es else none | none => none)
  | none => none
/-- The entries behind k bundles. -/
def rdTo (lk : Lk) (n : Nat) : Nat → Option (List (List UInt8))
  | 0 => some []
  | k + 1 => match rdTo lk n k with
    | some d => (bunAt lk k (wid n k)).map (d ++ ·)
    | none => none
theorem bunAt_len {lk : Lk} {j w : Nat} {es : List (List UInt8)} (h : bunAt lk j w = some es) : es.length = w ∧ (lk (nameF (-1) j w)).isSome := by
  unfold bunAt at h
  cases e : lk (nameF (-1) j w) with
  | none => rw [e] at h; simp at h
  | some d =>
    rw [e] at h
    simp only at h
    cases e2 : unbF d with
    | none => rw [e2] at h; simp at h
    | some x =>
      rw [e2] at h
      simp only at h
      split at h
      · obtain rfl : x = es := by simpa using h
        exact ⟨by assumption, rfl⟩
      · simp at h
theorem rdTo_len {lk : Lk} {n : Nat} : ∀ {k : Nat} {d : List (List UInt8)}, rdTo lk n k = some d → 4 * k < n + 4 → d.length = min (4 * k) n
  | 0, d, h, _ => by
    obtain rfl : [] = d := by simpa [rdTo] using h
    simp
  | k + 1, d, h, hk => by
    unfold rdTo at h
    cases e : rdTo lk n k with
    | none => rw [e] at h; simp at h
    | some x =>
      rw [e] at h
      obtain ⟨b, hb, rfl⟩ := Option.map_eq_some_iff.1 h
      have h1 := rdTo_len e (by omega)
      have h2 := (bunAt_len hb).1
      rw [List.length_append, h1, h2]
      unfold wid
      omega
theorem rdTo_in {lk : Lk} {n : Nat} : ∀ {k : Nat} {d : List (List UInt8)}, rdTo lk n k = some d → ∀ j, j < k → (lk (nameF (-1) j (wid n j))).isSome
  | 0, d, _, j, hj => absurd hj (Nat.not_lt_zero _)
  | k + 1, d, h, j, hj => by
    unfold rdTo at h
    cases e : rdTo lk n k with
    | none => rw [e] at h; simp at h
    | some x =>
      rw [e] at h
      obtain ⟨b, hb, rfl⟩ := Option.map_eq_some_iff.1 h
      rcases Nat.lt_or_ge j k with h' | h'
      · exact rdTo_in e j h'
      · obtain rfl : j = k := by omega
        exact (bunAt_len hb).2
theorem rdTo_up {lk : Lk} {n : Nat} {k : Nat} (h : rdTo lk n k = none) : ∀ m, k ≤ m → rdTo lk n m = none := by
  intro m hm
  induction m with
  | zero => obtain rfl : k = 0 := by omega
            exact h
  | succ m ih =>
    by_cases e : k = m + 1
    · rw [← e]; exact h
    · unfold rdTo
      rw [ih (by omega)]

/-- Behind the checkpoint: the widest bundle; one step. -/
def wdF (lk : Lk) (i hv : Nat) : Option Nat := [4, 3, 2, 1].find? fun w => decide (hv < w) && (lk (nameF (-1) i (w : Nat))).isSome
def stepB (lk : Lk) (d : List (List UInt8)) : List (List UInt8) × Bool := match wdF lk (d.length / 4) (d.length % 4) with
  | none => ([], false)
  | some w => match bunAt lk (d.length / 4) w with
    | none => ([], false)
    | some e => if e.take (d.length % 4) = d.drop (4 * (d.length / 4)) then (e.drop (d.length % 4), decide (w = 4)) else ([], false)
def bhTo (lk : Lk) (d : List (List UInt8)) : Nat → List (List UInt8)
  | 0 => d
  | k + 1 => bhTo lk d k ++ (stepB lk (bhTo lk d k)).1
def Behind (lk : Lk) (d d' : List (List UInt8)) : Prop := ∃ k, (∀ i, i < k → (stepB lk (bhTo lk d i)).2 = true) ∧ (stepB lk (bhTo lk d k)).2 = false ∧ d' = bhTo lk d (k + 1)
theorem Behind.unique {lk : Lk} {d a b : List (List UInt8)} (h : Behind lk d a) (h' : Behind lk d b) : a = b := by
  obtain ⟨k, h1, h2, rfl⟩ := h
  obtain ⟨m, g1, g2, rfl⟩ := h'
  rcases Nat.lt_trichotomy k m with e | rfl | e
  · rw [g1 k e] at h2; simp at h2
  · rfl
  · rw [h1 m e] at g2; simp at g2
theorem wdF_some {lk : Lk} {i hv w : Nat} (h : wdF lk i hv = some w) : hv < w ∧ w ≤ 4 ∧ (lk (nameF (-1) i w)).isSome := by
  unfold wdF at h
  have h1 := List.find?_some h
  have h2 := List.mem_of_find?_eq_some h
  simp only [Bool.and_eq_true, decide_eq_true_eq] at h1
  refine ⟨h1.1, ?_, h1.2⟩
  simp at h2
  omega
theorem stepB_len {lk : Lk} {d : List (List UInt8)} : (stepB lk d).1.length ≤ 4 - d.length % 4 ∧ ((stepB lk d).2 = true → (stepB lk d).1.length = 4 - d.length % 4) ∧ (0 < (stepB lk d).1.length → ∃ w : Nat, 1 ≤ w ∧ w ≤ 4 ∧ (lk (nameF (-1) (d.length / 4 : Nat) w)).isSome) := by
  unfold stepB
  cases e : wdF lk (d.length / 4) (d.length % 4) with
  | none => simp
  | some w =>
    obtain ⟨h1, h2, h3⟩ := wdF_some e
    simp only
    cases e2 : bunAt lk (d.length / 4) w with
    | none => simp
    | some x =>
      have hl := (bunAt_len e2).1
      simp only
      split
      · simp only [List.length_drop, hl, decide_eq_true_eq]
        exact ⟨by omega, fun h => by omega, fun _ => ⟨w, by omega, h2, h3⟩⟩
      · simp
/-- The bundles that were met. -/
theorem bhTo_len {lk : Lk} {d : List (List UInt8)} : ∀ {k : Nat}, (∀ i, i < k → (stepB lk (bhTo lk d i)).2 = true) → (k = 0 ∧ bhTo lk d k = d) ∨ (0 < k ∧ (bhTo lk d k).length = 4 * (d.length / 4 + k))
  | 0, _ => .inl ⟨rfl, rfl⟩
  | k + 1, h => by
    refine .inr ⟨by omega, ?_⟩
    have h0 := stepB_len (lk := lk) (d := bhTo lk d k)
    have h1 := h0.2.1 (h k (by omega))
    have hb : (bhTo lk d (k + 1)).length = (bhTo lk d k).length + (stepB lk (bhTo lk d k)).1.length := by
      rw [bhTo, List.length_append]
    rw [hb]
    rcases bhTo_len (k := k) (fun i hi => h i (by omega)) with ⟨rfl, e⟩ | ⟨h2, e⟩
    · rw [e] at h1 ⊢; omega
    · rw [h1, e]; omega

/-- The checkpoint that there is. -/
def HasCp (lk : Lk) (key : List UInt8) (n : Nat) (R : List UInt8) : Prop := (lk cpF = none ∧ n = 0 ∧ R = hash []) ∨ ∃ t, lk cpF = some t ∧ IsSign t key n R
/-- What an Open comes to: the error's number, its path, the entries, the size of the checkpoint. -/
def OpenIs (lk : Lk) (key : List UInt8) (err : Int) (p : List UInt8) (es : List (List UInt8)) (m : Nat) : Prop :=
  ((∃ t, lk cpF = some t ∧ ∀ n R, ¬ IsSign t key n R) ∧ err = 3 ∧ p = [] ∧ es = [] ∧ m = 0) ∨
  ∃ n R, HasCp lk key n R ∧
    ((∃ k d, 4 * k < n ∧ rdTo lk n k = some d ∧ bunAt lk k (wid n k) = none ∧ err = 6 ∧ p = nameF (-1) k (wid n k) ∧ es = [] ∧ m = 0) ∨
     (∃ d, rdTo lk n ((n + 3) / 4) = some d ∧ ((rootT d ≠ R ∧ err = 5 ∧ p = [] ∧ es = [] ∧ m = 0) ∨ (rootT d = R ∧ Behind lk d es ∧ err = 0 ∧ p = [] ∧ m = n))))
theorem HasCp.inj {lk : Lk} {key : List UInt8} {n m : Nat} {R S : List UInt8} (h : HasCp lk key n R) (h' : HasCp lk key m S) : n = m ∧ R = S := by
  rcases h with ⟨e, rfl, rfl⟩ | ⟨t, e, h⟩ <;> rcases h' with ⟨e', rfl, rfl⟩ | ⟨t', e', h'⟩
  · exact ⟨rfl, rfl⟩
  · rw [e] at e'; simp at e'
  · rw [e] at e'; simp at e'
  · rw [e] at e'
    obtain rfl : t = t' := by simpa using e'
    exact h.inj h'
theorem OpenIs.unique {lk : Lk} {key : List UInt8} {e1 e2 : Int} {p1 p2 : List UInt8} {s1 s2 : List (List UInt8)} {m1 m2 : Nat} (h : OpenIs lk key e1 p1 s1 m1) (h' : OpenIs lk key e2 p2 s2 m2) : e1 = e2 ∧ p1 = p2 ∧ s1 = s2 ∧ m1 = m2 := by
  have no : ∀ {n : Nat} {R : List UInt8}, (∃ t, lk cpF = some t ∧ ∀ n R, ¬ IsSign t key n R) → ¬ HasCp lk key n R := by
    rintro n R ⟨t, e, hn⟩ (⟨e', -⟩ | ⟨t', e', h'⟩)
    · rw [e] at e'; simp at e'
    · rw [e] at e'
      obtain rfl : t = t' := by simpa using e'
      exact hn _ _ h'
  have gone : ∀ {n k : Nat} {d : List (List UInt8)}, rdTo lk n k = some d → bunAt lk k (wid n k) = none → rdTo lk n (k + 1) = none := by
    intro n k d h1 h2
    unfold rdTo
    rw [h1, h2]
    rfl
  rcases h with ⟨h, rfl, rfl, rfl, rfl⟩ | ⟨n, R, hc, h⟩ <;> rcases h' with ⟨h', rfl, rfl, rfl, rfl⟩ | ⟨n', R', hc', h'⟩
  · exact ⟨rfl, rfl, rfl, rfl⟩
  · exact absurd hc' (no h)
  · exact absurd hc (no h')
  · obtain ⟨rfl, rfl⟩ := hc.inj hc'
    rcases h with ⟨k, d, hk, hd, hb, rfl, rfl, rfl, rfl⟩ | ⟨d, hd, h⟩ <;> rcases h' with ⟨k', d', hk', hd', hb', rfl, rfl, rfl, rfl⟩ | ⟨d', hd', h'⟩
    · have g := gone hd hb
      have g' := gone hd' hb'
      rcases Nat.lt_trichotomy k k' with e | rfl | e
      · rw [rdTo_up g k' (by omega)] at hd'; simp at hd'
      · exact ⟨rfl, rfl, rfl, rfl⟩
      · rw [rdTo_up g' k (by omega)] at hd; simp at hd
    · rw [rdTo_up (gone hd hb) _ (by omega)] at hd'; simp at hd'
    · rw [rdTo_up (gone hd' hb') _ (by omega)] at hd; simp at hd
    · rw [hd] at hd'
      obtain rfl : d = d' := by simpa using hd'
      rcases h with ⟨h, rfl, rfl, rfl, rfl⟩ | ⟨h, hB, rfl, rfl, rfl⟩ <;> rcases h' with ⟨h', rfl, rfl, rfl, rfl⟩ | ⟨h', hB', rfl, rfl, rfl⟩
      · exact ⟨rfl, rfl, rfl, rfl⟩
      · exact absurd h' h
      · exact absurd h h'
      · exact ⟨rfl, rfl, hB.unique hB', rfl⟩

/-- The indexes of bundles lie among some numbers. -/
def Among (lk : Lk) (s : List Nat) : Prop := ∀ j w : Nat, 1 ≤ w → w ≤ 4 → (lk (nameF (-1) j w)).isSome → j ∈ s
theorem rdTo_bound {lk : Lk} {n k : Nat} {d : List (List UInt8)} {s : List Nat} (hs : Among lk s) (h : rdTo lk n k = some d) (hk : 4 * k < n + 4) : k ≤ s.length ∧ ∀ j, j < k → j ∈ s := by
  have hj : ∀ j, j < k → j ∈ s := fun j hj => hs j (wid n j) (by unfold wid; omega) (by unfold wid; omega) (rdTo_in h j hj)
  exact ⟨pigeon_range k s hj, hj⟩
theorem bh_in {lk : Lk} {d : List (List UInt8)} {s : List Nat} (hs : Among lk s) (h0 : ∀ j, 4 * j < d.length → j ∈ s) : ∀ {k : Nat}, (∀ i, i < k → (stepB lk (bhTo lk d i)).2 = true) → ∀ j, 4 * j < (bhTo lk d k).length + (stepB lk (bhTo lk d k)).1.length → j ∈ s := by
  have one : ∀ e : List (List UInt8), (∀ j, 4 * j < e.length → j ∈ s) → ∀ j, 4 * j < e.length + (stepB lk e).1.length → j ∈ s := by
    intro e he j hj
    have h := stepB_len (lk := lk) (d := e)
    by_cases h1 : 4 * j < e.length
    · exact he j h1
    · obtain ⟨w, hw1, hw4, hw⟩ := h.2.2 (by omega)
      obtain rfl : j = e.length / 4 := by omega
      exact hs _ w hw1 hw4 hw
  intro k
  induction k with
  | zero => exact fun _ => one d h0
  | succ k ih =>
    intro h
    refine one _ fun j hj => ?_
    rw [bhTo, List.length_append] at hj
    exact ih (fun i hi => h i (by omega)) j hj
theorem bh_bound {lk : Lk} {d : List (List UInt8)} {s : List Nat} (hs : Among lk s) (h0 : ∀ j, 4 * j < d.length → j ∈ s) {k : Nat} (h : ∀ i, i < k → (stepB lk (bhTo lk d i)).2 = true) : (bhTo lk d k).length + (stepB lk (bhTo lk d k)).1.length ≤ 4 * s.length ∧ k ≤ s.length := by
  have hi := bh_in hs h0 h
  have hp := pigeon_range (((bhTo lk d k).length + (stepB lk (bhTo lk d k)).1.length + 3) / 4) s (fun j hj => hi j (by omega))
  refine ⟨by omega, ?_⟩
  rcases bhTo_len h with ⟨e, -⟩ | ⟨-, e⟩ <;> omega
end Go.Proofs.YtoomnijgdpbphaaGreatDoor

namespace Go.Proofs.YtoomnijgdpbphaaGreatDoor
open Go.RowKit
set_option maxRecDepth 100000

theorem Fss.below {w w' : World} {v : Value} {fs : Fs} (h : Fss w v fs) (hb : Below w.heap.size w w') : Fss w' v fs := by
  obtain ⟨a, cap, e, hc, h | ⟨b, off, ea, hx⟩⟩ := h
  · exact ⟨a, cap, e, hc, .inl h⟩
  · refine ⟨a, cap, e, hc, .inr ⟨b, off, ea, fun i hi => ?_⟩⟩
    obtain ⟨x0, x1⟩ := hx i hi
    exact ⟨by rw [hb.cell (p := ⟨b, _, none⟩) (cell_lt x0)]; exact x0, by rw [hb.cell (p := ⟨b, _, none⟩) (cell_lt x1)]; exact x1⟩
set_option maxHeartbeats 400000 in
theorem refFind_any (v : Value) (fs : Fs) (q : List UInt8) (w : World) (hn : fs.length ≤ 1000000000) (h : Fss w v fs) :
    Calls Tryz.prog 34 #[v, txv q] w fun r w' => r = .returned (.int .i64 (ixI fs q)) ∧ w' = w := by
  obtain ⟨a, cap, rfl, hcap, hrow⟩ := h
  have H := hide hrow
  clear hrow
  unfold txv
  go_enter Tryz.func34, Tryz.ntmps34
  go_wp2_with fail
  go_loop [5] (fun i => ∃ k : Nat, k ≤ fs.length ∧ i = .int .i64 k ∧ ∀ j (hj : j < fs.length), j < k → fs[j].1 ≠ q) (fun i => fs.length - (intOf i).toNat)
  case atStart => exact ⟨0, Nat.zero_le _, rfl, fun j hj h => by omega⟩
  case round =>
    obtain ⟨k, hk, rfl, hno⟩ := hrel
    have HN := hide hno
    clear hno
    by_cases hlt : k < fs.length
    · obtain ⟨b, off, rfl, hcs⟩ : ∃ b off, a = some ⟨b, off, none⟩ ∧ ∀ i (h : i < fs.length), w.cell? ⟨b, off + i * 2, none⟩ = some (txv fs[i].1) ∧ w.cell? ⟨b, off + i * 2 + 1, none⟩ = some (txv fs[i].2) := by
        rcases H.out with h | h
        · rw [h] at hlt; simp at hlt
        · exact h
      obtain ⟨y0, -⟩ := hcs k hlt
      unfold txv at y0
      clear hcs
      by_cases hq : fs[k].1 = q
      · have HI : Hid (ixF fs q = some k) := ixF_of hlt hq (fun j hj => HN.out j (by omega) hj)
        rw [hq] at y0
        clear hq HN
        go_wp2_with fail
        go_ret
        exact ⟨by unfold ixI; rw [HI.out]; rfl, rfl⟩
      · have HN' : Hid (∀ j (hj : j < fs.length), j < k + 1 → fs[j].1 ≠ q) := fun j hjl hjk => by
          rcases Nat.lt_or_ge j k with h | h
          · exact HN.out j hjl h
          · obtain rfl : j = k := by omega
            exact hq
        generalize fs[k].1 = p at *
        clear HN
        go_wp2_with fail
        · first
            | (rename_i h _; exact absurd (by simpa using h) hq)
            | (rename_i h _ _; exact absurd (by simpa using h) hq)
            | (rename_i h _ _ _; exact absurd (by simpa using h) hq)
        · go_round
          case rel => exact ⟨k + 1, by omega, by go_num, HN'.out⟩
          case measure => simp [intOf]; omega
    · go_wp2_with fail
      go_ret
      refine ⟨?_, rfl⟩
      have : ixF fs q = none := ixF_none_of (fun f hf => by
        obtain ⟨j, hj, rfl⟩ := List.getElem_of_mem hf
        exact HN.out j hj (by omega))
      unfold ixI
      rw [this]
      rfl
end Go.Proofs.YtoomnijgdpbphaaGreatDoor
