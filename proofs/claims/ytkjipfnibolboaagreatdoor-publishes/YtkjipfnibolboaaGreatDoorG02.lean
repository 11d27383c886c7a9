import Derived.Test.YtkjipfnibolboaaGreatDoorRows
import Derived.WalkKit
import Derived.WalkSpells
import Derived.WalkLawsBesides
import Derived.LaidEql
import Derived.BigQuiet
import Derived.Deep.QuietTactic
import Derived.Laws.Rows
import Derived.Laws.Tables
import Derived.Laws.CopyOwn
import Derived.Deep.WholeRow
import Derived.Deep.MidRow

namespace Go.Proofs.YtkjipfnibolboaaGreatDoor
open Go.RowKit
theorem hide {p : Prop} (h : p) : Hid p := h
theorem heap_alloc_old {w : World} {o : Obj} {k : Nat} {x : Obj} (h : w.heap[k]? = some x) : (w.alloc o).heap[k]? = some x := by
  have hlt : k < w.heap.size := by
    rcases Nat.lt_or_ge k w.heap.size with h' | h'
    · exact h'
    · simp [Array.getElem?_eq_none h'] at h
  show (w.heap.push o)[k]? = _
  simp only [Array.getElem?_push, Nat.ne_of_lt hlt, if_false]
  exact h
theorem bcell {W w1 : World} (hb : Below W.heap.size W w1) : (∀ b o, b < W.heap.size → w1.cell? ⟨b, o, none⟩ = W.cell? ⟨b, o, none⟩) ∧ (∀ b o, b < W.heap.size → w1.frozen? ⟨b, o, none⟩ = W.frozen? ⟨b, o, none⟩) :=
  ⟨fun b o h => hb.cell (p := ⟨b, o, none⟩) h, fun b o h => hb.frozen (p := ⟨b, o, none⟩) h⟩
end Go.Proofs.YtkjipfnibolboaaGreatDoor

namespace Go.Proofs.YtkjipfnibolboaaGreatDoor

/-- Files: paths and contents. What stands at a path; where. -/
abbrev Fs := List (List UInt8 × List UInt8)
def look : Fs → List UInt8 → Option (List UInt8)
  | [], _ => none
  | f :: r, p => if f.1 = p then some f.2 else look r p
def ixF : Fs → List UInt8 → Option Nat
  | [], _ => none
  | f :: r, p => if f.1 = p then some 0 else (ixF r p).map (· + 1)
def setF (fs : Fs) (p d : List UInt8) : Fs := match ixF fs p with
  | some i => fs.set i (p, d)
  | none => fs ++ [(p, d)]
def Apart (fs : Fs) : Prop := (fs.map (·.1)).Nodup

theorem ixF_some : ∀ {fs : Fs} {p : List UInt8} {i : Nat}, ixF fs p = some i → ∃ h : i < fs.length, fs[i].1 = p ∧ look fs p = some fs[i].2 ∧ ∀ j (hj : j < i), (fs[j]'(by omega)).1 ≠ p
  | [], p, i, h => by simp [ixF] at h
  | f :: r, p, i, h => by
    unfold ixF at h
    by_cases hf : f.1 = p
    · rw [if_pos hf] at h
      obtain rfl : 0 = i := by simpa using h
      exact ⟨by simp, hf, by simp [look, hf], fun j hj => absurd hj (Nat.not_lt_zero _)⟩
    · rw [if_neg hf] at h
      obtain ⟨k, hk, rfl⟩ := Option.map_eq_some_iff.1 h
      obtain ⟨h1, h2, h3, h4⟩ := ixF_some hk
      refine ⟨by simp; omega, by simpa using h2, by simp [look, hf]; simpa using h3, fun j hj => ?_⟩
      cases j with
      | zero => simpa using hf
      | succ j => simpa using h4 j (by omega)
theorem ixF_none : ∀ {fs : Fs} {p : List UInt8}, ixF fs p = none → look fs p = none ∧ ∀ f ∈ fs, f.1 ≠ p
  | [], p, _ => ⟨rfl, fun f hf => by simp at hf⟩
  | f :: r, p, h => by
    unfold ixF at h
    by_cases hf : f.1 = p
    · rw [if_pos hf] at h; simp at h
    · rw [if_neg hf] at h
      have h' : ixF r p = none := by simpa using h
      obtain ⟨h1, h2⟩ := ixF_none h'
      exact ⟨by simp [look, hf, h1], fun g hg => by
        rcases List.mem_cons.1 hg with rfl | hg
        · exact hf
        · exact h2 g hg⟩
theorem ixF_of : ∀ {fs : Fs} {p : List UInt8} {i : Nat} (h : i < fs.length), fs[i].1 = p → (∀ j (hj : j < i), (fs[j]'(by omega)).1 ≠ p) → ixF fs p = some i
  | [], p, i, h, _, _ => by simp at h
  | f :: r, p, 0, _, h1, _ => by simp [ixF]; simpa using h1
  | f :: r, p, i + 1, h, h1, h2 => by
    have hf : f.1 ≠ p := by simpa using h2 0 (by omega)
    unfold ixF
    rw [if_neg hf, ixF_of (fs := r) (p := p) (i := i) (by simp at h; omega) (by simpa using h1) (fun j hj => by simpa using h2 (j + 1) (by omega))]
    rfl
theorem ixF_none_of {fs : Fs} {p : List UInt8} (h : ∀ f ∈ fs, f.1 ≠ p) : ixF fs p = none := by
  cases e : ixF fs p with
  | none => rfl
  | some i =>
    obtain ⟨h1, h2, _⟩ := ixF_some e
    exact absurd h2 (h _ (List.getElem_mem h1))
theorem look_none {fs : Fs} {p : List UInt8} : look fs p = none ↔ ∀ f ∈ fs, f.1 ≠ p := by
  refine ⟨fun h => ?_, fun h => (ixF_none (ixF_none_of h)).1⟩
  cases e : ixF fs p with
  | none => exact (ixF_none e).2
  | some i =>
    obtain ⟨h1, h2, h3, _⟩ := ixF_some e
    rw [h3] at h; simp at h
theorem look_mem {fs : Fs} {p d : List UInt8} (h : look fs p = some d) : (p, d) ∈ fs := by
  cases e : ixF fs p with
  | none => rw [(ixF_none e).1] at h; simp at h
  | some i =>
    obtain ⟨h1, h2, h3, _⟩ := ixF_some e
    rw [h3] at h
    obtain rfl : fs[i].2 = d := by simpa using h
    rw [← h2]
    exact List.getElem_mem h1
theorem mem_look : ∀ {fs : Fs} {p d : List UInt8}, Apart fs → (p, d) ∈ fs → look fs p = some d
  | [], p, d, _, h => by simp at h
  | f :: r, p, d, ha, h => by
    unfold Apart at ha
    simp only [List.map_cons, List.nodup_cons] at ha
    rcases List.mem_cons.1 h with rfl | h
    · simp [look]
    · have hf : f.1 ≠ p := fun e => ha.1 (by rw [e]; exact List.mem_map.2 ⟨_, h, rfl⟩)
      simp only [look, hf, if_false]
      exact mem_look ha.2 h
theorem look_perm {fs gs : Fs} (ha : Apart fs) (h : gs.Perm fs) (p : List UInt8) : look gs p = look fs p := by
  have hb : Apart gs := (List.Perm.nodup_iff (h.map _)).2 ha
  cases e : look fs p with
  | none =>
    rw [look_none] at e ⊢
    exact fun f hf => e f (h.mem_iff.1 hf)
  | some d => exact mem_look hb (h.mem_iff.2 (look_mem e))
theorem paths_set (fs : Fs) (p d : List UInt8) : (setF fs p d).map (·.1) = if ixF fs p = none then fs.map (·.1) ++ [p] else fs.map (·.1) := by
  unfold setF
  cases e : ixF fs p with
  | none => simp
  | some i =>
    obtain ⟨h1, h2, _⟩ := ixF_some e
    simp only [List.map_set, reduceCtorEq, if_false]
    rw [← h2]
    apply List.ext_getElem
    · simp
    · intro j hj hj'
      rw [List.getElem_set]
      split
      · rename_i hij; subst hij; simp
      · rfl
theorem Apart.set {fs : Fs} (h : Apart fs) (p d : List UInt8) : Apart (setF fs p d) := by
  unfold Apart at *
  rw [paths_set]
  split
  · rename_i e
    rw [List.nodup_append]
    refine ⟨h, by simp, fun a ha b hb => ?_⟩
    obtain rfl : b = p := by simpa using hb
    obtain ⟨f, hf, rfl⟩ := List.mem_map.1 ha
    exact (ixF_none e).2 f hf
  · exact h
theorem look_set_same (fs : Fs) (p d : List UInt8) : look (setF fs p d) p = some d := by
  have : ∀ fs : Fs, look (setF fs p d) p = some d := by
    intro fs
    induction fs with
    | nil => simp [setF, ixF, look]
    | cons f r ih =>
      unfold setF
      unfold ixF
      by_cases hf : f.1 = p
      · rw [if_pos hf]; simp [look]
      · rw [if_neg hf]
        unfold setF at ih
        cases e : ixF r p with
        | none => rw [e] at ih; simpa [look, hf] using ih
        | some i => rw [e] at ih; simpa [look, hf] using ih
  exact this fs
theorem look_set_other (fs : Fs) (p d q : List UInt8) (h : q ≠ p) : look (setF fs p d) q = look fs q := by
  induction fs with
  | nil => simp [setF, ixF, look, h.symm]
  | cons f r ih =>
    unfold setF
    unfold ixF
    by_cases hf : f.1 = p
    · rw [if_pos hf]
      have hq : ¬ f.1 = q := fun e => h (e.symm.trans hf)
      simp [look, h.symm, hq]
    · rw [if_neg hf]
      unfold setF at ih
      cases e : ixF r p with
      | none => rw [e] at ih; simp only [Option.map_none, List.cons_append, look]; simp only at ih; rw [ih]
      | some i => rw [e] at ih; simp only [Option.map_some, List.set_cons_succ, look]; simp only at ih; rw [ih]
theorem look_set (fs : Fs) (p d q : List UInt8) : look (setF fs p d) q = if q = p then some d else look fs q := by
  split
  · rename_i h; rw [h]; exact look_set_same fs p d
  · rename_i h; exact look_set_other fs p d q h
theorem setF_length (fs : Fs) (p d : List UInt8) : (setF fs p d).length ≤ fs.length + 1 := by
  unfold setF
  split <;> simp

/-- No more places than numbers. -/
theorem pigeon : ∀ (l s : List Nat), l.Nodup → (∀ x ∈ l, x ∈ s) → l.length ≤ s.length
  | [], s, _, _ => Nat.zero_le _
  | a :: r, s, hn, hs => by
    rw [List.nodup_cons] at hn
    have ha := hs a (by simp)
    have h := pigeon r (s.erase a) hn.2 (fun x hx => by
      have hne : x ≠ a := fun e => hn.1 (by rw [← e]; exact hx)
      exact (List.mem_erase_of_ne hne).2 (hs x (by simp [hx])))
    have hl := List.length_erase_of_mem ha
    have hp : 0 < s.length := List.length_pos_of_mem ha
    simp only [List.length_cons]
    omega
theorem pigeon_range (n : Nat) (s : List Nat) (h : ∀ j, j < n → j ∈ s) : n ≤ s.length := by
  have := pigeon (List.range n) s List.nodup_range (fun x hx => h x (List.mem_range.1 hx))
  simpa using this
end Go.Proofs.YtkjipfnibolboaaGreatDoor
