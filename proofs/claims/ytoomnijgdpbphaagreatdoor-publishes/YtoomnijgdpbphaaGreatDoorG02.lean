import Derived.Test.YtoomnijgdpbphaaGreatDoorG01

namespace Go.Proofs.YtoomnijgdpbphaaGreatDoor

/-- Files: paths and contents. What stands at a path; where. -/
abbrev Fs := List (List UInt8 × List UInt8)
def look : Fs → List UInt8 → Option (List UInt8)
  | [], _ => none
  | f :: r, p => if f.1 = p then some f.2 else look r p
def ixF : Fs → List UInt8 → Option Nat
  | [], _ => none
  | f :: r, p => if f.1 = p then some 0 else (ixF r p).map (· + 1)
def setF (fs : Fs) (p d : List UInt8) : Fs := match ixF fs p with
  | some i => fs.set i (p, d)
  | none => fs ++ [(p, d)]
def Apart (fs : Fs) : Prop := (fs.map (·.1)).Nodup

theorem ixF_some : ∀ {fs : Fs} {p : List UInt8} {i : Nat}, ixF fs p = some i → ∃ h : i < fs.length, fs[i].1 = p ∧ look fs p = some fs[i].2 ∧ ∀ j (hj : j < i), (fs[j]'(by omega)).1 ≠ p
  | [], p, i, h => by simp [ixF] at h
  | f :: r, p, i, h => by
    unfold ixF at h
    by_cases hf : f.1 = p
    · rw [if_pos hf] at h
      obtain rfl : 0 = i := by simpa using h
      exact ⟨by simp, hf, by simp [look, hf], fun j hj => absurd hj (Nat.not_lt_zero _)⟩
    · rw [if_neg hf] at h
      obtain ⟨k, hk, rfl⟩ := Option.map_eq_some_iff.1 h
      obtain ⟨h1, h2, h3, h4⟩ := ixF_some hk
      refine ⟨by simp; omega, by simpa using h2, by simp [look, hf]; simpa using h3, fun j hj => ?_⟩
      cases j with
      | zero => simpa using hf
      | succ j => simpa using h4 j (by omega)
theorem ixF_none : ∀ {fs : Fs} {p : List UInt8}, ixF fs p = none → look fs p = none ∧ ∀ f ∈ fs, f.1 ≠ p
  | [], p, _ => ⟨rfl, fun f hf => by simp at hf⟩
  | f :: r, p, h => by
    unfold ixF at h
    by_cases hf : f.1 = p
    · rw [if_pos hf] at h; simp at h
    · rw [if_neg hf] at h
      have h' : ixF r p = none := by simpa using h
      obtain ⟨h1, h2⟩ := ixF_none h'
      exact ⟨by simp [look, hf, h1], fun g hg => by
        rcases List.mem_cons.1 hg with rfl | hg
        · exact hf
        · exact h2 g hg⟩
theorem ixF_of : ∀ {fs : Fs} {p : List UInt8} {i : Nat} (h : i < fs.length), fs[i].1 = p → (∀ j (hj : j < i), (fs[j]'(by omega)).1 ≠ p) → ixF fs p = some i
  | [], p, i, h, _, _ => by simp at h
  | f :: r, p, 0, _, h1, _ => by simp [ixF]; simpa using h1
  | f :: r, p, i + 1, h, h1, h2 => by
    have hf : f.1 ≠ p := by simpa using h2 0 (by omega)
    unfold ixF
    rw [if_neg hf, ixF_of (fs := r) (p := p) (i := i) (by simp at h; omega) (by simpa using h1) (fun j hj => by simpa using h2 (j + 1) (by omega))]
    rfl
theorem ixF_none_of {fs : Fs} {p : List UInt8} (h : ∀ f ∈ fs, f.1 ≠ p) : ixF fs p = none := by
  cases e : ixF fs p with
  | none => rfl
  | some i =>
    obtain ⟨h1, h2, _⟩ := ixF_some e
    exact absurd h2 (h _ (List.getElem_mem h1))
theorem look_none {fs : Fs} {p : List UInt8} : look fs p = none ↔ ∀ f ∈ fs, f.1 ≠ p := by
  refine ⟨fun h => ?_, fun h => (ixF_none (ixF_none_of h)).1⟩
  cases e : ixF fs p with
  | none => exact (ixF_none e).2
  | some i =>
    obtain ⟨h1, h2, h3, _⟩ := ixF_some e
    rw [h3] at h; simp at h
theorem look_mem {fs : Fs} {p d : List UInt8} (h : look fs p = some d) : (p, d) ∈ fs := by
  cases e : ixF fs p with
  | none => rw [(ixF_none e).1] at h; simp at h
  | some i =>
    obtain ⟨h1, h2, h3, _⟩ := ixF_some e
    rw [h3] at h
    obtain rfl : fs[i].2 = d := by simpa using h
    rw [← h2]
    exact List.getElem_mem h1
theorem mem_look : ∀ {fs : Fs} {p d : List UInt8}, Apart fs → (p, d) ∈ fs → look fs p = some d
  | [], p, d, _, h => by simp at h
  | f :: r, p, d, ha, h => by
    unfold Apart at ha
    simp only [List.map_cons, List.nodup_cons] at ha
    rcases List.mem_cons.1 h with rfl | h
    · simp [look]
    · have hf : f.1 ≠ p := fun e => ha.1 (by rw [e]; exact List.mem_map.2 ⟨_, h, rfl⟩)
      simp only [look, hf, if_false]
      exact mem_look ha.2 h
theorem look_perm {fs gs : Fs} (ha : Apart fs) (h : gs.Perm fs) (p : List UInt8) : look gs p = look fs p := by
  have hb : Apart gs := (List.Perm.nodup_iff (h.map _)).2 ha
  cases e : look fs p with
  | none =>
    rw [look_none] at e ⊢
    exact fun f hf => e f (h.mem_iff.1 hf)
  | some d => exact mem_look hb (h.mem_iff.2 (look_mem e))
theorem paths_set (fs : Fs) (p d : List UInt8) : (setF fs p d).map (·.1) = if ixF fs p = none then fs.map (·.1) ++ [p] else fs.map (·.1) := by
  unfold setF
  cases e : ixF fs p with
  | none => simp
  | some i =>
    obtain ⟨h1, h2, _⟩ := ixF_some e
    simp only [List.map_set, reduceCtorEq, if_false]
    rw [← h2]
    apply List.ext_getElem
    · simp
    · intro j hj hj'
      rw [List.getElem_set]
      split
      · rename_i hij; subst hij; simp
      · rfl
theorem Apart.set {fs : Fs} (h : Apart fs) (p d : List UInt8) : Apart (setF fs p d) := by
  unfold Apart at *
  rw [paths_set]
  split
  · rename_i e
    rw [List.nodup_append]
    refine ⟨h, by simp, fun a ha b hb => ?_⟩
    obtain rfl : b = p := by simpa using hb
    obtain ⟨f, hf, rfl⟩ := List.mem_map.1 ha
    exact (ixF_none e).2 f hf
  · exact h
theorem look_set_same (fs : Fs) (p d : List UInt8) : look (setF fs p d) p = some d := by
  have : ∀ fs : Fs, look (setF fs p d) p = some d := by
    intro fs
    induction fs with
    | nil => simp [setF, ixF, look]
    | cons f r ih =>
      unfold setF
      unfold ixF
      by_cases hf : f.1 = p
      · rw [if_pos hf]; simp [look]
      · rw [if_neg hf]
        unfold setF at ih
        cases e : ixF r p with
        | none => rw [e] at ih; simpa [look, hf] using ih
        | some i => rw [e] at ih; simpa [look, hf] using ih
  exact this fs
theorem look_set_other (fs : Fs) (p d q : List UInt8) (h : q ≠ p) : look (setF fs p d) q = look fs q := by
  induction fs with
  | nil => simp [setF, ixF, look, h.symm]
  | cons f r ih =>
    unfold setF
    unfold ixF
    by_cases hf : f.1 = p
    · rw [if_pos hf]
      have hq : ¬ f.1 = q := fun e => h (e.symm.trans hf)
      simp [look, h.symm, hq]
    · rw [if_neg hf]
      unfold setF at ih
      cases e : ixF r p with
      | none => rw [e] at ih; simp only [Option.map_none, List.cons_append, look]; simp only at ih; rw [ih]
      | some i => rw [e] at ih; simp only [Option.map_some, List.set_cons_succ, look]; simp only at ih; rw [ih]
theorem look_set (fs : Fs) (p d q : List UInt8) : look (setF fs p d) q = if q = p then some d else look fs q := by
  split
  · rename_i h; rw [h]; exact look_set_same fs p d
  · rename_i h; exact look_set_other fs p d q h
theorem setF_length (fs : Fs) (p d : List UInt8) : (setF fs p d).length ≤ fs.length + 1 := by
  unfold setF
  split <;> simp

/-- No more places than numbers. -/
theorem pigeon : ∀ (l s : List Nat), l.Nodup → (∀ x ∈ l, x ∈ s) → l.length ≤ s.length
  | [], s, _, _ => Nat.zero_le _
  | a :: r, s, hn, hs => by
    rw [List.nodup_cons] at hn
    have ha := hs a (by simp)
    have h := pigeon r (s.erase a) hn.2 (fun x hx => by
      have hne : x ≠ a := fun e => hn.1 (by rw [← e]; exact hx)
      exact (List.mem_erase_of_ne hne).2 (hs x (by simp [hx])))
    have hl := List.length_erase_of_mem ha
    have hp : 0 < s.length := List.length_pos_of_mem ha
    simp only [List.length_cons]
    omega
theorem pigeon_range (n : Nat) (s : List Nat) (h : ∀ j, j < n → j ∈ s) : n ≤ s.length := by
  have := pigeon (List.range n) s List.nodup_range (fun x hx => h x (List.mem_range.1 hx))
  simpa using this
end Go.Proofs.YtoomnijgdpbphaaGreatDoor

namespace Go.Proofs.YtoomnijgdpbphaaGreatDoor
open Go.RowKit

/-- A store: its files, and how it fails. -/
structure Dk where
  fs : Fs
  calls : Int
  failAt : Int
  dead : Bool
  once : Bool
  half : Bool
  hit : Bool
  turned : Bool

def nextC (d : Dk) : Int := wrap64 (d.calls + 1)
def enterK (d : Dk) : Int := if d.dead then 2 else if 0 < d.failAt ∧ nextC d = d.failAt then (if d.half then 1 else 2) else 0
def enterD (d : Dk) : Dk := if d.dead then { d with calls := nextC d } else if 0 < d.failAt ∧ nextC d = d.failAt then { d with calls := nextC d, dead := !d.once, hit := true } else { d with calls := nextC d }
def putE (d : Dk) (p x : List UInt8) : Bool := match look d.fs p with
  | some y => if y = x then decide (0 < enterK d) else true
  | none => decide (0 < enterK d)
def putD (d : Dk) (p x : List UInt8) : Dk := match look d.fs p with
  | some y => if y = x then (if enterK d < 2 then { enterD d with fs := setF d.fs p x } else enterD d) else { enterD d with turned := true }
  | none => if enterK d < 2 then { enterD d with fs := setF d.fs p x } else enterD d
def swapD (d : Dk) (p x : List UInt8) : Dk := if enterK d < 2 then { enterD d with fs := setF d.fs p x } else enterD d
def bad (d : Dk) : Bool := decide (0 < enterK d)

def Calm (d : Dk) : Prop := d.dead = false ∧ d.hit = false
theorem enterD_fs (d : Dk) : (enterD d).fs = d.fs := by unfold enterD; split <;> (try split) <;> rfl
theorem enterD_turned (d : Dk) : (enterD d).turned = d.turned := by unfold enterD; split <;> (try split) <;> rfl
/-- What a call of the store leaves: and, where none is to fail, that none has. -/
def tk (d : Dk) : Bool × Int × Bool × Bool := (d.turned, d.failAt, decide (d.failAt = 0) && d.dead, decide (d.failAt = 0) && d.hit)
theorem enterD_tk (d : Dk) : tk (enterD d) = tk d := by
  unfold enterD tk
  split
  · rfl
  · split
    · rename_i h
      have : ¬ d.failAt = 0 := by omega
      simp [this]
    · rfl
theorem tk_turned {d e : Dk} (h : tk d = tk e) : d.turned = e.turned := congrArg Prod.fst h
theorem tk_calm {d e : Dk} (h : tk d = tk e) (h0 : e.failAt = 0) (hh : e.hit = false) : d.hit = false := by
  unfold tk at h
  simp only [Prod.mk.injEq] at h
  obtain ⟨-, h1, -, h2⟩ := h
  rw [h1, h0, hh] at h2
  simpa using h2
theorem enterK_le (d : Dk) : 0 ≤ enterK d ∧ enterK d ≤ 2 := by
  unfold enterK
  split
  · omega
  · split
    · split <;> omega
    · omega
theorem calm_enter {d : Dk} (h : Calm d) : (enterK d = 0 ∧ Calm (enterD d)) ∨ (0 < enterK d ∧ (enterD d).hit = true) := by
  unfold enterK enterD Calm at *
  rw [h.1]
  simp only [Bool.false_eq_true, if_false]
  split
  · refine .inr ⟨?_, rfl⟩
    split <;> omega
  · exact .inl ⟨rfl, rfl, h.2⟩

def cpF : List UInt8 := [99, 104, 101, 99, 107, 112, 111, 105, 110, 116]

/-- What a Publish does to the files: some of what is wanted is put, the checkpoint is the new one. -/
def Went (want : Fs) (c : List UInt8) (fs fs' : Fs) : Prop :=
  ∀ q, look fs' q = look fs q ∨ (look fs q = none ∧ ∃ x, (q, x) ∈ want ∧ look fs' q = some x) ∨ (q = cpF ∧ look fs' q = some c)
theorem Went.refl (want : Fs) (c : List UInt8) (fs : Fs) : Went want c fs fs := fun _ => .inl rfl
theorem Went.trans {want : Fs} {c : List UInt8} {f g h : Fs} (a : Went want c f g) (b : Went want c g h) : Went want c f h := by
  intro q
  rcases a q with a | ⟨a0, x, hx, a⟩ | ⟨rfl, a⟩
  · rcases b q with b | ⟨b0, y, hy, b⟩ | b
    · exact .inl (b.trans a)
    · exact .inr (.inl ⟨a ▸ b0, y, hy, b⟩)
    · exact .inr (.inr b)
  · rcases b q with b | ⟨b0, y, hy, b⟩ | b
    · exact .inr (.inl ⟨a0, x, hx, b.trans a⟩)
    · rw [a] at b0; simp at b0
    · exact .inr (.inr b)
  · rcases b cpF with b | ⟨b0, y, hy, b⟩ | b
    · exact .inr (.inr ⟨rfl, b.trans a⟩)
    · rw [a] at b0; simp at b0
    · exact .inr (.inr b)
def NoClash (fs want : Fs) : Prop := ∀ q x, (q, x) ∈ want → look fs q = none ∨ look fs q = some x
def Fine (want : Fs) : Prop := (∀ q x y, (q, x) ∈ want → (q, y) ∈ want → x = y) ∧ ∀ x, (cpF, x) ∉ want
theorem NoClash.went {want : Fs} {c : List UInt8} {fs fs' : Fs} (hf : Fine want) (h : NoClash fs want) (w : Went want c fs fs') : NoClash fs' want := by
  intro q x hx
  rcases w q with e | ⟨_, y, hy, e⟩ | ⟨rfl, _⟩
  · rw [e]; exact h q x hx
  · rw [e, hf.1 q x y hx hy]; exact .inr rfl
  · exact absurd hx (hf.2 x)
theorem went_put {want : Fs} {c : List UInt8} {fs : Fs} {p x : List UInt8} (h : NoClash fs want) (hx : (p, x) ∈ want) : Went want c fs (setF fs p x) := by
  intro q
  rw [look_set]
  split
  · rename_i e
    subst e
    rcases h q x hx with h | h
    · exact .inr (.inl ⟨h, x, hx, rfl⟩)
    · exact .inl h.symm
  · exact .inl rfl
theorem went_swap (want : Fs) (c : List UInt8) (fs : Fs) : Went want c fs (setF fs cpF c) := by
  intro q
  rw [look_set]
  split
  · rename_i e; exact .inr (.inr ⟨e, rfl⟩)
  · exact .inl rfl
/-- What stays: a file that is wanted and there. -/
theorem Went.stays {want : Fs} {c : List UInt8} {fs fs' : Fs} (w : Went want c fs fs') {q x : List UInt8} (h : look fs q = some x) (hq : q ≠ cpF) : look fs' q = some x := by
  rcases w q with e | ⟨h0, _⟩ | ⟨e, _⟩
  · rw [e]; exact h
  · rw [h] at h0; simp at h0
  · exact absurd e hq

/-- Puts in a row, up to the first that fails. -/
def putsD : Fs → Dk → Option (List UInt8) × Dk
  | [], d => (none, d)
  | f :: r, d => if putE d f.1 f.2 then (some f.1, putD d f.1 f.2) else putsD r (putD d f.1 f.2)
def pubD (todo : Fs) (c : List UInt8) (d : Dk) : Option (List UInt8) × Dk := match putsD todo d with
  | (some p, d1) => (some p, d1)
  | (none, d1) => if bad d1 then (some cpF, swapD d1 cpF c) else (none, swapD d1 cpF c)
theorem putsD_append (a b : Fs) (d : Dk) : putsD (a ++ b) d = match putsD a d with
    | (some p, d1) => (some p, d1)
    | (none, d1) => putsD b d1 := by
  induction a generalizing d with
  | nil => rfl
  | cons f r ih =>
    simp only [List.cons_append, putsD]
    split
    · rfl
    · exact ih _

theorem put_one {want : Fs} {c : List UInt8} {d : Dk} {p x : List UInt8} (hc : Calm d) (ha : Apart d.fs) (ht : d.turned = false) (hn : NoClash d.fs want) (hx : (p, x) ∈ want) :
    Apart (putD d p x).fs ∧ (putD d p x).turned = false ∧ Went want c d.fs (putD d p x).fs ∧ ((putE d p x = false ∧ Calm (putD d p x) ∧ look (putD d p x).fs p = some x) ∨ (putE d p x = true ∧ (putD d p x).hit = true)) := by
  have hE : putE d p x = decide (0 < enterK d) := by
    unfold putE
    rcases hn p x hx with e | e <;> rw [e]
    simp
  have hD : putD d p x = if enterK d < 2 then { enterD d with fs := setF d.fs p x } else enterD d := by
    unfold putD
    rcases hn p x hx with e | e <;> rw [e]
    simp
  rw [hE, hD]
  rcases calm_enter hc with ⟨h0, h1⟩ | ⟨h0, h1⟩
  · rw [if_pos (by omega), h0]
    exact ⟨ha.set p x, by simpa [enterD_turned] using ht, went_put hn hx, .inl ⟨rfl, h1, look_set_same _ _ _⟩⟩
  · have hd : decide (0 < enterK d) = true := by simpa using h0
    rw [hd]
    split
    · exact ⟨ha.set p x, by simpa [enterD_turned] using ht, went_put hn hx, .inr ⟨rfl, h1⟩⟩
    · exact ⟨by rw [enterD_fs]; exact ha, by rw [enterD_turned]; exact ht, by rw [enterD_fs]; exact Went.refl _ _ _, .inr ⟨rfl, h1⟩⟩
theorem puts_many {want : Fs} {c : List UInt8} (hf : Fine want) : ∀ (todo : Fs) (d : Dk), Calm d → Apart d.fs → d.turned = false → NoClash d.fs want → (∀ f ∈ todo, f ∈ want) →
    Apart (putsD todo d).2.fs ∧ (putsD todo d).2.turned = false ∧ Went want c d.fs (putsD todo d).2.fs ∧
      (((putsD todo d).1 = none ∧ Calm (putsD todo d).2 ∧ ∀ f ∈ todo, look (putsD todo d).2.fs f.1 = some f.2) ∨ (∃ p x, (putsD todo d).1 = some p ∧ (p, x) ∈ want ∧ (putsD todo d).2.hit = true))
  | [], d, hc, ha, ht, _, _ => ⟨ha, ht, Went.refl _ _ _, .inl ⟨rfl, hc, fun f h => by simp at h⟩⟩
  | f :: r, d, hc, ha, ht, hn, hs => by
    have hx : (f.1, f.2) ∈ want := hs f (by simp)
    obtain ⟨a1, t1, w1, h1⟩ := put_one (c := c) hc ha ht hn hx
    unfold putsD
    rcases h1 with ⟨e, c1, l1⟩ | ⟨e, h1⟩
    · rw [if_neg (by rw [e]; simp)]
      obtain ⟨a2, t2, w2, h2⟩ := puts_many hf r (putD d f.1 f.2) c1 a1 t1 (hn.went hf w1) (fun g hg => hs g (by simp [hg]))
      refine ⟨a2, t2, w1.trans w2, ?_⟩
      rcases h2 with ⟨e2, c2, l2⟩ | h2
      · refine .inl ⟨e2, c2, fun g hg => ?_⟩
        rcases List.mem_cons.1 hg with rfl | hg
        · exact w2.stays l1 (fun e => hf.2 g.2 (by rw [← e]; exact hx))
        · exact l2 g hg
      · exact .inr h2
    · rw [if_pos e]
      exact ⟨a1, t1, w1, .inr ⟨f.1, f.2, rfl, hx, h1⟩⟩
/-- What a Publish comes to. -/
theorem pub_end {want todo : Fs} {c : List UInt8} {d : Dk} (hf : Fine want) (hc : Calm d) (ha : Apart d.fs) (ht : d.turned = false) (hn : NoClash d.fs want) (hs : ∀ f ∈ todo, f ∈ want) :
    Apart (pubD todo c d).2.fs ∧ (pubD todo c d).2.turned = false ∧ Went want c d.fs (pubD todo c d).2.fs ∧
      (((pubD todo c d).1 = none ∧ Calm (pubD todo c d).2 ∧ look (pubD todo c d).2.fs cpF = some c ∧ ∀ f ∈ todo, look (pubD todo c d).2.fs f.1 = some f.2) ∨
        ((∃ p, (pubD todo c d).1 = some p ∧ (p = cpF ∨ ∃ x, (p, x) ∈ want)) ∧ (pubD todo c d).2.hit = true)) := by
  obtain ⟨a1, t1, w1, h1⟩ := puts_many (c := c) hf todo d hc ha ht hn hs
  unfold pubD
  generalize putsD todo d = r at *
  obtain ⟨o, d1⟩ := r
  simp only at a1 t1 w1 h1
  rcases h1 with ⟨rfl, c1, l1⟩ | ⟨p, x, rfl, hx, h1⟩
  · simp only
    have hS : swapD d1 cpF c = if enterK d1 < 2 then { enterD d1 with fs := setF d1.fs cpF c } else enterD d1 := rfl
    have hB : bad d1 = decide (0 < enterK d1) := rfl
    rw [hB, hS]
    rcases calm_enter c1 with ⟨h0, h2⟩ | ⟨h0, h2⟩
    · rw [if_neg (by simp [h0]), if_pos (by omega)]
      refine ⟨a1.set _ _, by simpa [enterD_turned] using t1, w1.trans (went_swap _ _ _), .inl ⟨rfl, h2, look_set_same _ _ _, fun f hf' => ?_⟩⟩
      simp only
      rw [look_set_other]
      · exact l1 f hf'
      · exact fun e => hf.2 f.2 (by rw [← e]; exact hs f hf')
    · rw [if_pos (by simpa using h0)]
      simp only
      split
      · exact ⟨a1.set _ _, by simpa [enterD_turned] using t1, w1.trans (went_swap _ _ _), .inr ⟨⟨_, rfl, .inl rfl⟩, h2⟩⟩
      · exact ⟨by rw [enterD_fs]; exact a1, by rw [enterD_turned]; exact t1, by rw [enterD_fs]; exact w1, .inr ⟨⟨_, rfl, .inl rfl⟩, h2⟩⟩
  · exact ⟨a1, t1, w1, .inr ⟨⟨p, rfl, .inr ⟨x, hx⟩⟩, h1⟩⟩

/-- What the law asks. -/
def clashB (before want : Fs) : Bool := want.any fun f => match look before f.1 with
  | some y => decide (y ≠ f.2)
  | none => false
def keptB (before after want : Fs) (c : List UInt8) : Bool :=
  (before.all fun f => match look after f.1 with
    | some y => decide (y = f.2) || (decide (f.1 = cpF) && decide (y = c))
    | none => false) &&
  (after.all fun f => match look before f.1 with
    | some _ => true
    | none => (match look want f.1 with | some y => decide (f.2 = y) | none => false) || (decide (f.1 = cpF) && decide (f.2 = c)))
def thereB (after want : Fs) : Bool := want.all fun f => match look after f.1 with
  | some y => decide (y = f.2)
  | none => false
theorem clashB_false {before want : Fs} (h : clashB before want = false) : NoClash before want := by
  intro q x hx
  unfold clashB at h
  rw [List.any_eq_false] at h
  have := h (q, x) hx
  simp only at this
  cases e : look before q with
  | none => exact .inl rfl
  | some y => rw [e] at this; simp at this; rw [this]; exact .inr rfl
theorem keptB_true {b a fs fs' want : Fs} {c : List UInt8} (hb : b.Perm fs) (ha : a.Perm fs') (h1 : Apart fs) (h2 : Apart fs') (hf : Fine want) (w : Went want c fs fs') : keptB b a want c = true := by
  have lb := look_perm h1 hb
  have la := look_perm h2 ha
  unfold keptB
  rw [Bool.and_eq_true, List.all_eq_true, List.all_eq_true]
  refine ⟨fun f hf' => ?_, fun f hf' => ?_⟩
  · have e : look fs f.1 = some f.2 := mem_look h1 (hb.mem_iff.1 hf')
    rw [la]
    rcases w f.1 with e' | ⟨h0, _⟩ | ⟨ec, e'⟩
    · rw [e', e]; simp
    · rw [e] at h0; simp at h0
    · rw [e']; simp [ec]
  · have e : look fs' f.1 = some f.2 := mem_look h2 (ha.mem_iff.1 hf')
    rw [lb]
    rcases w f.1 with e' | ⟨h0, x, hx, e'⟩ | ⟨ec, e'⟩
    · rw [← e', e]
    · rw [h0]
      rw [e] at e'
      obtain hxe : f.2 = x := by simpa using e'
      have : look want f.1 = some x := by
        cases e2 : look want f.1 with
        | none => exact absurd rfl (look_none.1 e2 (f.1, x) hx)
        | some y => rw [hf.1 f.1 y x (look_mem e2) hx]
      simp [this, hxe]
    · rw [e] at e'
      obtain hxe : f.2 = c := by simpa using e'
      cases look fs f.1 <;> simp [ec, hxe]
theorem thereB_true {a fs' want : Fs} (ha : a.Perm fs') (h2 : Apart fs') (h : ∀ f ∈ want, look fs' f.1 = some f.2) : thereB a want = true := by
  unfold thereB
  rw [List.all_eq_true]
  intro f hf
  rw [look_perm h2 ha, h f hf]
  simp
end Go.Proofs.YtoomnijgdpbphaaGreatDoor

namespace Go.Proofs.YtoomnijgdpbphaaGreatDoor
open Go.RowKit
set_option maxRecDepth 100000

def txv (l : List UInt8) : Value := .string ⟨l.toArray⟩
def fcells (fs : Fs) : List Value := fs.flatMap fun f => [txv f.1, txv f.2]
def dcells (fv : Value) (d : Dk) : Array Value := #[fv, .int .i64 d.calls, .int .i64 d.failAt, .bool d.dead, .bool d.once, .bool d.half, .bool d.hit, .bool d.turned]
/-- A store, in memory. -/
def DiskAt (w : World) (O : Nat → Prop) (b : Nat) (d : Dk) : Prop :=
  ∃ fv, O b ∧ w.heap[b]? = some (.cells (dcells fv d) 69 (0, 0)) ∧ w.ownsRow 0 36 2 fv d.fs.length (fcells d.fs) ∧ ∀ g, fv.ownBlock = some g → O g
def dptr (b : Nat) : Value := .pointer (some ⟨b, 0, none⟩)
abbrev dT1 : List Nat := [69]
abbrev dT : List Nat := [69, 36]

theorem dcell {w : World} {b : Nat} {t : TypeId} {cs : Array Value} (h : w.heap[b]? = some (.cells cs t (0, 0))) : ∀ i v, cs[i]? = some v → w.cell? ⟨b, i, none⟩ = some v ∧ w.frozen? ⟨b, i, none⟩ = false := by
  intro i v hv
  refine ⟨by rw [cell_of_row _ _ _ _ _ _ h]; exact hv, by simp [World.frozen?, h]⟩
theorem dset {w : World} {b : Nat} {t : TypeId} {cs : Array Value} (h : w.heap[b]? = some (.cells cs t (0, 0))) (i : Nat) (v : Value) : (w.setCell ⟨b, i, none⟩ v).heap[b]? = some (.cells (cs.setIfInBounds i v) t (0, 0)) := heap_setCell_same w b i cs t v h
theorem dall {w : World} {b : Nat} {fv : Value} {d : Dk} (h : w.heap[b]? = some (.cells (dcells fv d) 69 (0, 0))) : (w.cell? ⟨b, 0, none⟩ = some fv ∧ w.frozen? ⟨b, 0, none⟩ = false) ∧ (w.cell? ⟨b, 1, none⟩ = some (.int .i64 d.calls) ∧ w.frozen? ⟨b, 1, none⟩ = false) ∧ (w.cell? ⟨b, 2, none⟩ = some (.int .i64 d.failAt) ∧ w.frozen? ⟨b, 2, none⟩ = false) ∧ (w.cell? ⟨b, 3, none⟩ = some (.bool d.dead) ∧ w.frozen? ⟨b, 3, none⟩ = false) ∧ (w.cell? ⟨b, 4, none⟩ = some (.bool d.once) ∧ w.frozen? ⟨b, 4, none⟩ = false) ∧ (w.cell? ⟨b, 5, none⟩ = some (.bool d.half) ∧ w.frozen? ⟨b, 5, none⟩ = false) ∧ (w.cell? ⟨b, 6, none⟩ = some (.bool d.hit) ∧ w.frozen? ⟨b, 6, none⟩ = false) ∧ (w.cell? ⟨b, 7, none⟩ = some (.bool d.turned) ∧ w.frozen? ⟨b, 7, none⟩ = false) :=
  ⟨dcell h 0 _ rfl, dcell h 1 _ rfl, dcell h 2 _ rfl, dcell h 3 _ rfl, dcell h 4 _ rfl, dcell h 5 _ rfl, dcell h 6 _ rfl, dcell h 7 _ rfl⟩
theorem DiskAt.turn {w w' : World} {O O' : Nat → Prop} {b : Nat} {d d' : Dk} {fv : Value} (hO : ∀ k, O k → O' k) (h : O b) (hf : w.ownsRow 0 36 2 fv d.fs.length (fcells d.fs)) (hg : ∀ g, fv.ownBlock = some g → O g)
    (ht : Turn O dT1 w w') (hb : w'.heap[b]? = some (.cells (dcells fv d') 69 (0, 0))) (hd : d'.fs = d.fs) : DiskAt w' O' b d' :=
  ⟨fv, hO b h, hb, by rw [hd]; exact ownsRow_turn hf ht (by decide), fun g hg' => hO g (hg g hg')⟩
theorem DiskAt.stay {w w' : World} {O O1 : Nat → Prop} {T : List Nat} {b : Nat} {d : Dk} (h : DiskAt w O b d) (ht : Turn O1 T w w') (h1 : 69 ∉ T) (h2 : 36 ∉ T) : DiskAt w' O b d := by
  obtain ⟨fv, a, hb, hf, hg⟩ := h
  exact ⟨fv, a, ht.keep hb h1, ownsRow_turn hf ht h2, hg⟩
theorem DiskAt.out {w w' : World} {O O1 : Nat → Prop} {T : List Nat} {b : Nat} {d : Dk} (h : DiskAt w O b d) (ht : Turn O1 T w w') (h1 : ∀ k, O k → ¬ O1 k) : DiskAt w' O b d := by
  obtain ⟨fv, a, hb, hf, hg⟩ := h
  exact ⟨fv, a, ht.stay hb (h1 b a), ownsRow_stay hf ht (fun g hg' => h1 g (hg g hg')), hg⟩
theorem DiskAt.mono {w : World} {O O' : Nat → Prop} {b : Nat} {d : Dk} (h : DiskAt w O b d) (hO : ∀ k, O k → O' k) : DiskAt w O' b d := by
  obtain ⟨fv, a, hb, hf, hg⟩ := h
  exact ⟨fv, hO b a, hb, hf, fun g e => hO g (hg g e)⟩

set_option maxHeartbeats 400000 in
theorem mend_any (O : Nat → Prop) (b : Nat) (d : Dk) (w : World) (h : DiskAt w O b d) :
    Calls Tryz.prog 23 #[dptr b] w fun r w' => r = .returned (.tuple #[]) ∧ Turn O dT1 w w' ∧ DiskAt w' O b { d with failAt := 0, dead := false, hit := false } := by
  obtain ⟨fv, hO, hb, hf, hg⟩ := h
  obtain ⟨⟨c0, f0⟩, ⟨c1, f1⟩, ⟨c2, f2⟩, ⟨c3, f3⟩, ⟨c4, f4⟩, ⟨c5, f5⟩, ⟨c6, f6⟩, ⟨c7, f7⟩⟩ := dall hb
  have HB := hide hb
  have HF := hide hf
  have HG := hide hg
  clear hb hf hg
  unfold dptr
  go_enter Tryz.func23, Tryz.ntmps23
  go_wp2_with fail
  go_end0
  have t1 := (Turn.refl O dT1 w).set (o := 2) (.inl hO) HB.out (by decide) (.int .i64 0)
  have h1 := dset HB.out 2 (.int .i64 0)
  have t2 := t1.set (o := 3) (.inl hO) h1 (by decide) (.bool false)
  have h2 := dset h1 3 (.bool false)
  have t3 := t2.set (o := 6) (.inl hO) h2 (by decide) (.bool false)
  have h3 := dset h2 6 (.bool false)
  exact ⟨rfl, t3, DiskAt.turn (d := d) (fun _ h => h) hO HF.out HG.out t3 h3 rfl⟩
set_option maxHeartbeats 400000 in
theorem hit_any (O : Nat → Prop) (b : Nat) (d : Dk) (w : World) (h : DiskAt w O b d) :
    Calls Tryz.prog 27 #[dptr b] w fun r w' => r = .returned (.bool d.hit) ∧ w' = w := by
  obtain ⟨fv, hO, hb, hf, hg⟩ := h
  obtain ⟨⟨c0, f0⟩, ⟨c1, f1⟩, ⟨c2, f2⟩, ⟨c3, f3⟩, ⟨c4, f4⟩, ⟨c5, f5⟩, ⟨c6, f6⟩, ⟨c7, f7⟩⟩ := dall hb
  clear hb hf hg
  unfold dptr
  go_enter Tryz.func27, Tryz.ntmps27
  go_wp2_with fail
  go_ret
  exact ⟨rfl, rfl⟩
set_option maxHeartbeats 400000 in
theorem fault_any (O : Nat → Prop) (b : Nat) (d : Dk) (w : World) (h : DiskAt w O b d) (n : Int) (half once : Bool) :
    Calls Tryz.prog 12 #[dptr b, .int .i64 n, .bool half, .bool once] w fun r w' => r = .returned (.tuple #[]) ∧ Turn O dT1 w w' ∧ DiskAt w' O b { d with failAt := wrap64 (d.calls + n), half := half, once := once, dead := false, hit := false } := by
  obtain ⟨fv, hO, hb, hf, hg⟩ := h
  obtain ⟨⟨c0, f0⟩, ⟨c1, f1⟩, ⟨c2, f2⟩, ⟨c3, f3⟩, ⟨c4, f4⟩, ⟨c5, f5⟩, ⟨c6, f6⟩, ⟨c7, f7⟩⟩ := dall hb
  have HB := hide hb
  have HF := hide hf
  have HG := hide hg
  clear hb hf hg
  unfold dptr
  go_enter Tryz.func12, Tryz.ntmps12
  go_wp2_with fail
  go_end0
  have t1 := (Turn.refl O dT1 w).set (o := 2) (.inl hO) HB.out (by decide) (.int .i64 (wrap64 (d.calls + n)))
  have h1 := dset HB.out 2 (.int .i64 (wrap64 (d.calls + n)))
  have t2 := t1.set (o := 5) (.inl hO) h1 (by decide) (.bool half)
  have h2 := dset h1 5 (.bool half)
  have t3 := t2.set (o := 4) (.inl hO) h2 (by decide) (.bool once)
  have h3 := dset h2 4 (.bool once)
  have t4 := t3.set (o := 3) (.inl hO) h3 (by decide) (.bool false)
  have h4 := dset h3 3 (.bool false)
  have t5 := t4.set (o := 6) (.inl hO) h4 (by decide) (.bool false)
  have h5 := dset h4 6 (.bool false)
  exact ⟨rfl, t5, DiskAt.turn (d := d) (fun _ h => h) hO HF.out HG.out t5 h5 rfl⟩
set_option maxHeartbeats 400000 in
theorem enter_any (O : Nat → Prop) (b : Nat) (d : Dk) (w : World) (h : DiskAt w O b d) :
    Calls Tryz.prog 185 #[dptr b] w fun r w' => r = .returned (.int .i64 (enterK d)) ∧ Turn O dT1 w w' ∧ DiskAt w' O b (enterD d) := by
  obtain ⟨fv, hO, hb, hf, hg⟩ := h
  obtain ⟨⟨c0, f0⟩, ⟨c1, f1⟩, ⟨c2, f2⟩, ⟨c3, f3⟩, ⟨c4, f4⟩, ⟨c5, f5⟩, ⟨c6, f6⟩, ⟨c7, f7⟩⟩ := dall hb
  have HF := hide hf
  have HG := hide hg
  unfold dptr
  obtain ⟨c, hc⟩ : ∃ c, wrap64 (d.calls + 1) = c := ⟨_, rfl⟩
  have HN : Hid (nextC d = c) := hc
  have t1 := hide ((Turn.refl O dT1 w).set (o := 1) (.inl hO) hb (by decide) (.int .i64 c))
  have h1 := hide (dset hb 1 (.int .i64 c))
  clear hb hf hg
  cases hd : d.dead with
  | true =>
    rw [hd] at c3
    have HR : Hid (enterK d = 2 ∧ enterD d = { d with calls := c }) := by unfold enterK enterD; rw [hd, HN.out]; exact ⟨rfl, rfl⟩
    clear hd
    go_enter Tryz.func185, Tryz.ntmps185
    go_wp2_with fail
    go_ret
    refine ⟨by rw [HR.out.1]; rfl, t1.out, ?_⟩
    rw [HR.out.2]
    exact DiskAt.turn (d := d) (fun _ h => h) hO HF.out HG.out t1.out h1.out rfl
  | false =>
    rw [hd] at c3
    have HE : ∀ n, Hid (((w.setCell ⟨b, 1, none⟩ (.int .i64 c)).drewN n).heap[b]? = some (.cells ((dcells fv d).setIfInBounds 1 (.int .i64 c)) 69 (0, 0))) := fun _ => h1.out
    by_cases hat : 0 < d.failAt ∧ c = d.failAt
    · have HR : Hid (enterK d = (if d.half then 1 else 2) ∧ enterD d = { d with calls := c, dead := !d.once, hit := true }) := by
        unfold enterK enterD
        rw [hd, HN.out]
        simp only [Bool.false_eq_true, if_false, if_pos hat]
        exact ⟨trivial, trivial⟩
      obtain ⟨p0, p1⟩ := hat
      have q1 : (c == d.failAt) = true := by simp [p1]
      clear hd p1
      cases hh : d.half with
      | true =>
        rw [hh] at c5 HR
        have HH := hide hh
        clear hh
        go_enter Tryz.func185, Tryz.ntmps185
        go_wp2_with fail
        go_quiet (fail)
        go_wp2_with fail
        go_ret
        have t2 := (t1.out.drewN nq).set (o := 3) (.inl hO) (HE nq).out (by decide) (.bool !d.once)
        have h2 := dset (HE nq).out 3 (.bool !d.once)
        have t3 := t2.set (o := 6) (.inl hO) h2 (by decide) (.bool true)
        have h3 := dset h2 6 (.bool true)
        refine ⟨by rw [HR.out.1]; rfl, t3, ?_⟩
        rw [HR.out.2]
        refine DiskAt.turn (d := d) (fun _ h => h) hO HF.out HG.out t3 ?_ rfl
        rw [h3]
        simp only [dcells, HH.out]
        rfl
      | false =>
        rw [hh] at c5 HR
        have HH := hide hh
        clear hh
        go_enter Tryz.func185, Tryz.ntmps185
        go_wp2_with fail
        go_quiet (fail)
        go_wp2_with fail
        go_ret
        have t2 := (t1.out.drewN nq).set (o := 3) (.inl hO) (HE nq).out (by decide) (.bool !d.once)
        have h2 := dset (HE nq).out 3 (.bool !d.once)
        have t3 := t2.set (o := 6) (.inl hO) h2 (by decide) (.bool true)
        have h3 := dset h2 6 (.bool true)
        refine ⟨by rw [HR.out.1]; rfl, t3, ?_⟩
        rw [HR.out.2]
        refine DiskAt.turn (d := d) (fun _ h => h) hO HF.out HG.out t3 ?_ rfl
        rw [h3]
        simp only [dcells, HH.out]
        rfl
    · have HR : Hid (enterK d = 0 ∧ enterD d = { d with calls := c }) := by
        unfold enterK enterD
        rw [hd, HN.out]
        simp only [Bool.false_eq_true, if_false, if_neg hat]
        exact ⟨trivial, trivial⟩
      have HDD := hide hd
      clear hd
      by_cases p0 : 0 < d.failAt
      · have q1 : (c == d.failAt) = false := by
          rw [beq_eq_false_iff_ne]
          exact fun e => hat ⟨p0, e⟩
        clear hat
        go_enter Tryz.func185, Tryz.ntmps185
        go_wp2_with fail
        go_quiet (fail)
        go_wp2_with fail
        go_ret
        refine ⟨by rw [HR.out.1]; rfl, t1.out.drewN nq, ?_⟩
        rw [HR.out.2]
        refine DiskAt.turn (d := d) (fun _ h => h) hO HF.out HG.out (t1.out.drewN nq) ?_ rfl
        rw [(HE nq).out]
        simp only [dcells, HDD.out]
        rfl
      · have q0 : decide (0 < d.failAt) = false := by simp; omega
        clear hat p0
        go_enter Tryz.func185, Tryz.ntmps185
        go_wp2_with fail
        go_quiet (fail)
        go_wp2_with fail
        go_ret
        refine ⟨by rw [HR.out.1]; rfl, t1.out.drewN nq, ?_⟩
        rw [HR.out.2]
        refine DiskAt.turn (d := d) (fun _ h => h) hO HF.out HG.out (t1.out.drewN nq) ?_ rfl
        rw [(HE nq).out]
        simp only [dcells, HDD.out]
        rfl
end Go.Proofs.YtoomnijgdpbphaaGreatDoor
