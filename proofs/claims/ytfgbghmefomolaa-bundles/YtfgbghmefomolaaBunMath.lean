
import Derived.Test.YtfgbghmefomolaaBase
namespace Go.Proofs.Ytfgbghmefomolaa

/-- One entry in a bundle; some; are they a bundle? -/
def bun1 (l : List UInt8) : List UInt8 := UInt8.ofNat l.length :: l
def bunL (ls : List (List UInt8)) : List UInt8 := (ls.map bun1).flatten
def okB (ls : List (List UInt8)) : Bool := decide (1 ≤ ls.length) && (decide (ls.length ≤ 4) && ls.all fun l => decide (l.length ≤ 20))
/-- Bytes parted as a bundle is, of whatever number and lengths. -/
def unbN : Nat → List UInt8 → Option (List (List UInt8))
  | _, [] => some []
  | 0, _ :: _ => none
  | f + 1, c :: r => if c.toNat ≤ r.length then (unbN f (r.drop c.toNat)).map (r.take c.toNat :: ·) else none
def unb (d : List UInt8) : Option (List (List UInt8)) := unbN d.length d
theorem unbN_enough : ∀ (n f g : Nat) (d : List UInt8), d.length ≤ n → d.length ≤ f → d.length ≤ g → unbN f d = unbN g d := by
  intro n
  induction n with
  | zero =>
    intro f g d hd _ _
    obtain rfl : d = [] := List.length_eq_zero_iff.1 (by omega)
    cases f <;> cases g <;> rfl
  | succ n ih =>
    intro f g d hd hf hg
    cases d with
    | nil => cases f <;> cases g <;> rfl
    | cons c r =>
      simp only [List.length_cons] at hd hf hg
      obtain ⟨f, rfl⟩ : ∃ k, f = k + 1 := ⟨f - 1, by omega⟩
      obtain ⟨g, rfl⟩ : ∃ k, g = k + 1 := ⟨g - 1, by omega⟩
      have hl : (r.drop c.toNat).length ≤ r.length := by simp
      rw [unbN, unbN, ih f g (r.drop c.toNat) (by omega) (by omega) (by omega)]
theorem unb_nil : unb [] = some [] := rfl
theorem unb_fit (c : UInt8) (r : List UInt8) (h : c.toNat ≤ r.length) : unb (c :: r) = (unb (r.drop c.toNat)).map (r.take c.toNat :: ·) := by
  have hl : (r.drop c.toNat).length ≤ r.length := by simp
  show unbN (r.length + 1) (c :: r) = _
  rw [unbN, if_pos h, unbN_enough r.length r.length (r.drop c.toNat).length (r.drop c.toNat) hl hl (Nat.le_refl _)]
  rfl
theorem unb_not (c : UInt8) (r : List UInt8) (h : ¬ c.toNat ≤ r.length) : unb (c :: r) = none := by
  show unbN (r.length + 1) (c :: r) = _
  rw [unbN, if_neg h]
/-- The entries of a bundle. -/
def unbF (d : List UInt8) : Option (List (List UInt8)) := match unb d with
  | some ls => if okB ls then some ls else none
  | none => none

theorem bunL_append (a b : List (List UInt8)) : bunL (a ++ b) = bunL a ++ bunL b := by simp [bunL]
theorem bunL_one (l : List UInt8) : bunL [l] = bun1 l := by simp [bunL]
theorem bunL_len (ls : List (List UInt8)) (h : ∀ l ∈ ls, l.length ≤ 20) : (bunL ls).length ≤ 21 * ls.length := by
  induction ls with
  | nil => simp [bunL]
  | cons a t ih =>
    rw [show a :: t = [a] ++ t from rfl, bunL_append, bunL_one]
    have h1 := h a (by simp)
    have h2 := ih (fun l hl => h l (by simp [hl]))
    simp [bun1]
    omega
theorem unb_whole : ∀ (n : Nat) (d : List UInt8) (ls : List (List UInt8)), d.length ≤ n → unb d = some ls → bunL ls = d := by
  intro n
  induction n with
  | zero =>
    intro d ls hd h
    obtain rfl : d = [] := List.length_eq_zero_iff.1 (by omega)
    rw [unb_nil] at h
    obtain rfl : [] = ls := by simpa using h
    rfl
  | succ n ih =>
    intro d ls hd h
    cases d with
    | nil =>
      rw [unb_nil] at h
      obtain rfl : [] = ls := by simpa using h
      rfl
    | cons c r =>
      by_cases hc : c.toNat ≤ r.length
      · rw [unb_fit c r hc] at h
        obtain ⟨t, ht, rfl⟩ := Option.map_eq_some_iff.1 h
        have := ih (r.drop c.toNat) t (by simp at hd ⊢; omega) ht
        rw [show r.take c.toNat :: t = [r.take c.toNat] ++ t from rfl, bunL_append, bunL_one, this, bun1]
        have e : (r.take c.toNat).length = c.toNat := by simp; omega
        rw [e]
        simp
      · rw [unb_not c r hc] at h
        simp at h

/-- What is parted so far, and what is left. -/
def Un (d : List UInt8) (acc : List (List UInt8)) (r : List UInt8) : Prop := unb d = (unb r).map (acc ++ ·) ∧ acc.length + r.length ≤ d.length
theorem Un.start (d : List UInt8) : Un d [] d := ⟨by cases h : unb d <;> simp, by simp⟩
theorem Un.step {d : List UInt8} {acc : List (List UInt8)} {c : UInt8} {r : List UInt8} (h : Un d acc (c :: r)) (hc : c.toNat ≤ r.length) : Un d (acc ++ [r.take c.toNat]) (r.drop c.toNat) := by
  refine ⟨?_, ?_⟩
  · rw [h.1, unb_fit c r hc]
    cases unb (r.drop c.toNat) <;> simp
  · have := h.2
    simp at this ⊢
    omega
theorem Un.fail {d : List UInt8} {acc : List (List UInt8)} {c : UInt8} {r : List UInt8} (h : Un d acc (c :: r)) (hc : ¬ c.toNat ≤ r.length) : unbF d = none := by
  unfold unbF
  rw [h.1, unb_not c r hc]
  rfl
theorem Un.done {d : List UInt8} {acc : List (List UInt8)} (h : Un d acc []) : unb d = some acc := by
  rw [h.1, unb_nil]
  simp
theorem Un.many {d : List UInt8} {acc : List (List UInt8)} {c : UInt8} {r : List UInt8} (h : Un d acc (c :: r)) (h4 : 4 ≤ acc.length) : unbF d = none := by
  by_cases hc : c.toNat ≤ r.length
  · have := (h.step hc).1
    unfold unbF
    rw [this]
    cases unb (r.drop c.toNat) with
    | none => rfl
    | some t =>
      have : okB (acc ++ [r.take c.toNat] ++ t) = false := by
        unfold okB
        rw [show decide ((acc ++ [r.take c.toNat] ++ t).length ≤ 4) = false by simp; omega]
        simp
      simp only [Option.map_some]
      rw [this]
      rfl
  · exact h.fail hc
theorem Un.long {d : List UInt8} {acc : List (List UInt8)} {c : UInt8} {r : List UInt8} (h : Un d acc (c :: r)) (h20 : 20 < c.toNat) : unbF d = none := by
  by_cases hc : c.toNat ≤ r.length
  · have := (h.step hc).1
    unfold unbF
    rw [this]
    cases unb (r.drop c.toNat) with
    | none => rfl
    | some t =>
      have : okB (acc ++ [r.take c.toNat] ++ t) = false := by
        unfold okB
        have : (acc ++ [r.take c.toNat] ++ t).all (fun l => decide (l.length ≤ 20)) = false := by
          rw [List.all_append, List.all_append]
          have : ([r.take c.toNat]).all (fun l => decide (l.length ≤ 20)) = false := by simp; omega
          rw [this]
          simp
        rw [this]
        simp
      simp only [Option.map_some]
      rw [this]
      rfl
  · exact h.fail hc
theorem Un.end_ok {d : List UInt8} {acc : List (List UInt8)} (h : Un d acc []) (ho : okB acc = true) : unbF d = some acc ∧ bunL acc = d := by
  refine ⟨?_, unb_whole d.length d acc (Nat.le_refl _) h.done⟩
  unfold unbF
  rw [h.done]
  simp [ho]
theorem Un.end_not {d : List UInt8} {acc : List (List UInt8)} (h : Un d acc []) (ho : okB acc = false) : unbF d = none := by
  unfold unbF
  rw [h.done]
  simp [ho]
end Go.Proofs.Ytfgbghmefomolaa
