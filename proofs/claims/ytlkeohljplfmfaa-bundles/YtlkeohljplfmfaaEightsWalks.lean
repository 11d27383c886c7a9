
import Derived.Test.YtlkeohljplfmfaaEight
import Derived.Test.YtlkeohljplfmfaaEntWalks
import Derived.Test.YtlkeohljplfmfaaNodeWalks
namespace Go.Proofs.Ytlkeohljplfmfaa
open Go.RowKit
set_option maxRecDepth 100000

/-- A text cut to eight bytes. -/
def c8 (s : ByteArray) : ByteArray := ⟨(e8 s.data.toList).toArray⟩
def c8v (s : ByteArray) : Value := .string (c8 s)
theorem infoStr : (Try.prog.info? 9).map (fun i => (i.zero, i.size, i.bytes)) = some (some (.string ⟨#[]⟩), 1, 16) := by kernel_rfl
theorem Sss.of_owns {w : World} {B : Nat} {v : Value} {ts : List ByteArray} (h : w.ownsRow B 9 1 v ts.length (ts.map Value.string)) : Sss w v ts := by
  rcases h.2 with ⟨rfl, h0⟩ | ⟨g, cap, cur, rfl, hB, hg, hn, hm, hs, ht⟩
  · exact ⟨none, 0, by rw [h0], by rw [h0]; exact Nat.le_refl _, .inl (List.length_eq_zero_iff.1 h0)⟩
  · refine ⟨_, _, rfl, hn, .inr ⟨g, 0, rfl, fun i hi => ?_⟩⟩
    rw [Nat.zero_add, cell_of_row _ _ _ _ _ _ hg]
    have e : (cur.toList.take (ts.length * 1))[i]? = some (.string ts[i]) := by rw [ht]; simp [hi]
    rw [Nat.mul_one, List.getElem?_take, if_pos hi] at e
    simpa using e

/-- A slice of hashes in memory. -/
def Hss (w : World) (v : Value) (ps : List (List UInt8)) : Prop :=
  ∃ a cap, v = .slice a ps.length cap ∧ ps.length ≤ cap ∧ (∀ p ∈ ps, p.length = 8) ∧ (ps = [] ∨ ∃ b off, a = some ⟨b, off, none⟩ ∧ ∀ i (h : i < ps.length), w.rangeAt b (off + i * 8) (hv ps[i]).toList)
theorem rangeAt_below {w w' : World} {b o : Nat} {cs : List Value} (h : w.rangeAt b o cs) (hb : Below w.heap.size w w') : w'.rangeAt b o cs := fun j v hv => by
  have := h j v hv
  rw [hb.cell (cell_lt (p := ⟨b, o + j, none⟩) this)]; exact this
theorem Hss.below {w w' : World} {v : Value} {ps : List (List UInt8)} (h : Hss w v ps) (hb : Below w.heap.size w w') : Hss w' v ps := by
  obtain ⟨a, cap, rfl, hcap, h8, h⟩ := h
  refine ⟨a, cap, rfl, hcap, h8, ?_⟩
  rcases h with h | ⟨b, off, rfl, hc⟩
  · exact .inl h
  · exact .inr ⟨b, off, rfl, fun i hi => rangeAt_below (hc i hi) hb⟩
/-- The cells of hashes in a row. -/
def flat (ps : List (List UInt8)) : List Value := (ps.map fun p => (hv p).toList).flatten
theorem flat_length (ps : List (List UInt8)) (h : ∀ p ∈ ps, p.length = 8) : (flat ps).length = ps.length * 8 := by
  induction ps with
  | nil => rfl
  | cons p ps ih =>
    have h1 := h p (by simp)
    have h2 := ih (fun q hq => h q (by simp [hq]))
    simp only [flat, List.map_cons, List.flatten_cons, List.length_append, List.length_cons] at h2 ⊢
    rw [h2, Array.length_toList, hv_size, h1]; omega
theorem flat_at (ps : List (List UInt8)) (h : ∀ p ∈ ps, p.length = 8) (i j : Nat) (hi : i < ps.length) (hj : j < 8) : (flat ps)[i * 8 + j]? = (hv ps[i]).toList[j]? := by
  induction ps generalizing i with
  | nil => simp at hi
  | cons p ps ih =>
    have h1 := h p (by simp)
    have hl : (hv p).toList.length = 8 := by rw [Array.length_toList, hv_size, h1]
    cases i with
    | zero =>
      simp only [flat, List.map_cons, List.flatten_cons]
      rw [List.getElem?_append_left (by rw [hl]; omega)]
      simp
    | succ i =>
      have h2 := ih (fun q hq => h q (by simp [hq])) i (by simpa using hi)
      simp only [flat, List.map_cons, List.flatten_cons] at h2 ⊢
      rw [List.getElem?_append_right (by rw [hl]; omega), hl, show (i + 1) * 8 + j - 8 = i * 8 + j by omega, h2]
      simp
end Go.Proofs.Ytlkeohljplfmfaa
