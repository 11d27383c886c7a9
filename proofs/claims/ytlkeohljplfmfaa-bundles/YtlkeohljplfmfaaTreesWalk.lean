
import Derived.Test.YtlkeohljplfmfaaSpoilWalks
import Derived.Test.YtlkeohljplfmfaaRootWalks
namespace Go.Proofs.Ytlkeohljplfmfaa
open Go.RowKit
set_option maxRecDepth 100000

/-- A call's result lies in a block that was made behind all that may have turned. -/
theorem Within.below {B : Nat} {w w1 w2 : World} {T : Nat} (h1 : Below B w w1) (h2 : Within B T w1 w2) : Below B w w2 :=
  ⟨h2.os.trans h1.os, h2.tape.trans h1.tape, h2.output.trans h1.output, by rw [h2.size]; exact h1.size, fun k hk => (h2.block k (.inl hk)).trans (h1.block k hk)⟩

def fewB (ss : List ByteArray) : Bool := decide (ss.length ≤ 4096) && ss.all fun s => decide (s.size ≤ 1048576)
theorem fewB_true {ss : List ByteArray} (h : fewB ss = true) : ss.length ≤ 4096 ∧ ∀ s ∈ ss, s.size ≤ 1048576 := by
  simp [fewB] at h; exact h
theorem fewB_mk {ss : List ByteArray} (h : ss.length ≤ 4096) (h' : ∀ j (hj : j < ss.length), ss[j].size ≤ 1048576) : fewB ss = true := by
  simp only [fewB, Bool.and_eq_true, decide_eq_true_eq, List.all_eq_true]
  refine ⟨h, fun s hs => ?_⟩
  obtain ⟨j, hj, rfl⟩ := List.getElem_of_mem hs
  exact h' j hj
theorem fewB_big {ss : List ByteArray} (h : 4096 < ss.length) : fewB ss = false := by
  simp [fewB]; omega
theorem fewB_long {ss : List ByteArray} (k : Nat) (hk : k < ss.length) (h : 1048576 < ss[k].size) : fewB ss = false := by
  simp only [fewB, Bool.and_eq_false_iff]
  right
  rw [List.all_eq_false]
  exact ⟨ss[k], List.getElem_mem hk, by simp; omega⟩

set_option maxHeartbeats 1000000 in
theorem few_any (v : Value) (ss : List ByteArray) (w : World) (hn : ss.length ≤ maxLen) (hl : ∀ s ∈ ss, s.size ≤ maxLen) (h : Sss w v ss) :
    Calls Try.prog 4 #[v] w fun r w' => r = .returned (.bool (fewB ss)) ∧ w' = w := by
  unfold maxLen at hn
  obtain ⟨a, cap, rfl, hcap, h'⟩ := h
  have Hc : Hid (ss.length = 0 ∨ ∃ b off, a = some ⟨b, off, none⟩ ∧ ∀ i (h : i < ss.length), w.cell? ⟨b, off + i, none⟩ = some (.string ss[i])) := by
    rcases h' with h | h
    · exact .inl (by simp [h])
    · exact .inr h
  have Hl := hide hl
  clear h' hl hcap
  by_cases hbig : 4096 < ss.length
  · rw [fewB_big hbig]
    go_enter Try.func4, Try.ntmps4
    go_wp2
    go_ret
    exact ⟨rfl, rfl⟩
  · go_enter Try.func4, Try.ntmps4
    go_wp2_with fail
    go_loop [3] (fun i => ∃ k : Nat, k ≤ ss.length ∧ i = .int .i64 k ∧ ∀ j (hj : j < ss.length), j < k → ss[j].size ≤ 1048576) (fun i => ss.length - (intOf i).toNat)
    case atStart => exact ⟨0, Nat.zero_le _, rfl, fun j _ hj => by omega⟩
    case round =>
      obtain ⟨k, hk, rfl, hj⟩ := hrel
      have Hj := hide hj
      clear hj
      by_cases hlt : k < ss.length
      · rcases Hc.out with h0 | ⟨b, off, rfl, hcell⟩
        · omega
        have hx := hcell k hlt
        clear hcell
        have hm := Hl.out ss[k] (List.getElem_mem hlt)
        unfold maxLen at hm
        by_cases hs : 1048576 < ss[k].size
        · have HR := hide (fewB_long k hlt hs)
          generalize ss[k] = s at *
          go_wp2
          go_ret
          exact ⟨by rw [HR.out]; rfl, rfl⟩
        · have HN : Hid (∀ j (hj : j < ss.length), j < k + 1 → ss[j].size ≤ 1048576) := fun j hjl hjk => by
            rcases Nat.lt_or_ge j k with h | h
            · exact Hj.out j hjl h
            · obtain rfl : j = k := by omega
              omega
          generalize ss[k] = s at *
          go_wp2
          go_round
          case rel => exact ⟨k + 1, by omega, by go_num, HN.out⟩
          case measure => simp [intOf]; omega
      · have HR := hide (fewB_mk (ss := ss) (by omega) (fun j hj => Hj.out j hj (by omega)))
        go_wp2
        go_ret
        exact ⟨by rw [HR.out]; rfl, rfl⟩

end Go.Proofs.Ytlkeohljplfmfaa
