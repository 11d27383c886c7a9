
import Derived.Test.YtfgbghmefomolaaRefHash
import Derived.Test.YtfgbghmefomolaaNumWalks
namespace Go.Proofs.Ytfgbghmefomolaa
open Go.RowKit

/-- The bytes of texts. -/
def bys (ss : List ByteArray) : List (List UInt8) := ss.map fun s => s.data.toList
theorem bys_length (ss : List ByteArray) : (bys ss).length = ss.length := by simp [bys]
theorem bys_take (ss : List ByteArray) (k : Nat) : bys (ss.take k) = (bys ss).take k := by simp [bys]
theorem bys_drop (ss : List ByteArray) (k : Nat) : bys (ss.drop k) = (bys ss).drop k := by simp [bys]

set_option maxHeartbeats 1000000 in
theorem refRoot_none (f : Nat) (v : Value) (ss : List ByteArray) (w : World) (h0 : ss.length = 0) (h : Sss w v ss) :
    Calls Try.prog 9 #[v] w fun r w' => r = .returned (txt (rootF f (bys ss))) ∧ Below w.heap.size w w' := by
  obtain ⟨a, cap, rfl, hcap, -⟩ := h
  rw [rootF_nil f (bys ss) (by rw [bys_length]; exact h0), h0]
  clear hcap
  go_enter Try.func9, Try.ntmps9
  go_wp2_with fail
  refine (refHash_any _ _ (by decide)).mono ?_
  rintro r w' ⟨hr, hb⟩
  have hr' : r = .returned (txt (hash [])) := hr
  clear hr
  subst hr'
  go_wp2_with fail
  go_ret
  exact ⟨rfl, hb⟩

set_option maxHeartbeats 1000000 in
theorem refRoot_one (f : Nat) (v : Value) (ss : List ByteArray) (w : World) (h1 : ss.length = 1) (hl : ∀ s ∈ ss, s.size < maxLen) (h : Sss w v ss) :
    Calls Try.prog 9 #[v] w fun r w' => r = .returned (txt (rootF (f + 1) (bys ss))) ∧ Below w.heap.size w w' := by
  rw [rootF_one f (bys ss) (by rw [bys_length]; exact h1)]
  obtain ⟨s, rfl⟩ := List.length_eq_one_iff.1 h1
  obtain ⟨a, cap, rfl, hcap, h⟩ := h
  rcases h with h | ⟨b, off, rfl, hc⟩
  · simp at h
  have hx : w.cell? ⟨b, off, none⟩ = some (.string s) := hc 0 (by simp)
  have He := hide (hl s (by simp))
  clear hcap hc hl
  have eb : bys [s] = [s.data.toList] := rfl
  rw [eb]
  clear eb
  simp only [List.length_singleton, List.headD_cons] at *
  go_enter Try.func9, Try.ntmps9
  go_wp2_with fail
  refine (refLeaf_any s _ He.out).mono ?_
  rintro r w' ⟨rfl, hb⟩
  go_wp2_with fail
  go_ret
  exact ⟨rfl, hb⟩

set_option maxHeartbeats 1000000 in
theorem refRoot_more (f : Nat) (b off cap : Nat) (ss : List ByteArray) (w : World) (h2 : 2 ≤ ss.length) (hn : ss.length ≤ 1000000) (hcap : ss.length ≤ cap) (hl : ∀ s ∈ ss, s.size < maxLen) (h : Sss w (.slice (some ⟨b, off, none⟩) ss.length cap) ss)
    (ih : ∀ (v : Value) (ss : List ByteArray) (w : World), ss.length ≤ f → ss.length ≤ 1000000 → (∀ s ∈ ss, s.size < maxLen) → Sss w v ss → Calls Try.prog 9 #[v] w fun r w' => r = .returned (txt (rootF f (bys ss))) ∧ Below w.heap.size w w') (hf : ss.length ≤ f + 1) :
    Calls Try.prog 9 #[.slice (some ⟨b, off, none⟩) ss.length cap] w fun r w' => r = .returned (txt (rootF (f + 1) (bys ss))) ∧ Below w.heap.size w w' := by
  obtain ⟨k1, k2, k3⟩ := kOf_spec ss.length h2
  rw [rootF_more f (bys ss) (by rw [bys_length]; exact h2), bys_length, ← bys_take, ← bys_drop]
  have hk : kOf ss.length ≤ ss.length := by omega
  have Hl := hide hl
  have H := hide h
  have IH := hide ih
  have f1 : (ss.take (kOf ss.length)).length ≤ f := by simp; omega
  have f2 : (ss.drop (kOf ss.length)).length ≤ f := by simp; omega
  have f3 : (ss.take (kOf ss.length)).length ≤ 1000000 := by simp; omega
  have f4 : (ss.drop (kOf ss.length)).length ≤ 1000000 := by simp; omega
  have F := hide (And.intro f1 (And.intro f2 (And.intro f3 f4)))
  clear f1 f2 f3 f4
  have n1 : ((ss.length : Int) == 0) = false := beq_eq_false_iff_ne.2 (by omega)
  have n2 : ((ss.length : Int) == 1) = false := beq_eq_false_iff_ne.2 (by omega)
  clear hl h ih
  go_enter Try.func9, Try.ntmps9
  go_wp2_with fail
  refine (below_any ss.length _ h2 (Nat.le_trans hn (by decide))).mono ?_
  rintro e w' ⟨rfl, rfl⟩
  have c1 : (kOf ss.length : Int) ≤ (cap : Int) := by omega
  have c2 : (kOf ss.length : Int) ≤ (ss.length : Int) := by omega
  have c3 : (0 : Int) ≤ (kOf ss.length : Int) := by omega
  go_wp2_with fail
  refine (IH.out _ (ss.take (kOf ss.length)) _ F.out.1 F.out.2.2.1 (fun l hl => Hl.out l (List.mem_of_mem_take hl)) (by exact H.out.take _ hk)).mono ?_
  rintro e w1 ⟨rfl, hb1⟩
  have HB1 := hide hb1
  clear hb1
  go_wp2_with fail
  refine (IH.out _ (ss.drop (kOf ss.length)) _ F.out.2.1 F.out.2.2.2 (fun l hl => Hl.out l (List.mem_of_mem_drop hl)) (by exact (H.out.drop _ hk).below HB1.out)).mono ?_
  rintro e w2 ⟨rfl, hb2⟩
  have HB2 := hide (HB1.out.trans (hb2.mono HB1.out.size))
  clear hb2
  go_wp2_with fail
  refine (refNode_any _ _ _ (rootF_length _ _) (rootF_length _ _)).mono ?_
  rintro e w3 ⟨rfl, hb3⟩
  have HB3 := hide (HB2.out.trans (hb3.mono HB2.out.size))
  clear hb3
  go_wp2_with fail
  go_ret
  exact ⟨rfl, HB3.out⟩

theorem refRoot_any (f : Nat) : ∀ (v : Value) (ss : List ByteArray) (w : World), ss.length ≤ f → ss.length ≤ 1000000 → (∀ s ∈ ss, s.size < maxLen) → Sss w v ss →
    Calls Try.prog 9 #[v] w fun r w' => r = .returned (txt (rootF f (bys ss))) ∧ Below w.heap.size w w' := by
  induction f with
  | zero => exact fun v ss w hf _ _ h => refRoot_none 0 v ss w (by omega) h
  | succ f ih =>
    intro v ss w hf hn hl h
    by_cases h0 : ss.length = 0
    · exact refRoot_none _ v ss w h0 h
    by_cases h1 : ss.length = 1
    · exact refRoot_one f v ss w h1 hl h
    · have h' := h
      obtain ⟨a, cap, rfl, hcap, h⟩ := h
      rcases h with h | ⟨b, off, rfl, -⟩
      · exact absurd (by simp [h]) h0
      · exact refRoot_more f b off cap ss w (by omega) hn hcap hl h' ih hf
end Go.Proofs.Ytfgbghmefomolaa
