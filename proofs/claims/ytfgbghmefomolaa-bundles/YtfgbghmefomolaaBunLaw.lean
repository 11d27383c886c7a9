
import Derived.Test.YtfgbghmefomolaaPlainUnb
import Derived.Test.YtfgbghmefomolaaSameTrue
namespace Go.Proofs.Ytfgbghmefomolaa
open Go.RowKit
set_option maxRecDepth 100000

set_option maxHeartbeats 1000000 in
theorem bundles_yes (v : Value) (ss : List ByteArray) (s : ByteArray) (w : World) (hn : ss.length ≤ maxLen) (hl : ∀ s ∈ ss, s.size ≤ maxLen) (hs : s.size ≤ maxLen) (h : Sss w v ss) :
    Calls Try.prog 6 #[v, .string s] w fun r w' => r = .returned (.bool true) ∧ Below w.heap.size w w' := by
  have H := hide h
  have Hn := hide hn
  have Hl := hide hl
  unfold maxLen at hs
  clear h hn hl
  go_enter Try.func6, Try.ntmps6
  go_wp2_with fail
  refine (few_any v ss w Hn.out Hl.out H.out).mono ?_
  rintro r w0 ⟨rfl, rfl⟩
  cases hf : fewB ss with
  | false =>
    go_wp2_with fail
    go_ret
    exact ⟨rfl, Below.refl _ _⟩
  | true =>
    obtain ⟨hf1, hf2⟩ := fewB_true hf
    by_cases hbig : 1048576 < s.size
    · have n1 : (1048576 : Int) < (s.size : Int) := by omega
      clear hf2
      go_wp2_with fail
      go_ret
      exact ⟨rfl, Below.refl _ _⟩
    · have n1 : ¬ (1048576 : Int) < (s.size : Int) := by omega
      have HF := hide hf2
      clear hf2
      go_wp2_with fail
      refine (plainBundle_any v ss w0 hf1 HF.out H.out).mono ?_
      rintro r w1 ⟨rfl, hb1⟩
      have HB1 := hide hb1
      clear hb1
      go_wp2_with fail
      refine (refBundle_any v ss w1 (by omega) HF.out (H.out.below HB1.out)).mono ?_
      rintro r w2 ⟨rfl, hb2⟩
      have HB2 : Hid (Below w0.heap.size w0 w2) := HB1.out.trans (hb2.mono HB1.out.size)
      clear hb2
      go_wp2_with fail
      refine (plainUnb_any s w2).mono ?_
      rintro r w3 ⟨x, rfl, hb3, hx⟩
      have HX := hide hx
      have HB3 : Hid (Below w0.heap.size w0 w3) := HB2.out.trans (hb3.mono HB2.out.size)
      clear hb3 hx
      go_wp2_with fail
      refine (refUnb_any s w3 (by omega)).mono ?_
      rintro r w4 ⟨y, rfl, hb4, hy⟩
      have HY := hide hy
      have HX4 := hide (HX.out.below hb4)
      have HB4 : Hid (Below w0.heap.size w0 w4) := HB3.out.trans (hb4.mono HB3.out.size)
      clear hb4 hy
      go_wp2_with fail
      refine (same_alike x y _ w4 (by rw [List.length_map]; have := unbF_small (d := s.data.toList); omega) HX4.out HY.out).mono ?_
      rintro r w5 ⟨rfl, hb5⟩
      have HB5 : Hid (Below w0.heap.size w0 w5) := HB4.out.trans (hb5.mono HB4.out.size)
      clear hb5
      unfold txt
      generalize bunT (bys ss) = m
      generalize (unbF s.data.toList).isSome = z
      cases okB (bys ss)
      all_goals cases z
      all_goals go_wp2_with fail
      all_goals go_ret
      all_goals exact ⟨by simp, HB5.out⟩
end Go.Proofs.Ytfgbghmefomolaa
