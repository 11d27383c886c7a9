
import Derived.Test.YtfgbghmefomolaaIncWalks
import Derived.Test.YtfgbghmefomolaaTreesWalk
namespace Go.Proofs.Ytfgbghmefomolaa
open Go.RowKit

theorem bys_c8 (ss : List ByteArray) : bys (ss.map c8) = ss.map fun s => e8 s.data.toList := by
  simp [bys, c8]
theorem len_c8 (ss : List ByteArray) : ∀ p ∈ bys (ss.map c8), p.length ≤ 8 := by
  rw [bys_c8]
  intro p hp
  obtain ⟨s, _, rfl⟩ := List.mem_map.1 hp
  exact Nat.le_of_eq (e8_length _)

set_option maxHeartbeats 1000000 in
theorem includes_any (leaf root : ByteArray) (i n : Int) (hn : n ≤ 9223372036854775807) (v : Value) (ss : List ByteArray) (w : World) (hm : ss.length ≤ maxLen) (hl : ∀ s ∈ ss, s.size ≤ maxLen) (h : Sss w v ss) :
    Calls Try.prog 4 #[.string leaf, .int .i64 i, .int .i64 n, v, .string root] w fun r w' => r = .returned (.bool true) ∧ Below w.heap.size w w' := by
  have H := hide h
  have Hm := hide hm
  have Hl := hide hl
  clear hl hm
  obtain ⟨a, cap, rfl, -, -⟩ := h
  cases hfew : fewB ss with
  | false =>
    have HF := hide hfew
    clear hfew
    go_enter Try.func4, Try.ntmps4
    go_wp2_with fail
    refine (few_any _ ss _ Hm.out Hl.out H.out).mono ?_
    rintro r w1 ⟨hr, rfl⟩
    rw [HF.out] at hr
    subst hr
    go_wp2_with fail
    go_ret
    exact ⟨rfl, Below.refl _ _⟩
  | true =>
    have HF := hide hfew
    obtain ⟨hn4, -⟩ := fewB_true hfew
    clear hfew
    go_enter Try.func4, Try.ntmps4
    go_wp2_with fail
    refine (few_any _ ss _ Hm.out Hl.out H.out).mono ?_
    rintro r w1 ⟨hr, rfl⟩
    rw [HF.out] at hr
    subst hr
    go_wp2_with fail
    refine (plainInc_any 5000 leaf root i n hn _ ss _ (by omega) (by omega) H.out).mono ?_
    rintro r w2 ⟨rfl, hb2⟩
    have HB2 := hide hb2
    clear hb2
    go_wp2_with fail
    refine (eight_any leaf _).mono ?_
    rintro r w3 ⟨rfl, hb3⟩
    have HB3 := hide (HB2.out.trans (hb3.mono HB2.out.size))
    clear hb3
    go_wp2_with fail
    refine (eight_any root _).mono ?_
    rintro r w4 ⟨rfl, hb4⟩
    have HB4 := hide (HB3.out.trans (hb4.mono HB3.out.size))
    clear hb4
    go_wp2_with fail
    refine (eights_any _ ss _ (by omega) (H.out.below HB4.out)).mono ?_
    rintro r w5 ⟨x, rfl, hb5, hx⟩
    have HB5 := hide (HB4.out.trans (hb5.mono HB4.out.size))
    have HX := hide hx
    clear hb5 hx
    go_wp2_with fail
    refine (refInc_any 5000 (e8 leaf.data.toList) (e8 root.data.toList) i n hn x (ss.map c8) _ (by rw [List.length_map]; omega) (by rw [List.length_map]; omega) (Nat.le_of_eq (e8_length _)) (len_c8 ss) HX.out).mono ?_
    rintro r w6 ⟨hr, hb6⟩
    rw [bys_c8] at hr
    subst hr
    have HB6 := hide (HB5.out.trans (hb6.mono HB5.out.size))
    clear hb6
    generalize incB 5000 (e8 leaf.data.toList) i n (ss.map fun s => e8 s.data.toList) (e8 root.data.toList) = B at *
    go_wp2_with fail
    go_ret
    exact ⟨by simp, HB6.out⟩
end Go.Proofs.Ytfgbghmefomolaa
