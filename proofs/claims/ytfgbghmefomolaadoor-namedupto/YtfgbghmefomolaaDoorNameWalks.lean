
import Derived.Test.YtfgbghmefomolaaDoorLibCalls
import Derived.Lib.ItoaLen
namespace Go.Proofs.YtfgbghmefomolaaDoor
open Go.RowKit
set_option maxRecDepth 100000

theorem dec_length_le (n : Int) (h0 : 0 ≤ n) (h1 : n ≤ 9223372036854775807) : (dec n.toNat).length ≤ 21 := by
  have := Lib.itoa_length_le n (by omega) h1
  rw [Lib.itoa, if_neg (by omega)] at this
  exact this
theorem txt_cat (a b : List UInt8) : (⟨a.toArray⟩ ++ ⟨b.toArray⟩ : ByteArray) = ⟨(a ++ b).toArray⟩ := by
  apply ByteArray.ext
  simp
theorem ret_txt {a b : ByteArray} (h : a = b) : Ending.returned (.string a) = .returned (.string b) := by rw [h]
theorem headF_len (l : Int) (h : l ≤ 20) : (headF l).length ≤ 40 := by
  unfold headF
  split
  · decide
  · have := dec_length_le (l.toNat : Int) (by omega) (by omega)
    rw [Int.toNat_natCast] at this
    simp [tileF]
    omega

set_option maxHeartbeats 1000000 in
theorem name_bad (l i w : Int) (hb : badName l i w) (W : World) :
    Calls Tryd.prog 17 #[.int .i64 l, .int .i64 i, .int .i64 w] W fun r w' => r = .returned (.string ⟨(nameF l i w).toArray⟩) ∧ Below W.heap.size W w' := by
  rw [nameF_bad hb]
  unfold badName at hb
  go_enter Tryd.func17, Tryd.ntmps17
  go_wp2_with fail
  all_goals first | (go_ret; exact ⟨rfl, Below.refl _ _⟩) | (exfalso; omega)

set_option maxHeartbeats 1000000 in
theorem name_any (l i w : Int) (hi : i ≤ 9223372036854775807) (W : World) (E : Env W) :
    Calls Tryd.prog 17 #[.int .i64 l, .int .i64 i, .int .i64 w] W fun r w' => r = .returned (.string ⟨(nameF l i w).toArray⟩) ∧ Below W.heap.size W w' := by
  by_cases hb : badName l i w
  · exact name_bad l i w hb W
  have HN := hide (nameF_good hb)
  have hb' := hb
  unfold badName at hb'
  have n1 : ¬ l < -1 := by omega
  have n2 : ¬ 20 < l := by omega
  have n3 : ¬ i < 0 := by omega
  have n4 : ¬ w < 1 := by omega
  have n5 : ¬ 4 < w := by omega
  have HE := hide E
  have hdi := dec_length_le i (by omega) hi
  have hdw := dec_length_le w (by omega) (by omega)
  clear hb hb' E
  by_cases hl : l = -1
  · subst hl
    have Hh := hide headF_ent
    by_cases hw : w < 4
    · skip
      have Ht : Hid (tailF w = partF ++ dec w.toNat) := by show _ = _; unfold tailF; rw [if_pos hw]
      go_enter Tryd.func17, Tryd.ntmps17
      go_wp2_with fail
      refine (itoa_call i (by omega) hi W HE.out).mono ?_
      rintro r w1 ⟨rfl, hb1⟩
      have HB1 : Hid (Below W.heap.size W w1) := hb1
      clear hb1
      generalize dec i.toNat = di at *
      have b1 : ¬ 9223372036854775807 < 8 + di.length := by omega
      go_wp2_with fail
      refine (itoa_call w (by omega) (by omega) w1 (HE.out.below HB1.out)).mono ?_
      rintro r w2 ⟨rfl, hb2⟩
      have HB2 : Hid (Below W.heap.size W w2) := HB1.out.trans (hb2.mono HB1.out.size)
      clear hb2
      generalize dec w.toNat = dw at *
      have b2 : ¬ 9223372036854775807 < 3 + dw.length := by omega
      have b3 : ¬ 9223372036854775807 < 8 + di.length + (3 + dw.length) := by omega
      go_wp2_with fail
      go_ret
      refine ⟨?_, HB2.out⟩
      rw [HN.out, Hh.out, Ht.out]
      exact ret_txt (by unfold entF partF; apply ByteArray.ext; simp)
    · skip
      have Ht : Hid (tailF w = []) := by show _ = _; unfold tailF; rw [if_neg hw]
      go_enter Tryd.func17, Tryd.ntmps17
      go_wp2_with fail
      refine (itoa_call i (by omega) hi W HE.out).mono ?_
      rintro r w1 ⟨rfl, hb1⟩
      have HB1 : Hid (Below W.heap.size W w1) := hb1
      clear hb1
      generalize dec i.toNat = di at *
      have b1 : ¬ 9223372036854775807 < 8 + di.length := by omega
      go_wp2_with fail
      go_ret
      refine ⟨?_, HB1.out⟩
      rw [HN.out, Hh.out, Ht.out]
      exact ret_txt (by unfold entF; apply ByteArray.ext; simp)
  · have Hh := hide (headF_tile l hl)
    have hdl := dec_length_le l (by omega) (by omega)
    have nl : (l != -1) = true := by rw [bne_iff_ne]; exact hl
    by_cases hw : w < 4
    · skip
      have Ht : Hid (tailF w = partF ++ dec w.toNat) := by show _ = _; unfold tailF; rw [if_pos hw]
      go_enter Tryd.func17, Tryd.ntmps17
      go_wp2_with fail
      refine (itoa_call l (by omega) (by omega) W HE.out).mono ?_
      rintro r w0 ⟨rfl, hb0⟩
      have HB0 := hide hb0
      clear hb0
      generalize dec l.toNat = dl at *
      have b0 : ¬ 9223372036854775807 < 5 + dl.length := by omega
      have b00 : ¬ 9223372036854775807 < 5 + dl.length + 1 := by omega
      go_wp2_with fail
      refine (itoa_call i (by omega) hi w0 (HE.out.below HB0.out)).mono ?_
      rintro r w1 ⟨rfl, hb1⟩
      have HB1 : Hid (Below W.heap.size W w1) := HB0.out.trans (hb1.mono HB0.out.size)
      clear hb1
      generalize dec i.toNat = di at *
      have b1 : ¬ 9223372036854775807 < 5 + dl.length + 1 + di.length := by omega
      go_wp2_with fail
      refine (itoa_call w (by omega) (by omega) w1 (HE.out.below HB1.out)).mono ?_
      rintro r w2 ⟨rfl, hb2⟩
      have HB2 : Hid (Below W.heap.size W w2) := HB1.out.trans (hb2.mono HB1.out.size)
      clear hb2
      generalize dec w.toNat = dw at *
      have b2 : ¬ 9223372036854775807 < 3 + dw.length := by omega
      have b3 : ¬ 9223372036854775807 < 5 + dl.length + 1 + di.length + (3 + dw.length) := by omega
      go_wp2_with fail
      go_ret
      refine ⟨?_, HB2.out⟩
      rw [HN.out, Hh.out, Ht.out]
      exact ret_txt (by unfold tileF partF; apply ByteArray.ext; simp)
    · skip
      have Ht : Hid (tailF w = []) := by show _ = _; unfold tailF; rw [if_neg hw]
      go_enter Tryd.func17, Tryd.ntmps17
      go_wp2_with fail
      refine (itoa_call l (by omega) (by omega) W HE.out).mono ?_
      rintro r w0 ⟨rfl, hb0⟩
      have HB0 := hide hb0
      clear hb0
      generalize dec l.toNat = dl at *
      have b0 : ¬ 9223372036854775807 < 5 + dl.length := by omega
      have b00 : ¬ 9223372036854775807 < 5 + dl.length + 1 := by omega
      go_wp2_with fail
      refine (itoa_call i (by omega) hi w0 (HE.out.below HB0.out)).mono ?_
      rintro r w1 ⟨rfl, hb1⟩
      have HB1 : Hid (Below W.heap.size W w1) := HB0.out.trans (hb1.mono HB0.out.size)
      clear hb1
      generalize dec i.toNat = di at *
      have b1 : ¬ 9223372036854775807 < 5 + dl.length + 1 + di.length := by omega
      go_wp2_with fail
      go_ret
      refine ⟨?_, HB1.out⟩
      rw [HN.out, Hh.out, Ht.out]
      exact ret_txt (by unfold tileF; apply ByteArray.ext; simp)
end Go.Proofs.YtfgbghmefomolaaDoor
