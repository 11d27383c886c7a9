
import Derived.Test.YtbjpjidliggdhaaDoorPlainPath
import Derived.Test.YtbjpjidliggdhaaDoorRefPath
import Derived.Test.YtbjpjidliggdhaaDoorTreesWalk
namespace Go.Proofs.YtbjpjidliggdhaaDoor
open Go.RowKit
set_option maxRecDepth 100000

def tx (p : List UInt8) : ByteArray := ⟨p.toArray⟩
theorem Sss.of_txt {w : World} {B : Nat} {v : Value} {ps : List (List UInt8)} (h : w.ownsRow B 9 1 v ps.length (ps.map txt)) : Sss w v (ps.map tx) := by
  refine Sss.of_owns (B := B) ?_
  have e : (ps.map tx).map Value.string = ps.map txt := by simp [tx, txt]
  rw [e, List.length_map]; exact h
set_option maxHeartbeats 1000000 in
theorem same_true (x y : Value) (ts : List ByteArray) (w : World) (hn : ts.length ≤ 1000000) (hx : Sss w x ts) (hy : Sss w y ts) :
    Calls Tryd.prog 10 #[x, y] w fun r w' => r = .returned (.bool true) ∧ Below w.heap.size w w' := by
  obtain ⟨a, cap, rfl, hcap, hx⟩ := hx
  obtain ⟨b, cap2, rfl, hcap2, hy⟩ := hy
  have HX := hide hx
  have HY := hide hy
  clear hx hy hcap hcap2
  go_enter Tryd.func10, Tryd.ntmps10
  go_wp2_with fail
  go_loopw [5] (fun i wr => ∃ k n : Nat, k ≤ ts.length ∧ i = .int .i64 k ∧ wr = w.drewN n) (fun i _ => ts.length - (intOf i).toNat)
  case atStart => exact ⟨0, 0, Nat.zero_le _, rfl, rfl⟩
  case round =>
    obtain ⟨k, n, hk, rfl, rfl⟩ := hrel
    by_cases hlt : k < ts.length
    · rcases HX.out with h0 | ⟨b1, off1, rfl, hc1⟩
      · simp [h0] at hlt
      rcases HY.out with h0 | ⟨b2, off2, rfl, hc2⟩
      · simp [h0] at hlt
      have h1 := hc1 k hlt
      have h2 := hc2 k hlt
      clear hc1 hc2
      go_wp2_with fail
      go_quiet (fail)
      go_wp2_with fail
      go_roundw
      case rel => exact ⟨k + 1, _, by omega, by go_num, rfl⟩
      case measure => simp [intOf]; omega
    · go_wp2_with fail
      go_ret
      exact ⟨rfl, below_drewN (Below.refl _ _) _⟩

set_option maxHeartbeats 1000000 in
theorem paths_few (v : Value) (ss : List ByteArray) (i m : Int) (w : World) (hn : ss.length ≤ maxLen) (hl : ∀ s ∈ ss, s.size ≤ maxLen) (h : Sss w v ss) (hf : fewB ss = false) :
    Calls Tryd.prog 3 #[v, .int .i64 i, .int .i64 m] w fun r w' => r = .returned (.bool true) ∧ Below w.heap.size w w' := by
  go_enter Tryd.func3, Tryd.ntmps3
  go_wp2_with fail
  refine (few_any v ss w hn hl h).mono ?_
  rintro r w' ⟨rfl, hw⟩
  rw [hw, hf]
  go_wp2_with fail
  go_ret
  exact ⟨rfl, Below.refl _ _⟩
theorem cell_next {w w' : World} {a : Addr} {v : Value} (h : w.cell? a = some v) (hb : Below w.heap.size w w') : w'.cell? a = some v := by
  rw [hb.cell (p := a) (cell_lt h)]; exact h
theorem told_cell (w : World) (n : Int) : (w.alloc (.cells #[.int .i64 n, .string ⟨#[]⟩] 25)).cell? ⟨w.heap.size, 0, none⟩ = some (.int .i64 n) := by
  rw [World.cell?_alloc_at _ _ _ _ rfl]; rfl

set_option maxHeartbeats 2000000 in
theorem paths_in_in (at_ : Nat → Addr) (v : Value) (ss : List ByteArray) (i m : Int) (w : World) (hs : Sents w at_) (h : Sss w v ss) (hf : fewB ss = true) (hi : 0 ≤ i ∧ i < (ss.length : Int)) (hm : 1 ≤ m ∧ m ≤ (ss.length : Int)) :
    Calls Tryd.prog 3 #[v, .int .i64 i, .int .i64 m] w fun r w' => r = .returned (.bool true) ∧ Below w.heap.size w w' := by
  obtain ⟨f1, f2⟩ := fewB_true hf
  have HF := hide f1
  have hf6 : Hid (4096 ≤ 1000000) := (by decide : 4096 ≤ 1000000)
  have HL : Hid (∀ s ∈ ss, s.size ≤ maxLen) := fun s hs => Nat.le_trans (f2 s hs) (by unfold maxLen; decide)
  have HL' : Hid (∀ s ∈ ss, s.size < maxLen) := fun s hs => Nat.lt_of_le_of_lt (f2 s hs) (by unfold maxLen; decide)
  have H := hide h
  have HS := hide hs
  have HI := hide hi
  have HM := hide hm
  have HN : Hid (ss.length ≤ 1000000) := Nat.le_trans f1 (by decide)
  have hfw := hide hf
  obtain ⟨a, cap, rfl, hcap, -⟩ := h
  clear f1 f2 hs hi hm hcap hf
  go_enter Tryd.func3, Tryd.ntmps3
  go_wp2_with fail
  refine (few_any _ ss w (Nat.le_trans HN.out (by unfold maxLen; decide)) HL.out H.out).mono ?_
  rintro r w' ⟨rfl, hw⟩
  rw [hw, hfw.out]
  clear hw w'
  go_wp2_with fail
  refine (ppath_in 4096 hf6.out at_ _ ss i w HS.out HF.out HL.out H.out HI.out.1 HI.out.2).mono ?_
  rintro r w1 ⟨x, rfl, hb1, ho1⟩
  have E1 := told_cell w1 0
  have HO1 := hide ho1
  clear ho1
  have HB1 := hide hb1
  have HE1 := hide E1
  clear hb1 E1
  unfold toldC
  go_wp2_with fail
  have HB1' := hide (HB1.out.trans ((below_alloc w1 (.cells #[.int .i64 0, .string ⟨#[]⟩] 25)).mono HB1.out.size))
  refine (ppart_in 4096 hf6.out at_ _ ss m _ (by exact HS.out.below HB1'.out) HF.out HL.out (by exact H.out.below HB1'.out) HM.out.1 HM.out.2).mono ?_
  rintro r w2 ⟨y, rfl, hb2, ho2⟩
  have E2 := told_cell w2 0
  have HO2 := hide ho2
  clear ho2
  have HE2 := hide E2
  have HB2 := hide hb2
  clear hb2 E2
  unfold toldC
  have HB2' := hide (HB2.out.trans ((below_alloc w2 (.cells #[.int .i64 0, .string ⟨#[]⟩] 25)).mono HB2.out.size))
  have HA := hide (HB1'.out.trans (HB2'.out.mono HB1'.out.size))
  have E1 := cell_next HE1.out HB2'.out
  have HX := hide (Sss.of_txt HO1.out)
  have HX2 := hide ((HX.out.below (below_alloc w1 _)).below HB2'.out)
  have i0 := HI.out.1
  have i1 := HI.out.2
  have HQ := hide (pathF_count 4096 (bys ss) i.toNat)
  have HE1' := hide E1
  clear E1
  go_wp2_with fail
  refine (rpath_any 4096 hf6.out _ ss i _ (by have := HI.out; omega) HF.out HI.out.1 HI.out.2 HL'.out (by exact H.out.below HA.out)).mono ?_
  rintro r w3 ⟨z, rfl, hb3, ho3⟩
  have HB3 := hide hb3
  have HO3 := hide ho3
  clear hb3 ho3
  go_wp2_with fail
  refine (same_true _ _ _ w3 (by rw [List.length_map]; exact Nat.le_trans HQ.out hf6.out) (HX2.out.below HB3.out) (Sss.of_txt HO3.out)).mono ?_
  rintro r w4 ⟨rfl, hb4⟩
  have HB4 := hide (HB3.out.trans (hb4.mono HB3.out.size))
  clear hb4
  have HA4 := hide (HA.out.trans (HB4.out.mono HA.out.size))
  have E1 := cell_next HE1'.out HB4.out
  have E2 := cell_next HE2.out HB4.out
  have HY0 := hide (Sss.of_txt HO2.out)
  have HY4 := hide ((HY0.out.below (below_alloc w2 _)).below HB4.out)
  have m0 := HM.out.1
  have m1 := HM.out.2
  have m0' : ¬ m < 1 := by omega
  have m1' : ¬ (ss.length : Int) < m := by omega
  have HP := hide (prtF_count 4096 m.toNat (bys ss) true)
  have HE2' := hide E2
  clear E2
  go_wp2_with fail
  refine (rpart_any 4096 hf6.out _ ss m true _ (by have := HM.out; omega) HF.out (by have := HM.out; omega) HM.out HL'.out (by exact H.out.below HA4.out)).mono ?_
  rintro r w5 ⟨u, rfl, hb5, ho5⟩
  have HB5 := hide hb5
  have HO5 := hide ho5
  clear hb5 ho5
  go_wp2_with fail
  refine (same_true _ _ _ w5 (by rw [List.length_map]; exact Nat.le_trans HP.out hf6.out) (HY4.out.below HB5.out) (Sss.of_txt HO5.out)).mono ?_
  rintro r w6 ⟨rfl, hb6⟩
  have HB6 := hide (HB5.out.trans (hb6.mono HB5.out.size))
  clear hb6
  have E2 := cell_next HE2'.out HB6.out
  go_wp2_with fail
  go_ret
  exact ⟨rfl, HA4.out.trans (HB6.out.mono HA4.out.size)⟩

set_option maxHeartbeats 2000000 in
theorem paths_in_out (at_ : Nat → Addr) (v : Value) (ss : List ByteArray) (i m : Int) (w : World) (hs : Sents w at_) (h : Sss w v ss) (hf : fewB ss = true) (hi : 0 ≤ i ∧ i < (ss.length : Int)) (hm : m < 1 ∨ (ss.length : Int) < m) :
    Calls Tryd.prog 3 #[v, .int .i64 i, .int .i64 m] w fun r w' => r = .returned (.bool true) ∧ Below w.heap.size w w' := by
  obtain ⟨f1, f2⟩ := fewB_true hf
  have HF := hide f1
  have hf6 : Hid (4096 ≤ 1000000) := (by decide : 4096 ≤ 1000000)
  have HL : Hid (∀ s ∈ ss, s.size ≤ maxLen) := fun s hs => Nat.le_trans (f2 s hs) (by unfold maxLen; decide)
  have HL' : Hid (∀ s ∈ ss, s.size < maxLen) := fun s hs => Nat.lt_of_le_of_lt (f2 s hs) (by unfold maxLen; decide)
  have H := hide h
  have HS := hide hs
  have HI := hide hi
  have HM := hide hm
  have HN : Hid (ss.length ≤ 1000000) := Nat.le_trans f1 (by decide)
  have hfw := hide hf
  obtain ⟨a, cap, rfl, hcap, -⟩ := h
  clear f1 f2 hs hi hm hcap hf
  go_enter Tryd.func3, Tryd.ntmps3
  go_wp2_with fail
  refine (few_any _ ss w (Nat.le_trans HN.out (by unfold maxLen; decide)) HL.out H.out).mono ?_
  rintro r w' ⟨rfl, hw⟩
  rw [hw, hfw.out]
  clear hw w'
  go_wp2_with fail
  refine (ppath_in 4096 hf6.out at_ _ ss i w HS.out HF.out HL.out H.out HI.out.1 HI.out.2).mono ?_
  rintro r w1 ⟨x, rfl, hb1, ho1⟩
  have E1 := told_cell w1 0
  have HO1 := hide ho1
  clear ho1
  have HB1 := hide hb1
  have HE1 := hide E1
  clear hb1 E1
  unfold toldC
  go_wp2_with fail
  have HB1' := hide (HB1.out.trans ((below_alloc w1 (.cells #[.int .i64 0, .string ⟨#[]⟩] 25)).mono HB1.out.size))
  refine (ppart_out at_ _ ss m _ (by exact HS.out.below HB1'.out) HN.out (by exact H.out.below HB1'.out) HM.out).mono ?_
  rintro r w2 ⟨ya, yc, rfl, hb2⟩
  have E2 := told_cell w2 2
  have HE2 := hide E2
  have HB2 := hide hb2
  clear hb2 E2
  unfold toldC
  have HB2' := hide (HB2.out.trans ((below_alloc w2 (.cells #[.int .i64 2, .string ⟨#[]⟩] 25)).mono HB2.out.size))
  have HA := hide (HB1'.out.trans (HB2'.out.mono HB1'.out.size))
  have E1 := cell_next HE1.out HB2'.out
  have HX := hide (Sss.of_txt HO1.out)
  have HX2 := hide ((HX.out.below (below_alloc w1 _)).below HB2'.out)
  have i0 := HI.out.1
  have i1 := HI.out.2
  have HQ := hide (pathF_count 4096 (bys ss) i.toNat)
  have HE1' := hide E1
  clear E1
  go_wp2_with fail
  refine (rpath_any 4096 hf6.out _ ss i _ (by have := HI.out; omega) HF.out HI.out.1 HI.out.2 HL'.out (by exact H.out.below HA.out)).mono ?_
  rintro r w3 ⟨z, rfl, hb3, ho3⟩
  have HB3 := hide hb3
  have HO3 := hide ho3
  clear hb3 ho3
  go_wp2_with fail
  refine (same_true _ _ _ w3 (by rw [List.length_map]; exact Nat.le_trans HQ.out hf6.out) (HX2.out.below HB3.out) (Sss.of_txt HO3.out)).mono ?_
  rintro r w4 ⟨rfl, hb4⟩
  have HB4 := hide (HB3.out.trans (hb4.mono HB3.out.size))
  clear hb4
  have HA4 := hide (HA.out.trans (HB4.out.mono HA.out.size))
  have E1 := cell_next HE1'.out HB4.out
  have E2 := cell_next HE2.out HB4.out
  have m0 : m < 1 ∨ ¬ m < 1 ∧ (ss.length : Int) < m := by have := HM.out; omega
  rcases m0 with m0 | ⟨m0, m1⟩
  all_goals
    go_wp2_with fail
    go_ret
    exact ⟨rfl, HA4.out⟩

set_option maxHeartbeats 2000000 in
theorem paths_out_in (at_ : Nat → Addr) (v : Value) (ss : List ByteArray) (i m : Int) (w : World) (hs : Sents w at_) (h : Sss w v ss) (hf : fewB ss = true) (hi : i < 0 ∨ (ss.length : Int) ≤ i) (hm : 1 ≤ m ∧ m ≤ (ss.length : Int)) :
    Calls Tryd.prog 3 #[v, .int .i64 i, .int .i64 m] w fun r w' => r = .returned (.bool true) ∧ Below w.heap.size w w' := by
  obtain ⟨f1, f2⟩ := fewB_true hf
  have HF := hide f1
  have hf6 : Hid (4096 ≤ 1000000) := (by decide : 4096 ≤ 1000000)
  have HL : Hid (∀ s ∈ ss, s.size ≤ maxLen) := fun s hs => Nat.le_trans (f2 s hs) (by unfold maxLen; decide)
  have HL' : Hid (∀ s ∈ ss, s.size < maxLen) := fun s hs => Nat.lt_of_le_of_lt (f2 s hs) (by unfold maxLen; decide)
  have H := hide h
  have HS := hide hs
  have HI := hide hi
  have HM := hide hm
  have HN : Hid (ss.length ≤ 1000000) := Nat.le_trans f1 (by decide)
  have hfw := hide hf
  obtain ⟨a, cap, rfl, hcap, -⟩ := h
  clear f1 f2 hs hi hm hcap hf
  go_enter Tryd.func3, Tryd.ntmps3
  go_wp2_with fail
  refine (few_any _ ss w (Nat.le_trans HN.out (by unfold maxLen; decide)) HL.out H.out).mono ?_
  rintro r w' ⟨rfl, hw⟩
  rw [hw, hfw.out]
  clear hw w'
  go_wp2_with fail
  refine (ppath_out at_ _ ss i w HS.out HN.out H.out HI.out).mono ?_
  rintro r w1 ⟨xa, xc, rfl, hb1⟩
  have E1 := told_cell w1 2
  have HB1 := hide hb1
  have HE1 := hide E1
  clear hb1 E1
  unfold toldC
  go_wp2_with fail
  have HB1' := hide (HB1.out.trans ((below_alloc w1 (.cells #[.int .i64 2, .string ⟨#[]⟩] 25)).mono HB1.out.size))
  refine (ppart_in 4096 hf6.out at_ _ ss m _ (by exact HS.out.below HB1'.out) HF.out HL.out (by exact H.out.below HB1'.out) HM.out.1 HM.out.2).mono ?_
  rintro r w2 ⟨y, rfl, hb2, ho2⟩
  have E2 := told_cell w2 0
  have HO2 := hide ho2
  clear ho2
  have HE2 := hide E2
  have HB2 := hide hb2
  clear hb2 E2
  unfold toldC
  have HB2' := hide (HB2.out.trans ((below_alloc w2 (.cells #[.int .i64 0, .string ⟨#[]⟩] 25)).mono HB2.out.size))
  have HA := hide (HB1'.out.trans (HB2'.out.mono HB1'.out.size))
  have E1 := cell_next HE1.out HB2'.out
  have HE1' := hide E1
  clear E1
  have E1 := HE1'.out
  have E2 := HE2.out
  have i0 : i < 0 ∨ ¬ i < 0 ∧ (ss.length : Int) ≤ i := by have := HI.out; omega
  have HY0 := hide (Sss.of_txt HO2.out)
  have HY4 := hide (HY0.out.below (below_alloc w2 (.cells #[.int .i64 0, .string ⟨#[]⟩] 25)))
  rcases i0 with i0 | ⟨i0, i1⟩
  all_goals
    have m0 := HM.out.1
    have m1 := HM.out.2
    have m0' : ¬ m < 1 := by omega
    have m1' : ¬ (ss.length : Int) < m := by omega
    have HP := hide (prtF_count 4096 m.toNat (bys ss) true)
    have HE2' := hide E2
    clear E2
    go_wp2_with fail
    refine (rpart_any 4096 hf6.out _ ss m true _ (by have := HM.out; omega) HF.out (by have := HM.out; omega) HM.out HL'.out (by exact H.out.below HA.out)).mono ?_
    rintro r w5 ⟨u, rfl, hb5, ho5⟩
    have HB5 := hide hb5
    have HO5 := hide ho5
    clear hb5 ho5
    go_wp2_with fail
    refine (same_true _ _ _ w5 (by rw [List.length_map]; exact Nat.le_trans HP.out hf6.out) (HY4.out.below HB5.out) (Sss.of_txt HO5.out)).mono ?_
    rintro r w6 ⟨rfl, hb6⟩
    have HB6 := hide (HB5.out.trans (hb6.mono HB5.out.size))
    clear hb6
    have E2 := cell_next HE2'.out HB6.out
    go_wp2_with fail
    go_ret
    exact ⟨rfl, HA.out.trans (HB6.out.mono HA.out.size)⟩

set_option maxHeartbeats 2000000 in
theorem paths_out_out (at_ : Nat → Addr) (v : Value) (ss : List ByteArray) (i m : Int) (w : World) (hs : Sents w at_) (h : Sss w v ss) (hf : fewB ss = true) (hi : i < 0 ∨ (ss.length : Int) ≤ i) (hm : m < 1 ∨ (ss.length : Int) < m) :
    Calls Tryd.prog 3 #[v, .int .i64 i, .int .i64 m] w fun r w' => r = .returned (.bool true) ∧ Below w.heap.size w w' := by
  obtain ⟨f1, f2⟩ := fewB_true hf
  have HF := hide f1
  have hf6 : Hid (4096 ≤ 1000000) := (by decide : 4096 ≤ 1000000)
  have HL : Hid (∀ s ∈ ss, s.size ≤ maxLen) := fun s hs => Nat.le_trans (f2 s hs) (by unfold maxLen; decide)
  have HL' : Hid (∀ s ∈ ss, s.size < maxLen) := fun s hs => Nat.lt_of_le_of_lt (f2 s hs) (by unfold maxLen; decide)
  have H := hide h
  have HS := hide hs
  have HI := hide hi
  have HM := hide hm
  have HN : Hid (ss.length ≤ 1000000) := Nat.le_trans f1 (by decide)
  have hfw := hide hf
  obtain ⟨a, cap, rfl, hcap, -⟩ := h
  clear f1 f2 hs hi hm hcap hf
  go_enter Tryd.func3, Tryd.ntmps3
  go_wp2_with fail
  refine (few_any _ ss w (Nat.le_trans HN.out (by unfold maxLen; decide)) HL.out H.out).mono ?_
  rintro r w' ⟨rfl, hw⟩
  rw [hw, hfw.out]
  clear hw w'
  go_wp2_with fail
  refine (ppath_out at_ _ ss i w HS.out HN.out H.out HI.out).mono ?_
  rintro r w1 ⟨xa, xc, rfl, hb1⟩
  have E1 := told_cell w1 2
  have HB1 := hide hb1
  have HE1 := hide E1
  clear hb1 E1
  unfold toldC
  go_wp2_with fail
  have HB1' := hide (HB1.out.trans ((below_alloc w1 (.cells #[.int .i64 2, .string ⟨#[]⟩] 25)).mono HB1.out.size))
  refine (ppart_out at_ _ ss m _ (by exact HS.out.below HB1'.out) HN.out (by exact H.out.below HB1'.out) HM.out).mono ?_
  rintro r w2 ⟨ya, yc, rfl, hb2⟩
  have E2 := told_cell w2 2
  have HE2 := hide E2
  have HB2 := hide hb2
  clear hb2 E2
  unfold toldC
  have HB2' := hide (HB2.out.trans ((below_alloc w2 (.cells #[.int .i64 2, .string ⟨#[]⟩] 25)).mono HB2.out.size))
  have HA := hide (HB1'.out.trans (HB2'.out.mono HB1'.out.size))
  have E1 := cell_next HE1.out HB2'.out
  have HE1' := hide E1
  clear E1
  have E1 := HE1'.out
  have E2 := HE2.out
  have i0 : i < 0 ∨ ¬ i < 0 ∧ (ss.length : Int) ≤ i := by have := HI.out; omega
  rcases i0 with i0 | ⟨i0, i1⟩
  all_goals
    have m0 : m < 1 ∨ ¬ m < 1 ∧ (ss.length : Int) < m := by have := HM.out; omega
    rcases m0 with m0 | ⟨m0, m1⟩
    all_goals
      go_wp2_with fail
      go_ret
      exact ⟨rfl, HA.out⟩

theorem paths_yes (at_ : Nat → Addr) (v : Value) (ss : List ByteArray) (i m : Int) (w : World) (hs : Sents w at_) (hn : ss.length ≤ maxLen) (hl : ∀ s ∈ ss, s.size ≤ maxLen) (h : Sss w v ss) :
    Calls Tryd.prog 3 #[v, .int .i64 i, .int .i64 m] w fun r w' => r = .returned (.bool true) ∧ Below w.heap.size w w' := by
  cases hf : fewB ss with
  | false => exact paths_few v ss i m w hn hl h hf
  | true =>
    by_cases hi : 0 ≤ i ∧ i < (ss.length : Int)
    · by_cases hm : 1 ≤ m ∧ m ≤ (ss.length : Int)
      · exact paths_in_in at_ v ss i m w hs h hf hi hm
      · exact paths_in_out at_ v ss i m w hs h hf hi (by omega)
    · by_cases hm : 1 ≤ m ∧ m ≤ (ss.length : Int)
      · exact paths_out_in at_ v ss i m w hs h hf (by omega) hm
      · exact paths_out_out at_ v ss i m w hs h hf (by omega) (by omega)
end Go.Proofs.YtbjpjidliggdhaaDoor
