
import Derived.Test.YtfgbghmefomolaaDoorNameWalks
namespace Go.Proofs.YtfgbghmefomolaaDoor
open Go.RowKit
set_option maxRecDepth 100000

theorem trim_len (s p : List UInt8) : (Lib.trimPrefix s p).length ≤ s.length := by unfold Lib.trimPrefix; split <;> simp
theorem cutLevelF_yes {p : List UInt8} (h : Lib.hasPrefix p entF = true) : cutLevelF p = (-1, Lib.trimPrefix p entF, true) := by unfold cutLevelF; rw [if_pos h]
theorem cutLevelF_no {p : List UInt8} (h : Lib.hasPrefix p entF = false) : cutLevelF p = (numP (Lib.cut (Lib.trimPrefix p tileF) [47]).1, (Lib.cut (Lib.trimPrefix p tileF) [47]).2.1, Lib.hasPrefix p tileF) := by unfold cutLevelF; rw [if_neg (by simp [h])]
theorem cutLevelF_len (p : List UInt8) : (cutLevelF p).2.1.length ≤ p.length := by
  cases h : Lib.hasPrefix p entF with
  | true => rw [cutLevelF_yes h]; exact trim_len _ _
  | false => rw [cutLevelF_no h]; exact Nat.le_trans (cut_len _ _).2 (trim_len _ _)
theorem cutLevelF_bounds (p : List UInt8) : -9223372036854775808 ≤ (cutLevelF p).1 ∧ (cutLevelF p).1 ≤ 9223372036854775807 := by
  cases h : Lib.hasPrefix p entF with
  | true => rw [cutLevelF_yes h]; exact ⟨by show (-9223372036854775808 : Int) ≤ -1; decide, by show (-1 : Int) ≤ 9223372036854775807; decide⟩
  | false => rw [cutLevelF_no h]; exact numP_bounds _

set_option maxHeartbeats 1000000 in
theorem cutLevel_any (p : List UInt8) (hp : p.length ≤ 1000000000) (w : World) (E : Env w) :
    Calls Tryd.prog 30 #[.string ⟨p.toArray⟩] w fun r w' => r = .returned (.tuple #[.int .i64 (cutLevelF p).1, .string ⟨(cutLevelF p).2.1.toArray⟩, .bool (cutLevelF p).2.2]) ∧ Below w.heap.size w w' := by
  have HE := hide E
  clear E
  go_enter Tryd.func30, Tryd.ntmps30
  go_wp2_with fail
  refine (cutPrefix_call p entF w).mono ?_
  rintro r w0 ⟨rfl, rfl⟩
  cases h : Lib.hasPrefix p entF with
  | true =>
    have HR := hide (cutLevelF_yes h)
    clear h
    generalize Lib.trimPrefix p entF = q at *
    go_wp2_with fail
    go_ret3
    exact ⟨by rw [HR.out]; rfl, Below.refl _ _⟩
  | false =>
    have HR := hide (cutLevelF_no h)
    have hq := trim_len p tileF
    clear h
    generalize Lib.trimPrefix p entF = q0 at *
    go_wp2_with fail
    refine (cutPrefix_call p tileF w0).mono ?_
    rintro r w1 ⟨rfl, rfl⟩
    generalize Lib.trimPrefix p tileF = q at *
    generalize Lib.hasPrefix p tileF = b at *
    go_wp2_with fail
    refine (cut_call q [47] (by omega) w1 HE.out).mono ?_
    rintro r w2 ⟨rfl, hb2⟩
    have HB2 := hide hb2
    have hc := (cut_len q [47]).1
    clear hb2
    generalize Lib.cut q [47] = c at *
    obtain ⟨c1, c2, c3⟩ := c
    simp only [] at HR hc ⊢
    go_wp2_with fail
    refine (number_call c1 (by omega) w2 (HE.out.below HB2.out)).mono ?_
    rintro r w3 ⟨rfl, hb3⟩
    have HB3 : Hid (Below w1.heap.size w1 w3) := HB2.out.trans (hb3.mono HB2.out.size)
    clear hb3
    go_wp2_with fail
    go_ret3
    exact ⟨by rw [HR.out]; rfl, HB3.out⟩

theorem results_tmp4 {fn : Func} {t u v x : Tmp} (h : fn.results = #[.tmp t, .tmp u, .tmp v, .tmp x]) (tmps : Array Value) (P : Program) (w : World) :
    (results fn tmps).run P w = .ok (.tuple #[tmps.getD t undef, tmps.getD u undef, tmps.getD v undef, tmps.getD x undef]) w := by
  simp [results, h]
def parseV (x : Int × Int × Int × Bool) : Array Value := #[.int .i64 x.1, .int .i64 x.2.1, .int .i64 x.2.2.1, .bool x.2.2.2]

set_option maxHeartbeats 1000000 in
theorem parse_any (p : List UInt8) (hp : p.length ≤ 1000000000) (w : World) (E : Env w) :
    Calls Tryd.prog 19 #[.string ⟨p.toArray⟩] w fun r w' => r = .returned (.tuple (parseV (parseP p))) ∧ Below w.heap.size w w' := by
  have HE := hide E
  clear E
  have HP : Hid (parseP p = if (cutLevelF p).2.2 = true ∧ nameF (cutLevelF p).1 (numP (Lib.cut (cutLevelF p).2.1 partF).1) (widthP (Lib.cut (cutLevelF p).2.1 partF)) = p
    then ((cutLevelF p).1, numP (Lib.cut (cutLevelF p).2.1 partF).1, widthP (Lib.cut (cutLevelF p).2.1 partF), true) else (0, 0, 0, false)) := rfl
  go_enter Tryd.func19, Tryd.ntmps19
  go_wp2_with fail
  refine (cutLevel_any p hp w HE.out).mono ?_
  rintro r w1 ⟨rfl, hb1⟩
  have HB1 := hide hb1
  have hq := cutLevelF_len p
  have hlb := cutLevelF_bounds p
  clear hb1
  generalize cutLevelF p = cl at *
  obtain ⟨lv, q, ok⟩ := cl
  simp only [] at HP hq hlb ⊢
  go_wp2_with fail
  refine (cut_call q partF (by omega) w1 (HE.out.below HB1.out)).mono ?_
  rintro r w2 ⟨rfl, hb2⟩
  have HB2 : Hid (Below w.heap.size w w2) := HB1.out.trans (hb2.mono HB1.out.size)
  have hc := cut_len q partF
  clear hb2
  generalize Lib.cut q partF = c at *
  obtain ⟨c1, c2, c3⟩ := c
  simp only [] at HP hc ⊢
  go_wp2_with fail
  refine (number_call c1 (by omega) w2 (HE.out.below HB2.out)).mono ?_
  rintro r w3 ⟨rfl, hb3⟩
  have HB3 : Hid (Below w.heap.size w w3) := HB2.out.trans (hb3.mono HB2.out.size)
  have hn1 := numP_bounds c1
  clear hb3
  generalize numP c1 = ix at *
  cases c3 with
  | true =>
    have HW : Hid (widthP (c1, c2, true) = numP c2) := rfl
    rw [HW.out] at HP
    go_wp2_with fail
    refine (number_call c2 (by omega) w3 (HE.out.below HB3.out)).mono ?_
    rintro r w4 ⟨rfl, hb4⟩
    have HB4 : Hid (Below w.heap.size w w4) := HB3.out.trans (hb4.mono HB3.out.size)
    clear hb4 HW
    generalize numP c2 = wd at *
    cases ok with
    | false =>
      go_wp2_with fail
      refine bodyPost_ret (results_tmp4 Tryd.results19 _ _ _) rfl ?_
      exact ⟨by rw [HP.out, if_neg (by simp)]; rfl, HB4.out⟩
    | true =>
      go_wp2_with fail
      refine (name_any lv ix wd (by omega) w4 (HE.out.below HB4.out)).mono ?_
      rintro r w5 ⟨rfl, hb5⟩
      have HB5 : Hid (Below w.heap.size w w5) := HB4.out.trans (hb5.mono HB4.out.size)
      clear hb5
      generalize nameF lv ix wd = nm at *
      by_cases hnm : nm = p
      · have hq1 : (nm == p) = true := by rw [beq_iff_eq]; exact hnm
        have HN := hide hnm
        clear hnm
        go_wp2_with fail
        refine bodyPost_ret (results_tmp4 Tryd.results19 _ _ _) rfl ?_
        exact ⟨by rw [HP.out, if_pos ⟨by simp, HN.out⟩]; rfl, HB5.out⟩
      · have hq1 : (nm == p) = false := by rw [beq_eq_false_iff_ne]; exact hnm
        have HN := hide hnm
        clear hnm
        go_wp2_with fail
        refine bodyPost_ret (results_tmp4 Tryd.results19 _ _ _) rfl ?_
        exact ⟨by rw [HP.out, if_neg (fun h => HN.out h.2)]; rfl, HB5.out⟩
  | false =>
    have HW : Hid (widthP (c1, c2, false) = 4) := rfl
    rw [HW.out] at HP
    clear HW
    cases ok with
    | false =>
      go_wp2_with fail
      refine bodyPost_ret (results_tmp4 Tryd.results19 _ _ _) rfl ?_
      exact ⟨by rw [HP.out, if_neg (by simp)]; rfl, HB3.out⟩
    | true =>
      go_wp2_with fail
      refine (name_any lv ix 4 (by omega) w3 (HE.out.below HB3.out)).mono ?_
      rintro r w5 ⟨rfl, hb5⟩
      have HB5 : Hid (Below w.heap.size w w5) := HB3.out.trans (hb5.mono HB3.out.size)
      clear hb5
      generalize nameF lv ix 4 = nm at *
      by_cases hnm : nm = p
      · have hq1 : (nm == p) = true := by rw [beq_iff_eq]; exact hnm
        have HN := hide hnm
        clear hnm
        go_wp2_with fail
        refine bodyPost_ret (results_tmp4 Tryd.results19 _ _ _) rfl ?_
        exact ⟨by rw [HP.out, if_pos ⟨by simp, HN.out⟩]; rfl, HB5.out⟩
      · have hq1 : (nm == p) = false := by rw [beq_eq_false_iff_ne]; exact hnm
        have HN := hide hnm
        clear hnm
        go_wp2_with fail
        refine bodyPost_ret (results_tmp4 Tryd.results19 _ _ _) rfl ?_
        exact ⟨by rw [HP.out, if_neg (fun h => HN.out h.2)]; rfl, HB5.out⟩

theorem plainName_any (l i w : Int) (hi : i ≤ 9223372036854775807) (W : World) (E : Env W) :
    Calls Tryd.prog 7 #[.int .i64 l, .int .i64 i, .int .i64 w] W fun r w' => r = .returned (.string ⟨(nameF l i w).toArray⟩) ∧ Below W.heap.size W w' := by
  have HE := hide E
  clear E
  go_enter Tryd.func7, Tryd.ntmps7
  go_wp2_with fail
  refine (name_any l i w hi W HE.out).mono ?_
  rintro r w1 ⟨rfl, hb1⟩
  have HB1 := hide hb1
  clear hb1
  go_wp2_with fail
  go_ret
  exact ⟨rfl, HB1.out⟩

set_option maxHeartbeats 1000000 in
theorem plainParse_any (p : List UInt8) (hp : p.length ≤ 1000000000) (w : World) (E : Env w) :
    Calls Tryd.prog 9 #[.string ⟨p.toArray⟩] w fun r w' => r = .returned (.agg (parseV (parseP p))) ∧ Below w.heap.size w w' := by
  have HE := hide E
  clear E
  go_enter Tryd.func9, Tryd.ntmps9
  go_wp2_with fail
  refine (parse_any p hp _ (HE.out.below (below_alloc _ _))).mono ?_
  rintro r w1 ⟨rfl, hb1⟩
  have hb1' := hb1.block w.heap.size (by simp)
  rw [heap_alloc_last] at hb1'
  have HB1 : Hid (Below w.heap.size w w1) := (below_alloc w _).trans (hb1.mono (by simp))
  clear hb1
  have HG := hide hb1'
  clear hb1'
  generalize hx : parseP p = x at *
  have HX := hide hx
  clear hx
  obtain ⟨x1, x2, x3, x4⟩ := x
  unfold parseV
  simp only []
  go_wp2_with (show wpList _ _ _ ({ dst := none, op := Op.store _ _ _, type := _, pos := _, after := _, guard := _ } :: _) _ _; refine wpList_store_row rfl 25 _ _ rfl w.heap.size #[.int .i64 x1, .int .i64 x2, .int .i64 x3, .bool x4] rfl rfl 25 _ HG.out (by kernel_rfl) rfl (by simp [Value.oneCell']) ?_)
  refine bodyPost_ret (v := .agg #[.int .i64 x1, .int .i64 x2, .int .i64 x3, .bool x4]) (results_cell_row Tryd.results9 _ _ w.heap.size 25 _ (0, 0) _ rfl (setRow_heap _ _ _ _ _ _ HG.out) Tryd.underlying25 rfl (by kernel_rfl)) rfl ⟨by rw [HX.out]; rfl, ?_⟩
  exact below_setRow HB1.out (Nat.le_refl _) _
end Go.Proofs.YtfgbghmefomolaaDoor
