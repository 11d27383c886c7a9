
import Derived.Test.YtfgbghmefomolaaDoorRefNames
namespace Go.Proofs.YtfgbghmefomolaaDoor
open Go.RowKit
set_option maxRecDepth 100000

set_option maxHeartbeats 1000000 in
theorem refName_bad (l i w : Int) (hb : badName l i w) (W : World) :
    Calls Tryd.prog 8 #[.int .i64 l, .int .i64 i, .int .i64 w] W fun r w' => r = .returned (.string ⟨(nameF l i w).toArray⟩) ∧ Below W.heap.size W w' := by
  rw [nameF_bad hb]
  unfold badName at hb
  go_enter Tryd.func8, Tryd.ntmps8
  go_wp2_with fail
  all_goals first | (go_ret; exact ⟨rfl, Below.refl _ _⟩) | (exfalso; omega)

set_option maxHeartbeats 1000000 in
theorem refName_any (l i w : Int) (hi : i ≤ 9223372036854775807) (W : World) :
    Calls Tryd.prog 8 #[.int .i64 l, .int .i64 i, .int .i64 w] W fun r w' => r = .returned (.string ⟨(nameF l i w).toArray⟩) ∧ Below W.heap.size W w' := by
  by_cases hb : badName l i w
  · exact refName_bad l i w hb W
  have HN := hide (nameF_good hb)
  have hb' := hb
  unfold badName at hb'
  have n1 : ¬ l < -1 := by omega
  have n2 : ¬ 20 < l := by omega
  have n3 : ¬ i < 0 := by omega
  have n4 : ¬ w < 1 := by omega
  have n5 : ¬ 4 < w := by omega
  have hdi := dec_length_le i (by omega) hi
  have hdw := dec_length_le w (by omega) (by omega)
  clear hb hb'
  by_cases hl : l = -1
  · subst hl
    have Hh := hide headF_ent
    by_cases hw : w < 4
    · skip
      have Ht : Hid (tailF w = partF ++ dec w.toNat) := by show _ = _; unfold tailF; rw [if_pos hw]
      go_enter Tryd.func8, Tryd.ntmps8
      go_wp2_with fail
      refine (digits_any i (by omega) hi W).mono ?_
      rintro r w1 ⟨rfl, hb1⟩
      have HB1 : Hid (Below W.heap.size W w1) := hb1
      clear hb1
      generalize dec i.toNat = di at *
      have b1 : ¬ 9223372036854775807 < 8 + di.length := by omega
      go_wp2_with fail
      refine (digits_any w (by omega) (by omega) w1).mono ?_
      rintro r w2 ⟨rfl, hb2⟩
      have HB2 : Hid (Below W.heap.size W w2) := HB1.out.trans (hb2.mono HB1.out.size)
      clear hb2
      generalize dec w.toNat = dw at *
      have b2 : ¬ 9223372036854775807 < 8 + di.length + 3 := by omega
      have b3 : ¬ 9223372036854775807 < 8 + di.length + 3 + dw.length := by omega
      go_wp2_with fail
      go_ret
      refine ⟨?_, HB2.out⟩
      rw [HN.out, Hh.out, Ht.out]
      exact ret_txt (by unfold entF partF; apply ByteArray.ext; simp)
    · skip
      have Ht : Hid (tailF w = []) := by show _ = _; unfold tailF; rw [if_neg hw]
      go_enter Tryd.func8, Tryd.ntmps8
      go_wp2_with fail
      refine (digits_any i (by omega) hi W).mono ?_
      rintro r w1 ⟨rfl, hb1⟩
      have HB1 : Hid (Below W.heap.size W w1) := hb1
      clear hb1
      generalize dec i.toNat = di at *
      have b1 : ¬ 9223372036854775807 < 8 + di.length := by omega
      go_wp2_with fail
      go_ret
      refine ⟨?_, HB1.out⟩
      rw [HN.out, Hh.out, Ht.out]
      exact ret_txt (by unfold entF; apply ByteArray.ext; simp)
  · have Hh := hide (headF_tile l hl)
    have hdl := dec_length_le l (by omega) (by omega)
    have nl : 0 ≤ l := by omega
    by_cases hw : w < 4
    · skip
      have Ht : Hid (tailF w = partF ++ dec w.toNat) := by show _ = _; unfold tailF; rw [if_pos hw]
      go_enter Tryd.func8, Tryd.ntmps8
      go_wp2_with fail
      refine (digits_any l (by omega) (by omega) W).mono ?_
      rintro r w0 ⟨rfl, hb0⟩
      have HB0 := hide hb0
      clear hb0
      generalize dec l.toNat = dl at *
      have b0 : ¬ 9223372036854775807 < 5 + dl.length := by omega
      have b00 : ¬ 9223372036854775807 < 5 + dl.length + 1 := by omega
      go_wp2_with fail
      refine (digits_any i (by omega) hi w0).mono ?_
      rintro r w1 ⟨rfl, hb1⟩
      have HB1 : Hid (Below W.heap.size W w1) := HB0.out.trans (hb1.mono HB0.out.size)
      clear hb1
      generalize dec i.toNat = di at *
      have b1 : ¬ 9223372036854775807 < 5 + dl.length + 1 + di.length := by omega
      go_wp2_with fail
      refine (digits_any w (by omega) (by omega) w1).mono ?_
      rintro r w2 ⟨rfl, hb2⟩
      have HB2 : Hid (Below W.heap.size W w2) := HB1.out.trans (hb2.mono HB1.out.size)
      clear hb2
      generalize dec w.toNat = dw at *
      have b2 : ¬ 9223372036854775807 < 5 + dl.length + 1 + di.length + 3 := by omega
      have b3 : ¬ 9223372036854775807 < 5 + dl.length + 1 + di.length + 3 + dw.length := by omega
      go_wp2_with fail
      go_ret
      refine ⟨?_, HB2.out⟩
      rw [HN.out, Hh.out, Ht.out]
      exact ret_txt (by unfold tileF partF; apply ByteArray.ext; simp)
    · skip
      have Ht : Hid (tailF w = []) := by show _ = _; unfold tailF; rw [if_neg hw]
      go_enter Tryd.func8, Tryd.ntmps8
      go_wp2_with fail
      refine (digits_any l (by omega) (by omega) W).mono ?_
      rintro r w0 ⟨rfl, hb0⟩
      have HB0 := hide hb0
      clear hb0
      generalize dec l.toNat = dl at *
      have b0 : ¬ 9223372036854775807 < 5 + dl.length := by omega
      have b00 : ¬ 9223372036854775807 < 5 + dl.length + 1 := by omega
      go_wp2_with fail
      refine (digits_any i (by omega) hi w0).mono ?_
      rintro r w1 ⟨rfl, hb1⟩
      have HB1 : Hid (Below W.heap.size W w1) := HB0.out.trans (hb1.mono HB0.out.size)
      clear hb1
      generalize dec i.toNat = di at *
      have b1 : ¬ 9223372036854775807 < 5 + dl.length + 1 + di.length := by omega
      go_wp2_with fail
      go_ret
      refine ⟨?_, HB1.out⟩
      rw [HN.out, Hh.out, Ht.out]
      exact ret_txt (by unfold tileF; apply ByteArray.ext; simp)

theorem parseR_eq {p q s2 : List UInt8} {lv ix wd : Int} {ok2 : Bool} (h1 : levelR p = (lv, q, true)) (h2 : restR q = (ix, wd, s2, ok2)) :
    parseR p = if ok2 = true ∧ s2 = [] ∧ nameF lv ix wd = p ∧ p ≠ [] then (lv, ix, wd, true) else (0, 0, 0, false) := by
  unfold parseR
  rw [h1]
  simp only []
  rw [h2]
  simp only [true_and]
theorem parseR_no {p : List UInt8} (h : (levelR p).2.2 = false) : parseR p = (0, 0, 0, false) := by
  unfold parseR
  rw [if_neg]
  intro hc
  rw [h] at hc
  simp at hc

set_option maxHeartbeats 2000000 in
theorem refParse_any (p : List UInt8) (hp : p.length ≤ 1000000000) (w : World) :
    Calls Tryd.prog 10 #[.string ⟨p.toArray⟩] w fun r w' => r = .returned (.tuple (parseV (parseR p))) ∧ Below w.heap.size w w' := by
  have HL : Hid (levelR p = if (begF p entF).2 then ((-1 : Int), (begF p entF).1, true) else if (begF p tileF).2 then (if (numR (begF p tileF).1).2.2 then (((numR (begF p tileF).1).1 : Int), (begF (numR (begF p tileF).1).2.1 [47]).1, (begF (numR (begF p tileF).1).2.1 [47]).2) else (0, [], false)) else (0, [], false)) := rfl
  go_enter Tryd.func10, Tryd.ntmps10
  go_wp2_with fail
  refine (begins_any p entF w).mono ?_
  rintro r w1 ⟨rfl, hb1⟩
  have HB1 := hide hb1
  clear hb1
  have hbl1 := begF_len p entF
  generalize begF p entF = b1 at *
  obtain ⟨q, bo⟩ := b1
  simp only [] at HL hbl1 ⊢
  cases bo with
  | true =>
    have HLV : Hid (levelR p = (-1, q, true)) := HL.out
    have hq : q.length ≤ 1000000000 := by omega
    clear HL
    go_wp2_with fail
    refine (refNumber_any q hq w1).mono ?_
    rintro r w5 ⟨rfl, hb5⟩
    have HB5 : Hid (Below w.heap.size w w5) := HB1.out.trans (hb5.mono HB1.out.size)
    clear hb5
    have HRR : Hid (restR q = if (numR q).2.2 && (begF (numR q).2.1 partF).2 then (((numR q).1 : Int), ((numR (begF (numR q).2.1 partF).1).1 : Int), (numR (begF (numR q).2.1 partF).1).2.1, (numR (begF (numR q).2.1 partF).1).2.2) else (((numR q).1 : Int), (4 : Int), (numR q).2.1, (numR q).2.2)) := rfl
    have hnb := numR_bound q
    generalize numR q = nq at *
    obtain ⟨ix, s1, ok1⟩ := nq
    simp only [] at HRR hnb ⊢
    go_wp2_with fail
    refine (begins_any s1 partF w5).mono ?_
    rintro r w6 ⟨rfl, hb6⟩
    have HB6 : Hid (Below w.heap.size w w6) := HB5.out.trans (hb6.mono HB5.out.size)
    clear hb6
    have hbl := begF_len s1 partF
    generalize begF s1 partF = bp at *
    obtain ⟨p1, part⟩ := bp
    simp only [] at HRR hbl ⊢
    by_cases hpp : (ok1 && part) = true
    · obtain ⟨rfl, rfl⟩ : ok1 = true ∧ part = true := by simpa using hpp
      clear hpp
      simp only [Bool.and_self, if_true] at HRR
      go_wp2_with fail
      refine (refNumber_any p1 (by omega) w6).mono ?_
      rintro r w7 ⟨rfl, hb7⟩
      have HB7 : Hid (Below w.heap.size w w7) := HB6.out.trans (hb7.mono HB6.out.size)
      clear hb7
      have hnb2 := numR_bound p1
      generalize numR p1 = np at *
      obtain ⟨wd, s2, ok2⟩ := np
      simp only [] at HRR hnb2 ⊢
      have HP := hide (parseR_eq HLV.out HRR.out)
      go_wp2_with fail
      refine (refName_any (-1) ix (wd : Int) (by omega) w7).mono ?_
      rintro r w9 ⟨rfl, hb9⟩
      have HB9 : Hid (Below w.heap.size w w9) := HB7.out.trans (hb9.mono HB7.out.size)
      clear hb9
      generalize nameF (-1) ix (wd : Int) = nm at *
      cases ok2 with
      | false =>
        go_wp2_with fail
        refine bodyPost_ret (results_tmp4 Tryd.results10 _ _ _) rfl ?_
        exact ⟨by rw [HP.out, if_neg (by simp)]; rfl, HB9.out⟩
      | true =>
        cases s2 with
        | cons z zs =>
          go_wp2_with fail
          refine bodyPost_ret (results_tmp4 Tryd.results10 _ _ _) rfl ?_
          exact ⟨by rw [HP.out, if_neg (by simp)]; rfl, HB9.out⟩
        | nil =>
          by_cases hnm : nm = p
          · cases nm with
            | nil =>
              have hq1 : (([] : List UInt8) == p) = true := by rw [beq_iff_eq]; exact hnm
              have HN := hide hnm
              clear hnm
              go_wp2_with fail
              refine bodyPost_ret (results_tmp4 Tryd.results10 _ _ _) rfl ?_
              exact ⟨by rw [HP.out, if_neg (fun h => h.2.2.2 HN.out.symm)]; rfl, HB9.out⟩
            | cons y ys =>
              have hq1 : ((y :: ys) == p) = true := by rw [beq_iff_eq]; exact hnm
              have HN := hide hnm
              clear hnm
              go_wp2_with fail
              refine bodyPost_ret (results_tmp4 Tryd.results10 _ _ _) rfl ?_
              exact ⟨by rw [HP.out, if_pos ⟨by simp, by simp, HN.out, by rw [← HN.out]; simp⟩]; rfl, HB9.out⟩
          · have hq1 : (nm == p) = false := by rw [beq_eq_false_iff_ne]; exact hnm
            have HN := hide hnm
            clear hnm
            go_wp2_with fail
            refine bodyPost_ret (results_tmp4 Tryd.results10 _ _ _) rfl ?_
            exact ⟨by rw [HP.out, if_neg (fun h => HN.out h.2.2.1)]; rfl, HB9.out⟩
    · have HR2 : Hid (restR q = ((ix : Int), 4, s1, ok1)) := by
        show _ = _
        rw [HRR.out, if_neg hpp]
      have HP := hide (parseR_eq HLV.out HR2.out)
      clear HRR HR2
      cases ok1 with
      | false =>
        go_wp2_with fail
        refine (refName_any (-1) ix 4 (by omega) w6).mono ?_
        rintro r w9 ⟨rfl, hb9⟩
        have HB9 : Hid (Below w.heap.size w w9) := HB6.out.trans (hb9.mono HB6.out.size)
        clear hb9
        generalize nameF (-1) ix 4 = nm at *
        clear hpp
        go_wp2_with fail
        refine bodyPost_ret (results_tmp4 Tryd.results10 _ _ _) rfl ?_
        exact ⟨by rw [HP.out, if_neg (by simp)]; rfl, HB9.out⟩
      | true =>
        obtain rfl : part = false := by cases part <;> simp_all
        go_wp2_with fail
        refine (refName_any (-1) ix 4 (by omega) w6).mono ?_
        rintro r w9 ⟨rfl, hb9⟩
        have HB9 : Hid (Below w.heap.size w w9) := HB6.out.trans (hb9.mono HB6.out.size)
        clear hb9
        generalize nameF (-1) ix 4 = nm at *
        cases s1 with
        | cons z zs =>
          go_wp2_with fail
          refine bodyPost_ret (results_tmp4 Tryd.results10 _ _ _) rfl ?_
          exact ⟨by rw [HP.out, if_neg (by simp)]; rfl, HB9.out⟩
        | nil =>
          by_cases hnm : nm = p
          · cases nm with
            | nil =>
              have hq1 : (([] : List UInt8) == p) = true := by rw [beq_iff_eq]; exact hnm
              have HN := hide hnm
              clear hnm
              go_wp2_with fail
              refine bodyPost_ret (results_tmp4 Tryd.results10 _ _ _) rfl ?_
              exact ⟨by rw [HP.out, if_neg (fun h => h.2.2.2 HN.out.symm)]; rfl, HB9.out⟩
            | cons y ys =>
              have hq1 : ((y :: ys) == p) = true := by rw [beq_iff_eq]; exact hnm
              have HN := hide hnm
              clear hnm
              go_wp2_with fail
              refine bodyPost_ret (results_tmp4 Tryd.results10 _ _ _) rfl ?_
              exact ⟨by rw [HP.out, if_pos ⟨by simp, by simp, HN.out, by rw [← HN.out]; simp⟩]; rfl, HB9.out⟩
          · have hq1 : (nm == p) = false := by rw [beq_eq_false_iff_ne]; exact hnm
            have HN := hide hnm
            clear hnm
            go_wp2_with fail
            refine bodyPost_ret (results_tmp4 Tryd.results10 _ _ _) rfl ?_
            exact ⟨by rw [HP.out, if_neg (fun h => HN.out h.2.2.1)]; rfl, HB9.out⟩
  | false =>
    go_wp2_with fail
    refine (begins_any p tileF w1).mono ?_
    rintro r w2 ⟨rfl, hb2⟩
    have HB2 : Hid (Below w.heap.size w w2) := HB1.out.trans (hb2.mono HB1.out.size)
    clear hb2
    have hbl2 := begF_len p tileF
    generalize begF p tileF = b2 at *
    obtain ⟨t, to⟩ := b2
    simp only [] at HL hbl2 ⊢
    cases to with
    | false =>
      have HP := hide (parseR_no (by rw [HL.out]; rfl))
      clear HL
      go_wp2_with fail
      refine bodyPost_ret (results_tmp4 Tryd.results10 _ _ _) rfl ?_
      exact ⟨by rw [HP.out]; rfl, HB2.out⟩
    | true =>
      go_wp2_with fail
      refine (refNumber_any t (by omega) w2).mono ?_
      rintro r w3 ⟨rfl, hb3⟩
      have HB3 : Hid (Below w.heap.size w w3) := HB2.out.trans (hb3.mono HB2.out.size)
      clear hb3
      have hnt := numR_bound t
      generalize numR t = nt at *
      obtain ⟨lv, r1, no⟩ := nt
      simp only [] at HL hnt ⊢
      cases no with
      | false =>
        have HP := hide (parseR_no (by rw [HL.out]; rfl))
        clear HL
        go_wp2_with fail
        refine bodyPost_ret (results_tmp4 Tryd.results10 _ _ _) rfl ?_
        exact ⟨by rw [HP.out]; rfl, HB3.out⟩
      | true =>
        go_wp2_with fail
        refine (begins_any r1 [47] w3).mono ?_
        rintro r w4 ⟨rfl, hb4⟩
        have HB4 : Hid (Below w.heap.size w w4) := HB3.out.trans (hb4.mono HB3.out.size)
        clear hb4
        have hbl4 := begF_len r1 [47]
        generalize begF r1 [47] = b4 at *
        obtain ⟨q', so⟩ := b4
        simp only [] at HL hbl4 ⊢
        cases so with
        | false =>
          have HP := hide (parseR_no (by rw [HL.out]; rfl))
          clear HL
          go_wp2_with fail
          refine bodyPost_ret (results_tmp4 Tryd.results10 _ _ _) rfl ?_
          exact ⟨by rw [HP.out]; rfl, HB4.out⟩
        | true =>
          clear hbl1
          have HLV : Hid (levelR p = ((lv : Int), q', true)) := HL.out
          have hq : q'.length ≤ 1000000000 := by omega
          clear HL
          go_wp2_with fail
          refine (refNumber_any q' hq w4).mono ?_
          rintro r w5 ⟨rfl, hb5⟩
          have HB5 : Hid (Below w.heap.size w w5) := HB4.out.trans (hb5.mono HB4.out.size)
          clear hb5
          have HRR : Hid (restR q' = if (numR q').2.2 && (begF (numR q').2.1 partF).2 then (((numR q').1 : Int), ((numR (begF (numR q').2.1 partF).1).1 : Int), (numR (begF (numR q').2.1 partF).1).2.1, (numR (begF (numR q').2.1 partF).1).2.2) else (((numR q').1 : Int), (4 : Int), (numR q').2.1, (numR q').2.2)) := rfl
          have hnb := numR_bound q'
          generalize numR q' = nq at *
          obtain ⟨ix, s1, ok1⟩ := nq
          simp only [] at HRR hnb ⊢
          go_wp2_with fail
          refine (begins_any s1 partF w5).mono ?_
          rintro r w6 ⟨rfl, hb6⟩
          have HB6 : Hid (Below w.heap.size w w6) := HB5.out.trans (hb6.mono HB5.out.size)
          clear hb6
          have hbl := begF_len s1 partF
          generalize begF s1 partF = bp at *
          obtain ⟨p1, part⟩ := bp
          simp only [] at HRR hbl ⊢
          by_cases hpp : (ok1 && part) = true
          · obtain ⟨rfl, rfl⟩ : ok1 = true ∧ part = true := by simpa using hpp
            clear hpp
            simp only [Bool.and_self, if_true] at HRR
            go_wp2_with fail
            refine (refNumber_any p1 (by omega) w6).mono ?_
            rintro r w7 ⟨rfl, hb7⟩
            have HB7 : Hid (Below w.heap.size w w7) := HB6.out.trans (hb7.mono HB6.out.size)
            clear hb7
            have hnb2 := numR_bound p1
            generalize numR p1 = np at *
            obtain ⟨wd, s2, ok2⟩ := np
            simp only [] at HRR hnb2 ⊢
            have HP := hide (parseR_eq HLV.out HRR.out)
            go_wp2_with fail
            refine (refName_any (lv : Int) ix (wd : Int) (by omega) w7).mono ?_
            rintro r w9 ⟨rfl, hb9⟩
            have HB9 : Hid (Below w.heap.size w w9) := HB7.out.trans (hb9.mono HB7.out.size)
            clear hb9
            generalize nameF (lv : Int) ix (wd : Int) = nm at *
            cases ok2 with
            | false =>
              go_wp2_with fail
              refine bodyPost_ret (results_tmp4 Tryd.results10 _ _ _) rfl ?_
              exact ⟨by rw [HP.out, if_neg (by simp)]; rfl, HB9.out⟩
            | true =>
              cases s2 with
              | cons z zs =>
                go_wp2_with fail
                refine bodyPost_ret (results_tmp4 Tryd.results10 _ _ _) rfl ?_
                exact ⟨by rw [HP.out, if_neg (by simp)]; rfl, HB9.out⟩
              | nil =>
                by_cases hnm : nm = p
                · cases nm with
                  | nil =>
                    have hq1 : (([] : List UInt8) == p) = true := by rw [beq_iff_eq]; exact hnm
                    have HN := hide hnm
                    clear hnm
                    go_wp2_with fail
                    refine bodyPost_ret (results_tmp4 Tryd.results10 _ _ _) rfl ?_
                    exact ⟨by rw [HP.out, if_neg (fun h => h.2.2.2 HN.out.symm)]; rfl, HB9.out⟩
                  | cons y ys =>
                    have hq1 : ((y :: ys) == p) = true := by rw [beq_iff_eq]; exact hnm
                    have HN := hide hnm
                    clear hnm
                    go_wp2_with fail
                    refine bodyPost_ret (results_tmp4 Tryd.results10 _ _ _) rfl ?_
                    exact ⟨by rw [HP.out, if_pos ⟨by simp, by simp, HN.out, by rw [← HN.out]; simp⟩]; rfl, HB9.out⟩
                · have hq1 : (nm == p) = false := by rw [beq_eq_false_iff_ne]; exact hnm
                  have HN := hide hnm
                  clear hnm
                  go_wp2_with fail
                  refine bodyPost_ret (results_tmp4 Tryd.results10 _ _ _) rfl ?_
                  exact ⟨by rw [HP.out, if_neg (fun h => HN.out h.2.2.1)]; rfl, HB9.out⟩
          · have HR2 : Hid (restR q' = ((ix : Int), 4, s1, ok1)) := by
              show _ = _
              rw [HRR.out, if_neg hpp]
            have HP := hide (parseR_eq HLV.out HR2.out)
            clear HRR HR2
            cases ok1 with
            | false =>
              go_wp2_with fail
              refine (refName_any (lv : Int) ix 4 (by omega) w6).mono ?_
              rintro r w9 ⟨rfl, hb9⟩
              have HB9 : Hid (Below w.heap.size w w9) := HB6.out.trans (hb9.mono HB6.out.size)
              clear hb9
              generalize nameF (lv : Int) ix 4 = nm at *
              clear hpp
              go_wp2_with fail
              refine bodyPost_ret (results_tmp4 Tryd.results10 _ _ _) rfl ?_
              exact ⟨by rw [HP.out, if_neg (by simp)]; rfl, HB9.out⟩
            | true =>
              obtain rfl : part = false := by cases part <;> simp_all
              go_wp2_with fail
              refine (refName_any (lv : Int) ix 4 (by omega) w6).mono ?_
              rintro r w9 ⟨rfl, hb9⟩
              have HB9 : Hid (Below w.heap.size w w9) := HB6.out.trans (hb9.mono HB6.out.size)
              clear hb9
              generalize nameF (lv : Int) ix 4 = nm at *
              cases s1 with
              | cons z zs =>
                go_wp2_with fail
                refine bodyPost_ret (results_tmp4 Tryd.results10 _ _ _) rfl ?_
                exact ⟨by rw [HP.out, if_neg (by simp)]; rfl, HB9.out⟩
              | nil =>
                by_cases hnm : nm = p
                · cases nm with
                  | nil =>
                    have hq1 : (([] : List UInt8) == p) = true := by rw [beq_iff_eq]; exact hnm
                    have HN := hide hnm
                    clear hnm
                    go_wp2_with fail
                    refine bodyPost_ret (results_tmp4 Tryd.results10 _ _ _) rfl ?_
                    exact ⟨by rw [HP.out, if_neg (fun h => h.2.2.2 HN.out.symm)]; rfl, HB9.out⟩
                  | cons y ys =>
                    have hq1 : ((y :: ys) == p) = true := by rw [beq_iff_eq]; exact hnm
                    have HN := hide hnm
                    clear hnm
                    go_wp2_with fail
                    refine bodyPost_ret (results_tmp4 Tryd.results10 _ _ _) rfl ?_
                    exact ⟨by rw [HP.out, if_pos ⟨by simp, by simp, HN.out, by rw [← HN.out]; simp⟩]; rfl, HB9.out⟩
                · have hq1 : (nm == p) = false := by rw [beq_eq_false_iff_ne]; exact hnm
                  have HN := hide hnm
                  clear hnm
                  go_wp2_with fail
                  refine bodyPost_ret (results_tmp4 Tryd.results10 _ _ _) rfl ?_
                  exact ⟨by rw [HP.out, if_neg (fun h => HN.out h.2.2.1)]; rfl, HB9.out⟩
end Go.Proofs.YtfgbghmefomolaaDoor
