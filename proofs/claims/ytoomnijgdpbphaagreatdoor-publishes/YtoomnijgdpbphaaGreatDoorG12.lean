import Derived.Test.YtoomnijgdpbphaaGreatDoorG11

namespace Go.Proofs.YtoomnijgdpbphaaGreatDoor
open Go.RowKit
set_option maxRecDepth 100000

theorem trim_len (s p : List UInt8) : (Lib.trimPrefix s p).length ≤ s.length := by unfold Lib.trimPrefix; split <;> simp
theorem cutLevelF_yes {p : List UInt8} (h : Lib.hasPrefix p entF = true) : cutLevelF p = (-1, Lib.trimPrefix p entF, true) := by unfold cutLevelF; rw [if_pos h]
theorem cutLevelF_no {p : List UInt8} (h : Lib.hasPrefix p entF = false) : cutLevelF p = (numP (Lib.cut (Lib.trimPrefix p tileF) [47]).1, (Lib.cut (Lib.trimPrefix p tileF) [47]).2.1, Lib.hasPrefix p tileF) := by unfold cutLevelF; rw [if_neg (by simp [h])]
theorem cutLevelF_len (p : List UInt8) : (cutLevelF p).2.1.length ≤ p.length := by
  cases h : Lib.hasPrefix p entF with
  | true => rw [cutLevelF_yes h]; exact trim_len _ _
  | false => rw [cutLevelF_no h]; exact Nat.le_trans (cut_len _ _).2 (trim_len _ _)
theorem cutLevelF_bounds (p : List UInt8) : -9223372036854775808 ≤ (cutLevelF p).1 ∧ (cutLevelF p).1 ≤ 9223372036854775807 := by
  cases h : Lib.hasPrefix p entF with
  | true => rw [cutLevelF_yes h]; exact ⟨by show (-9223372036854775808 : Int) ≤ -1; decide, by show (-1 : Int) ≤ 9223372036854775807; decide⟩
  | false => rw [cutLevelF_no h]; exact numP_bounds _

theorem results_tmp4 {fn : Func} {t u v x : Tmp} (h : fn.results = #[.tmp t, .tmp u, .tmp v, .tmp x]) (tmps : Array Value) (P : Program) (w : World) :
    (results fn tmps).run P w = .ok (.tuple #[tmps.getD t undef, tmps.getD u undef, tmps.getD v undef, tmps.getD x undef]) w := by
  simp [results, h]
def parseV (x : Int × Int × Int × Bool) : Array Value := #[.int .i64 x.1, .int .i64 x.2.1, .int .i64 x.2.2.1, .bool x.2.2.2]

end Go.Proofs.YtoomnijgdpbphaaGreatDoor

namespace Go.Proofs.YtoomnijgdpbphaaGreatDoor
open Go.RowKit
set_option maxRecDepth 100000

set_option maxHeartbeats 1000000 in
theorem digits_any (n : Int) (h0 : 0 ≤ n) (h1 : n ≤ 9223372036854775807) (w : World) :
    Calls Tryz.prog 67 #[.int .i64 n] w fun r w' => r = .returned (.string ⟨(dec n.toNat).toArray⟩) ∧ Below w.heap.size w w' := by
  have HL := hide (dec_length_le n h0 h1)
  go_enter Tryz.func67, Tryz.ntmps67
  go_wp2_with fail
  go_loopw [0, 3] (fun t u wr => ∃ (m : Nat) (tl : List UInt8), t = .int .i64 m ∧ u = .string ⟨tl.toArray⟩ ∧ m ≤ 9223372036854775807 ∧ dec n.toNat = dec m ++ tl ∧ Below w.heap.size w wr) (fun t _ _ => (intOf t).toNat)
  case atStart => exact ⟨n.toNat, [], by rw [show ((n.toNat : Nat) : Int) = n by omega], rfl, by omega, by simp, Below.refl _ _⟩
  case round =>
    obtain ⟨m, tl, rfl, rfl, hm, hd, hbe⟩ := hrel
    have HD := hide hd
    have HB := hide hbe
    have htl : tl.length ≤ 21 := by have := HL.out; rw [hd, List.length_append] at this; omega
    clear hd hbe
    have b1 : ¬ 9223372036854775807 < 1 + tl.length := by omega
    by_cases h9 : m < 10
    · have hwr : IntKind.u8.wrap (48 + (m : Int)) = 48 + (m : Int) := by rw [IntKind.wrap_u8]; omega
      have hcv := conv_row (wr.alloc (.cells #[.int .u8 (48 + (m : Int))] 5)) wr.heap.size 1 1 [UInt8.ofNat (48 + m)] 5 (0, 0) rfl (by rw [heap_alloc_last]; simp [hv, bv]; omega)
      unfold txt at hcv
      go_wp2_with fail
      go_ret
      refine ⟨?_, HB.out.trans ((below_alloc wr _).mono HB.out.size)⟩
      rw [HD.out, dec_one h9]
      exact ret_txt (by apply ByteArray.ext; simp)
    · have hwr : IntKind.u8.wrap (48 + (m : Int) % 10) = 48 + (m : Int) % 10 := by rw [IntKind.wrap_u8]; omega
      have hcv := conv_row (wr.alloc (.cells #[.int .u8 (48 + (m : Int) % 10)] 5)) wr.heap.size 1 1 [UInt8.ofNat (48 + m % 10)] 5 (0, 0) rfl (by rw [heap_alloc_last]; simp [hv, bv]; omega)
      unfold txt at hcv
      go_wp2_with fail
      refine ⟨⟨m / 10, UInt8.ofNat (48 + m % 10) :: tl, by congr 1, ?_, by omega, ?_, HB.out.trans ((below_alloc wr _).mono HB.out.size)⟩, by simp [intOf]; omega⟩
      · congr 1
        apply ByteArray.ext
        simp
      · rw [HD.out, dec_more h9, List.append_assoc]
        rfl

theorem ext_to (l : List UInt8) (n : Nat) : (⟨l.toArray⟩ : ByteArray).extract 0 n = ⟨(l.take n).toArray⟩ := by
  apply ByteArray.ext
  apply Array.toList_inj.1
  rw [ByteArray.data_extract, Array.toList_extract, List.extract_eq_take_drop]
  simp
theorem ext_from (l : List UInt8) (n m : Nat) (h : l.length = m) : (⟨l.toArray⟩ : ByteArray).extract n m = ⟨(l.drop n).toArray⟩ := by
  apply ByteArray.ext
  apply Array.toList_inj.1
  rw [ByteArray.data_extract, Array.toList_extract, List.extract_eq_take_drop]
  simp only []
  rw [List.take_of_length_le (by simp; omega)]

set_option maxHeartbeats 1000000 in
theorem begins_any (l p : List UInt8) (w : World) :
    Calls Tryz.prog 87 #[.string ⟨l.toArray⟩, .string ⟨p.toArray⟩] w fun r w' => r = .returned (.tuple #[.string ⟨(begF l p).1.toArray⟩, .bool (begF l p).2]) ∧ Below w.heap.size w w' := by
  by_cases h : l.length < p.length
  · have hb : begF l p = (l, false) := by
      unfold begF
      rw [if_neg]
      rw [List.isPrefixOf_iff_prefix]
      intro hq
      have := hq.length_le
      omega
    rw [hb]
    have n1 : (l.length : Int) < (p.length : Int) := by omega
    go_enter Tryz.func87, Tryz.ntmps87
    go_wp2_with fail
    go_ret2
    exact ⟨rfl, Below.refl _ _⟩
  · have n1 : ¬ (l.length : Int) < (p.length : Int) := by omega
    have e1 := ext_to l p.length
    have e2 := ext_from l p.length l.length rfl
    by_cases hq : l.take p.length = p
    · have hb : begF l p = (l.drop p.length, true) := by
        unfold begF
        rw [if_pos]
        rw [List.isPrefixOf_iff_prefix, List.prefix_iff_eq_take]
        exact hq.symm
      have hq1 : (l.take p.length == p) = true := by rw [beq_iff_eq]; exact hq
      have HQ := hide hq
      clear hq
      rw [hb]
      go_enter Tryz.func87, Tryz.ntmps87
      go_wp2_with fail
      go_ret2
      exact ⟨rfl, Below.refl _ _⟩
    · have hb : begF l p = (l, false) := by
        unfold begF
        rw [if_neg]
        rw [List.isPrefixOf_iff_prefix, List.prefix_iff_eq_take]
        exact fun h => hq h.symm
      have hq1 : (l.take p.length == p) = false := by rw [beq_eq_false_iff_ne]; exact hq
      clear hq
      rw [hb]
      go_enter Tryz.func87, Tryz.ntmps87
      go_wp2_with fail
      go_ret2
      exact ⟨rfl, Below.refl _ _⟩

theorem numR_stop {l : List UInt8} {n k : Nat} (h : numL 0 l = numL n (l.drop k)) (hs : noDig (l.drop k)) (hk : k ≤ l.length) : numR l = (n, l.drop k, decide (0 < k)) := by
  unfold numR
  rw [h, numL_stop n _ hs]
  simp only []
  congr 2
  rw [List.length_drop, decide_eq_decide]
  omega
theorem numR_over {l : List UInt8} (h : numL 0 l = none) : numR l = (0, l, false) := by
  unfold numR
  rw [h]
theorem ret_three {a b : Value} {p q : Bool} (h : p = q) : Ending.returned (.tuple #[a, b, .bool p]) = .returned (.tuple #[a, b, .bool q]) := by rw [h]

set_option maxHeartbeats 1000000 in
theorem refNumber_any (l : List UInt8) (hl : l.length ≤ 1000000000) (w : World) :
    Calls Tryz.prog 88 #[.string ⟨l.toArray⟩] w fun r w' => r = .returned (.tuple #[.int .i64 ((numR l).1 : Int), .string ⟨(numR l).2.1.toArray⟩, .bool (numR l).2.2]) ∧ Below w.heap.size w w' := by
  go_enter Tryz.func88, Tryz.ntmps88
  go_wp2_with fail
  go_loopw [5, 6] (fun t u wr => ∃ n k : Nat, t = .int .i64 n ∧ u = .int .i64 k ∧ k ≤ l.length ∧ n ≤ 9223372036854775807 ∧ numL 0 l = numL n (l.drop k) ∧ wr = w) (fun _ u _ => l.length - (intOf u).toNat)
  case atStart => exact ⟨0, 0, rfl, rfl, Nat.zero_le _, by omega, by simp, rfl⟩
  case round =>
    obtain ⟨n, k, rfl, rfl, hk, hn, hnum, rfl⟩ := hrel
    have HN := hide hnum
    clear hnum
    by_cases hlt : k < l.length
    · have hdk : l.drop k = l[k] :: l.drop (k + 1) := List.drop_eq_getElem_cons hlt
      have HD := hide hdk
      have hc := (l[k]).toNat_lt
      have hix : (⟨l.toArray⟩ : ByteArray)[k]'(by show k < l.toArray.size; simpa using hlt) = l[k] := by show l.toArray[k] = _; simp
      clear hdk
      by_cases hdig : 48 ≤ l[k].toNat ∧ l[k].toNat ≤ 57
      · obtain ⟨d1, d2⟩ := hdig
        have HL : Hid (numL n (l.drop k) = if (9223372036854775807 - (l[k].toNat - 48)) / 10 < n then none else numL (10 * n + (l[k].toNat - 48)) (l.drop (k + 1))) := by
          show _ = _
          rw [HD.out, numL, if_pos ⟨d1, d2⟩]
        generalize l[k] = c at *
        have hwr : IntKind.u8.wrap ((c.toNat : Int) - 48) = (c.toNat : Int) - 48 := by rw [IntKind.wrap_u8]; omega
        by_cases hov : (9223372036854775807 - (c.toNat - 48)) / 10 < n
        · have n1 : (9223372036854775807 - ((c.toNat : Int) - 48)) / 10 < (n : Int) := by omega
          have HR := hide (numR_over (by rw [HN.out, HL.out, if_pos hov] : numL 0 l = none))
          go_wp2_with fail
          go_ret3
          exact ⟨by rw [HR.out]; rfl, Below.refl _ _⟩
        · have n1 : ¬ (9223372036854775807 - ((c.toNat : Int) - 48)) / 10 < (n : Int) := by omega
          have HS : Hid (numL 0 l = numL (10 * n + (c.toNat - 48)) (l.drop (k + 1))) := by
            show _ = _
            rw [HN.out, HL.out, if_neg hov]
          have hw2 : IntKind.i64.wrap (10 * (n : Int) + ((c.toNat : Int) - 48)) = 10 * (n : Int) + ((c.toNat : Int) - 48) := by rw [IntKind.wrap_i64]; omega
          have hw3 : IntKind.i64.wrap (10 * (n : Int)) = 10 * (n : Int) := by rw [IntKind.wrap_i64]; omega
          go_wp2_with fail
          refine ⟨⟨10 * n + (c.toNat - 48), k + 1, by congr 1; omega, by go_num, by omega, by omega, HS.out, trivial⟩, by simp [intOf]; omega⟩
      · have HR := hide (numR_stop HN.out (by rw [HD.out]; exact hdig) hk)
        have e2 := ext_from l k l.length rfl
        generalize l[k] = c at *
        go_wp2_with fail
        all_goals go_region
        all_goals go_wp2_with fail
        all_goals go_ret3
        all_goals exact ⟨by rw [HR.out]; exact ret_three (by simp), (Below.refl _ _).drew⟩
    · have hk' : k = l.length := by omega
      have HR := hide (numR_stop HN.out (by rw [List.drop_of_length_le (by omega)]; trivial) hk)
      have e2 := ext_from l k l.length rfl
      clear hk'
      go_wp2_with fail
      all_goals go_region
      all_goals go_wp2_with fail
      all_goals go_ret3
      all_goals exact ⟨by rw [HR.out]; exact ret_three (by first | rfl | simp | (rw [decide_eq_decide]; omega)), (Below.refl _ _).drew⟩
end Go.Proofs.YtoomnijgdpbphaaGreatDoor
