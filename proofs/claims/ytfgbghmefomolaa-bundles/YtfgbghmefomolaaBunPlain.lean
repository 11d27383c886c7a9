
import Derived.Test.YtfgbghmefomolaaBunWalks
namespace Go.Proofs.Ytfgbghmefomolaa
open Go.RowKit
set_option maxRecDepth 100000

def bunT (ls : List (List UInt8)) : List UInt8 := if okB ls = true then bunL ls else []
theorem bunT_yes {ls : List (List UInt8)} (h : okB ls = true) : bunT ls = bunL ls := by unfold bunT; rw [if_pos h]
theorem bunT_no {ls : List (List UInt8)} (h : okB ls = false) : bunT ls = [] := by unfold bunT; rw [if_neg (by simp [h])]
theorem bys_max (ss : List ByteArray) (hl : ∀ s ∈ ss, s.size ≤ 1048576) : ∀ l ∈ bys ss, l.length ≤ maxLen := by
  intro l h
  obtain ⟨s, hs, rfl⟩ := List.mem_map.1 h
  have := hl s hs
  rw [Array.length_toList]
  unfold maxLen
  exact Nat.le_trans this (by decide)

set_option maxHeartbeats 1000000 in
theorem plainBundle_any (v : Value) (ss : List ByteArray) (w : World) (hn : ss.length ≤ 4096) (hl : ∀ s ∈ ss, s.size ≤ 1048576) (h : Sss w v ss) :
    Calls Try.prog 18 #[v] w fun r w' => r = .returned (.tuple #[txt (bunT (bys ss)), .bool (!okB (bys ss))]) ∧ Below w.heap.size w w' := by
  have Hl := hide (bys_max ss hl)
  have H := hide h
  clear h hl
  have q : ∀ (w : World) (a : Option Addr) (n c n' c' : Nat), (binOp .eql 41 (.slice a n c) (.slice none n' c')).run Try.prog w = .ok (.bool a.isNone) w := fun w a n c n' c' => Lib.run_eql_slice_nil w _ _ a n c n' c' Try.underlying41
  go_enter Try.func18, Try.ntmps18
  go_wp2_with fail
  refine (entries_any v ss w (by omega) H.out).mono ?_
  rintro r w1 ⟨x, rfl, hb1, he1⟩
  have HB1 := hide hb1
  have HE1 := hide he1
  clear hb1 he1
  go_wp2_with fail
  refine (bundle_any _ x (bys ss) w1 (by rw [bys_length]; omega) Hl.out HE1.out).mono ?_
  rintro r w2 ⟨y, rfl, hb2, hy, hno⟩
  have HB2 : Hid (Below w.heap.size w w2) := HB1.out.trans (hb2.mono HB1.out.size)
  clear hb2
  by_cases ho : okB (bys ss) = true
  · have HY := hide (hy ho)
    clear hy hno
    have HT := hide (bunT_yes ho)
    have HO := hide ho
    clear ho
    obtain ⟨g, cap, rfl, -, -, -⟩ := HY.out.form
    have hcv := HY.out.conv
    unfold txt at hcv
    go_wp2
    go_ret2
    exact ⟨by rw [HT.out, HO.out]; rfl, HB2.out⟩
  · obtain rfl := hno (by simpa using ho)
    have HO := hide (show okB (bys ss) = false by simpa using ho)
    have hcv : ∀ w, (convert 41 9 (.slice none 0 0)).run Try.prog w = .ok (.string ⟨#[]⟩) w := fun w => by kernel_rfl
    have HT := hide (bunT_no HO.out)
    clear ho hy hno
    go_wp2
    go_ret2
    exact ⟨by rw [HT.out, HO.out]; rfl, HB2.out⟩

set_option maxHeartbeats 2000000 in
theorem refBundle_any (v : Value) (ss : List ByteArray) (w : World) (hn : ss.length ≤ 2000000) (hl : ∀ s ∈ ss, s.size ≤ 1048576) (h : Sss w v ss) :
    Calls Try.prog 19 #[v] w fun r w' => r = .returned (.tuple #[txt (bunT (bys ss)), .bool (okB (bys ss))]) ∧ Below w.heap.size w w' := by
  obtain ⟨a, cap, rfl, hcap, h'⟩ := h
  have Hc : Hid (ss.length = 0 ∨ ∃ b off, a = some ⟨b, off, none⟩ ∧ ∀ i (h : i < ss.length), w.cell? ⟨b, off + i, none⟩ = some (.string ss[i])) := by
    rcases h' with h | h
    · exact .inl (by simp [h])
    · exact .inr h
  have Hl := hide hl
  clear h' hl hcap
  have hbl := bys_length ss
  by_cases h0 : ss.length = 0
  · have ho : okB (bys ss) = false := okB_none (by omega)
    rw [bunT_no ho, ho]
    go_enter Try.func19, Try.ntmps19
    go_wp2
    go_ret2
    exact ⟨rfl, Below.refl _ _⟩
  by_cases h4 : 4 < ss.length
  · have ho : okB (bys ss) = false := okB_big (by omega)
    rw [bunT_no ho, ho]
    go_enter Try.func19, Try.ntmps19
    go_wp2
    go_ret2
    exact ⟨rfl, Below.refl _ _⟩
  have n0 : ((ss.length : Int) == 0) = false := by rw [beq_eq_false_iff_ne]; omega
  have n4 : ¬ (4 : Int) < (ss.length : Int) := by omega
  go_enter Try.func19, Try.ntmps19
  go_wp2_with fail
  go_loopw [4, 5] (fun t i wr => ∃ k : Nat, k ≤ ss.length ∧ i = .int .i64 k ∧ Below w.heap.size w wr ∧ t = txt (bunL ((bys ss).take k)) ∧ ∀ j (hj : j < (bys ss).length), j < k → (bys ss)[j].length ≤ 20) (fun _ i _ => ss.length - (intOf i).toNat)
  case atStart => exact ⟨0, Nat.zero_le _, rfl, Below.refl _ _, rfl, fun j _ hj => absurd hj (Nat.not_lt_zero _)⟩
  case round =>
    obtain ⟨k, hk, rfl, hbe, rfl, hall⟩ := hrel
    have HB := hide hbe
    have HA := hide hall
    clear hbe hall
    by_cases hlt : k < ss.length
    · rcases Hc.out with h0' | ⟨b, off, rfl, hcell⟩
      · omega
      have hx := hcell k hlt
      rw [← HB.out.cell (cell_lt (p := ⟨b, off + k, none⟩) hx)] at hx
      have hm := Hl.out ss[k] (List.getElem_mem hlt)
      clear hcell
      have hbk : (bys ss)[k]'(by omega) = ss[k].data.toList := by simp [bys]
      have hbkl : ((bys ss)[k]'(by omega)).length = ss[k].size := by rw [hbk]; simp
      by_cases h20 : 20 < ss[k].size
      · have ho : okB (bys ss) = false := okB_long k (by omega) (by omega)
        have HR := hide ho
        have HR2 := hide (bunT_no ho)
        clear hbk hbkl
        generalize ss[k] = s at *
        go_wp2
        go_ret2
        exact ⟨by rw [HR.out, HR2.out]; rfl, HB.out⟩
      · have HSN : Hid (bunL ((bys ss).take (k + 1)) = bunL ((bys ss).take k) ++ (UInt8.ofNat ss[k].size :: ss[k].data.toList)) := by
          show bunL ((bys ss).take (k + 1)) = _
          rw [List.take_succ_eq_append_getElem (by omega), bunL_append, bunL_one, bun1, hbkl, hbk]
        have HA' : Hid (∀ j (hj : j < (bys ss).length), j < k + 1 → (bys ss)[j].length ≤ 20) := fun j hjl hjk => by
          rcases Nat.lt_or_ge j k with h | h
          · exact HA.out j hjl h
          · obtain rfl : j = k := by omega
            omega
        have HLL := hide (bunL_len ((bys ss).take k) (fun l hl => by
          obtain ⟨j, hj, rfl⟩ := List.getElem_of_mem hl
          have hj' : j < k := by simp at hj; omega
          rw [List.getElem_take]
          exact HA.out j (by omega) hj'))
        have hwr : IntKind.u8.wrap (ss[k].size : Int) = (ss[k].size : Int) := by
          rw [IntKind.wrap_u8]; omega
        clear hbk hbkl HA
        generalize ss[k] = s at *
        generalize bunL ((bys ss).take k) = m at *
        have hcv := conv_row (wr.alloc (.cells #[.int .u8 (s.size : Int)] 5)).drew wr.heap.size 1 1 [UInt8.ofNat s.size] 5 (0, 0) rfl (by show (wr.alloc _).heap[_]? = _; rw [heap_alloc_last]; simp [hv, bv]; omega)
        have hx2 : ∀ o, (wr.alloc o).cell? ⟨b, off + k, none⟩ = some (.string s) := fun o => (cell_old wr o ⟨b, off + k, none⟩ (cell_lt (p := ⟨b, off + k, none⟩) hx)).trans hx
        have hml : m.length ≤ 84 := by have := HLL.out; rw [List.length_take, hbl] at this; omega
        have b1 : ¬ 9223372036854775807 < m.length + 1 := by omega
        have b2 : ¬ 9223372036854775807 < m.length + 1 + s.size := by omega
        unfold txt at hcv ⊢
        go_wp2_with fail
        go_region
        all_goals go_wp2
        all_goals go_roundw
        case rel => exact ⟨k + 1, by omega, by go_num, (HB.out.trans ((below_alloc wr _).mono HB.out.size)).drew, by rw [HSN.out]; congr 1; apply ByteArray.ext; simp, HA'.out⟩
        case measure => simp [intOf]; omega
    · go_wp2_with fail
      go_ret2
      have ho : okB (bys ss) = true := okB_mk (by omega) (by omega) (fun j hj => HA.out j hj (by omega))
      rw [bunT_yes ho, ho, List.take_of_length_le (by omega)]
      exact ⟨rfl, HB.out⟩
end Go.Proofs.Ytfgbghmefomolaa
