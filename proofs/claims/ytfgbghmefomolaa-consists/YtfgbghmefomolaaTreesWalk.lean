
import Derived.Test.YtfgbghmefomolaaSpoilWalks
import Derived.Test.YtfgbghmefomolaaRootWalks
namespace Go.Proofs.Ytfgbghmefomolaa
open Go.RowKit
set_option maxRecDepth 100000

/-- A call's result lies in a block that was made behind all that may have turned. -/
theorem Within.below {B : Nat} {w w1 w2 : World} {T : Nat} (h1 : Below B w w1) (h2 : Within B T w1 w2) : Below B w w2 :=
  ⟨h2.os.trans h1.os, h2.tape.trans h1.tape, h2.output.trans h1.output, by rw [h2.size]; exact h1.size, fun k hk => (h2.block k (.inl hk)).trans (h1.block k hk)⟩

set_option maxHeartbeats 1000000 in
theorem plainRoot_any (f : Nat) (v : Value) (ss : List ByteArray) (w : World) (hf : ss.length ≤ f) (hn : ss.length ≤ 1000000) (hl : ∀ s ∈ ss, s.size ≤ maxLen) (h : Sss w v ss) :
    Calls Try.prog 8 #[v] w fun r w' => r = .returned (txt (rootF f (bys ss))) ∧ Below w.heap.size w w' := by
  have Hl : Hid (∀ l ∈ bys ss, l.length ≤ maxLen) := by
    intro l hl'
    obtain ⟨s, hs, rfl⟩ := List.mem_map.1 hl'
    simpa using hl s hs
  have H := hide h
  clear hl
  obtain ⟨a, cap, rfl, hcap, h'⟩ := h
  clear h' hcap
  go_enter Try.func8, Try.ntmps8
  go_wp2_with fail
  refine (entries_any _ ss w hn H.out).mono ?_
  rintro r w1 ⟨x, rfl, hb1, he⟩
  have HB1 := hide hb1
  have HE := hide he
  clear hb1 he
  go_wp2_with fail
  refine (root_any f x (bys ss) _ (by rw [bys_length]; exact hf) (by rw [bys_length]; exact hn) Hl.out HE.out.bss).mono ?_
  rintro r w2 ⟨rfl, hb2⟩
  have HB2 := hide hb2
  clear hb2
  have hs := hv_size (rootF f (bys ss))
  rw [rootF_length] at hs
  have Hs := hide hs
  clear hs
  go_wp2_with (refine wpList_store_row rfl 38 _ _ rfl w2.heap.size (hv (rootF f (bys ss))) rfl rfl 38 _ (heap_alloc_last _ _) (by rw [Hs.out]; kernel_rfl) (by rw [Hs.out]; rfl) (hv_one _) ?_)
  rw [World.setRow_alloc_new]
  refine (spoil_any w.heap.size w1 _ x (bys ss) (by rw [bys_length]; exact hn) HE.out (by exact HB2.out.trans ((below_alloc w2 _).mono HB2.out.size))).mono ?_
  rintro r w3 ⟨rfl, hw⟩
  have HB3 : Hid (Below w.heap.size w w3) := Within.below (HB1.out.trans ((HB2.out.trans ((below_alloc w2 _).mono HB2.out.size)).mono HB1.out.size)) hw
  have hg : w3.heap[w2.heap.size]? = some (.cells (hv (rootF f (bys ss))) 38 (0, 0)) := by
    rw [hw.block _ (.inr HB2.out.size)]; exact heap_alloc_last _ _
  have hcv := conv_row w3 w2.heap.size 8 8 (rootF f (bys ss)) _ _ (rootF_length _ _) hg
  clear hg hw
  go_wp2
  go_ret
  exact ⟨rfl, HB3.out⟩

set_option maxHeartbeats 1000000 in
theorem plainLeaf_any (s : ByteArray) (w : World) (hs : s.size ≤ maxLen) :
    Calls Try.prog 10 #[.string s] w fun r w' => r = .returned (txt (leafH s.data.toList)) ∧ Below w.heap.size w w' := by
  have Hs := hide hs
  clear hs
  have hcv := fun w0 => run_bytes_of_string (P := Try.prog) w0 9 41 5 s Try.underlying9 Try.underlying41 Try.underlying5
  go_enter Try.func10, Try.ntmps10
  go_wp2_with fail
  refine (leaf_any _ s.data.toList _ (by simpa using Hs.out) (by exact (EB.conv w s 0 _ (Nat.zero_le _)).bs)).mono ?_
  rintro r w2 ⟨rfl, hb2⟩
  have HB2 : Hid (Below w.heap.size w w2) := Below.trans (below_alloc w _).drew (hb2.mono (B' := w.heap.size) (by simp))
  clear hb2
  go_wp2_with (refine wpList_store_row rfl 38 _ _ rfl w2.heap.size (hv (leafH s.data.toList)) rfl rfl 38 _ (heap_alloc_last _ _) (by kernel_rfl) rfl (hv_one _) ?_)
  rw [World.setRow_alloc_new, conv_row (w2.alloc (.cells (hv (leafH s.data.toList)) 38)) w2.heap.size 8 8 (leafH s.data.toList) _ _ rfl (heap_alloc_last _ _)]
  go_wp2
  go_ret
  exact ⟨rfl, HB2.out.trans ((below_alloc w2 _).mono HB2.out.size)⟩

def fewB (ss : List ByteArray) : Bool := decide (ss.length ≤ 4096) && ss.all fun s => decide (s.size ≤ 1048576)
theorem fewB_true {ss : List ByteArray} (h : fewB ss = true) : ss.length ≤ 4096 ∧ ∀ s ∈ ss, s.size ≤ 1048576 := by
  simp [fewB] at h; exact h
theorem fewB_mk {ss : List ByteArray} (h : ss.length ≤ 4096) (h' : ∀ j (hj : j < ss.length), ss[j].size ≤ 1048576) : fewB ss = true := by
  simp only [fewB, Bool.and_eq_true, decide_eq_true_eq, List.all_eq_true]
  refine ⟨h, fun s hs => ?_⟩
  obtain ⟨j, hj, rfl⟩ := List.getElem_of_mem hs
  exact h' j hj
theorem fewB_big {ss : List ByteArray} (h : 4096 < ss.length) : fewB ss = false := by
  simp [fewB]; omega
theorem fewB_long {ss : List ByteArray} (k : Nat) (hk : k < ss.length) (h : 1048576 < ss[k].size) : fewB ss = false := by
  simp only [fewB, Bool.and_eq_false_iff]
  right
  rw [List.all_eq_false]
  exact ⟨ss[k], List.getElem_mem hk, by simp; omega⟩

set_option maxHeartbeats 1000000 in
theorem few_any (v : Value) (ss : List ByteArray) (w : World) (hn : ss.length ≤ maxLen) (hl : ∀ s ∈ ss, s.size ≤ maxLen) (h : Sss w v ss) :
    Calls Try.prog 7 #[v] w fun r w' => r = .returned (.bool (fewB ss)) ∧ w' = w := by
  unfold maxLen at hn
  obtain ⟨a, cap, rfl, hcap, h'⟩ := h
  have Hc : Hid (ss.length = 0 ∨ ∃ b off, a = some ⟨b, off, none⟩ ∧ ∀ i (h : i < ss.length), w.cell? ⟨b, off + i, none⟩ = some (.string ss[i])) := by
    rcases h' with h | h
    · exact .inl (by simp [h])
    · exact .inr h
  have Hl := hide hl
  clear h' hl hcap
  by_cases hbig : 4096 < ss.length
  · rw [fewB_big hbig]
    go_enter Try.func7, Try.ntmps7
    go_wp2
    go_ret
    exact ⟨rfl, rfl⟩
  · go_enter Try.func7, Try.ntmps7
    go_wp2_with fail
    go_loop [3] (fun i => ∃ k : Nat, k ≤ ss.length ∧ i = .int .i64 k ∧ ∀ j (hj : j < ss.length), j < k → ss[j].size ≤ 1048576) (fun i => ss.length - (intOf i).toNat)
    case atStart => exact ⟨0, Nat.zero_le _, rfl, fun j _ hj => by omega⟩
    case round =>
      obtain ⟨k, hk, rfl, hj⟩ := hrel
      have Hj := hide hj
      clear hj
      by_cases hlt : k < ss.length
      · rcases Hc.out with h0 | ⟨b, off, rfl, hcell⟩
        · omega
        have hx := hcell k hlt
        clear hcell
        have hm := Hl.out ss[k] (List.getElem_mem hlt)
        unfold maxLen at hm
        by_cases hs : 1048576 < ss[k].size
        · have HR := hide (fewB_long k hlt hs)
          generalize ss[k] = s at *
          go_wp2
          go_ret
          exact ⟨by rw [HR.out]; rfl, rfl⟩
        · have HN : Hid (∀ j (hj : j < ss.length), j < k + 1 → ss[j].size ≤ 1048576) := fun j hjl hjk => by
            rcases Nat.lt_or_ge j k with h | h
            · exact Hj.out j hjl h
            · obtain rfl : j = k := by omega
              omega
          generalize ss[k] = s at *
          go_wp2
          go_round
          case rel => exact ⟨k + 1, by omega, by go_num, HN.out⟩
          case measure => simp [intOf]; omega
      · have HR := hide (fewB_mk (ss := ss) (by omega) (fun j hj => Hj.out j hj (by omega)))
        go_wp2
        go_ret
        exact ⟨by rw [HR.out]; rfl, rfl⟩

set_option maxHeartbeats 1000000 in
theorem trees_any (v : Value) (ss : List ByteArray) (w : World) (hn : ss.length ≤ maxLen) (hl : ∀ s ∈ ss, s.size ≤ maxLen) (h : Sss w v ss) :
    Calls Try.prog 3 #[v] w fun r w' => r = .returned (.bool true) ∧ Below w.heap.size w w' := by
  have H := hide h
  have Hn := hide hn
  have Hl := hide hl
  clear hl hn
  obtain ⟨a, cap, rfl, hcap, h'⟩ := h
  have Hc : Hid (ss.length = 0 ∨ ∃ b off, a = some ⟨b, off, none⟩ ∧ ∀ i (h : i < ss.length), w.cell? ⟨b, off + i, none⟩ = some (.string ss[i])) := by
    rcases h' with h | h
    · exact .inl (by simp [h])
    · exact .inr h
  clear h' hcap
  cases hfew : fewB ss with
  | false =>
    have HF := hide hfew
    clear hfew
    go_enter Try.func3, Try.ntmps3
    go_wp2_with fail
    refine (few_any _ ss _ Hn.out Hl.out H.out).mono ?_
    rintro r w1 ⟨hr, rfl⟩
    rw [HF.out] at hr
    subst hr
    go_wp2_with fail
    go_ret
    exact ⟨rfl, Below.refl _ _⟩
  | true =>
    have HF := hide hfew
    obtain ⟨hn, hs⟩ := fewB_true hfew
    have Hs := hide hs
    clear hfew hs
    go_enter Try.func3, Try.ntmps3
    go_wp2_with fail
    refine (few_any _ ss _ Hn.out Hl.out H.out).mono ?_
    rintro r w1 ⟨hr, rfl⟩
    rw [HF.out] at hr
    subst hr
    go_wp2_with fail
    refine (plainRoot_any 4096 _ ss _ hn (by omega) Hl.out H.out).mono ?_
    rintro r w2 ⟨rfl, hb2⟩
    have HB2 := hide hb2
    clear hb2
    go_wp2_with fail
    refine (refRoot_any 4096 _ ss _ hn (by omega) (fun s hs => Nat.lt_of_le_of_lt (Hs.out s hs) (by decide)) (H.out.below HB2.out)).mono ?_
    rintro r w3 ⟨rfl, hb3⟩
    have HB3 := hide (HB2.out.trans (hb3.mono HB2.out.size))
    clear hb3
    generalize rootF 4096 (bys ss) = R at *
    unfold txt
    go_wp2_with fail
    go_loopw [6] (fun i wr => ∃ k : Nat, k ≤ ss.length ∧ i = .int .i64 k ∧ Below w1.heap.size w1 wr) (fun i _ => ss.length - (intOf i).toNat)
    case atStart => exact ⟨0, Nat.zero_le _, rfl, HB3.out⟩
    case round =>
      obtain ⟨k, hk, rfl, hbe⟩ := hrel
      have HB := hide hbe
      clear hbe
      by_cases hlt : k < ss.length
      · rcases Hc.out with h0 | ⟨b, off, rfl, hcell⟩
        · omega
        have hx := hcell k hlt
        have hx' : ∀ wz, Below w1.heap.size w1 wz → wz.cell? ⟨b, off + k, none⟩ = some (.string ss[k]) := fun wz hz => by rw [hz.cell (cell_lt (p := ⟨b, off + k, none⟩) hx)]; exact hx
        have HX := hide hx'
        have hxr := hx' _ HB.out
        have Hsk := hide (Hs.out ss[k] (List.getElem_mem hlt))
        clear hcell hx hx'
        generalize ss[k] = s at *
        go_wp2_with fail
        refine (plainLeaf_any s _ (Nat.le_trans Hsk.out (by decide))).mono ?_
        rintro r w4 ⟨rfl, hb4⟩
        have HB4 := hide (HB.out.trans (hb4.mono HB.out.size))
        have hx4 := HX.out _ HB4.out
        clear hb4
        go_wp2_with fail
        refine (refLeaf_any s _ (Nat.lt_of_le_of_lt Hsk.out (by decide))).mono ?_
        rintro r w5 ⟨rfl, hb5⟩
        have HB5 := hide (HB4.out.trans (hb5.mono HB4.out.size))
        clear hb5
        generalize leafH s.data.toList = L at *
        unfold txt
        go_wp2
        go_roundw
        case rel => exact ⟨k + 1, by omega, by go_num, HB5.out⟩
        case measure => simp [intOf]; omega
      · go_wp2
        go_ret
        exact ⟨by simp, HB.out⟩
end Go.Proofs.Ytfgbghmefomolaa
