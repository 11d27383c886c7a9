
import Derived.Test.YtfgbghmefomolaaEight
import Derived.Test.YtfgbghmefomolaaEntWalks
import Derived.Test.YtfgbghmefomolaaNodeWalks
namespace Go.Proofs.Ytfgbghmefomolaa
open Go.RowKit
set_option maxRecDepth 100000

/-- A text cut to eight bytes. -/
def c8 (s : ByteArray) : ByteArray := ⟨(e8 s.data.toList).toArray⟩
def c8v (s : ByteArray) : Value := .string (c8 s)
theorem infoStr : (Try.prog.info? 9).map (fun i => (i.zero, i.size, i.bytes)) = some (some (.string ⟨#[]⟩), 1, 16) := by kernel_rfl
theorem infoHash : (Try.prog.info? 38).map (fun i => (i.zero, i.size, i.bytes)) = some (some (.agg (hv zero8)), 8, 8) := by kernel_rfl

theorem Sss.of_owns {w : World} {B : Nat} {v : Value} {ts : List ByteArray} (h : w.ownsRow B 9 1 v ts.length (ts.map Value.string)) : Sss w v ts := by
  rcases h.2 with ⟨rfl, h0⟩ | ⟨g, cap, cur, rfl, hB, hg, hn, hm, hs, ht⟩
  · exact ⟨none, 0, by rw [h0], by rw [h0]; exact Nat.le_refl _, .inl (List.length_eq_zero_iff.1 h0)⟩
  · refine ⟨_, _, rfl, hn, .inr ⟨g, 0, rfl, fun i hi => ?_⟩⟩
    rw [Nat.zero_add, cell_of_row _ _ _ _ _ _ hg]
    have e : (cur.toList.take (ts.length * 1))[i]? = some (.string ts[i]) := by rw [ht]; simp [hi]
    rw [Nat.mul_one, List.getElem?_take, if_pos hi] at e
    simpa using e

set_option maxHeartbeats 2000000 in
theorem eights_any (v : Value) (ss : List ByteArray) (w : World) (hn : ss.length ≤ 1000000) (h : Sss w v ss) :
    Calls Try.prog 14 #[v] w fun r w' => ∃ x, r = .returned x ∧ Below w.heap.size w w' ∧ Sss w' x (ss.map c8) := by
  obtain ⟨i, hi, hi'⟩ := Option.map_eq_some_iff.1 infoStr
  obtain ⟨hz0, hz1, hz2⟩ : i.zero = some (.string ⟨#[]⟩) ∧ i.size = 1 ∧ i.bytes = 16 := by simpa using hi'
  clear hi'
  have HI := hide hi
  have HZ := hide (And.intro hz0 (And.intro hz1 hz2))
  clear hi hz0 hz1 hz2
  obtain ⟨a, cap, rfl, hcap, h'⟩ := h
  have Hc : Hid (ss.length = 0 ∨ ∃ b off, a = some ⟨b, off, none⟩ ∧ ∀ i (h : i < ss.length), w.cell? ⟨b, off + i, none⟩ = some (.string ss[i])) := by
    rcases h' with h | h
    · exact .inl (by simp [h])
    · exact .inr h
  clear h' hcap
  go_enter Try.func14, Try.ntmps14
  go_wp2_with fail
  go_loopw [3, 4] (fun t i wr => ∃ k : Nat, k ≤ ss.length ∧ i = .int .i64 k ∧ Below w.heap.size w wr ∧ wr.ownsRow w.heap.size 9 1 t k ((ss.take k).map c8v)) (fun _ i _ => ss.length - (intOf i).toNat)
  case atStart => exact ⟨0, Nat.zero_le _, rfl, Below.refl _ _, ⟨rfl, .inl ⟨rfl, rfl⟩⟩⟩
  case round =>
    obtain ⟨k, hk, rfl, hbe, hown⟩ := hrel
    have HB := hide hbe
    have HO := hide hown
    clear hbe hown
    by_cases hlt : k < ss.length
    · rcases Hc.out with h0 | ⟨b, off, rfl, hcell⟩
      · omega
      have hx := hcell k hlt
      rw [← HB.out.cell (cell_lt (p := ⟨b, off + k, none⟩) hx)] at hx
      clear hcell
      have hs : (ss.take (k + 1)).map c8v = (ss.take k).map c8v ++ [c8v ss[k]] := by rw [List.take_succ_eq_append_getElem hlt, List.map_append]; rfl
      have Hs := hide hs
      clear hs
      generalize ss[k] = s at *
      go_wp2_with fail
      refine (eight_any s _).mono ?_
      rintro r w1 ⟨rfl, hb1⟩
      have HB1 := hide (HB.out.trans (hb1.mono HB.out.size))
      have HO1 : Hid (∀ o, (w1.alloc o).ownsRow w.heap.size 9 1 u3 k ((ss.take k).map c8v)) := fun o => ownsRow_below HO.out (hb1.trans ((below_alloc w1 o).mono hb1.size))
      have hsz : Hid (w.heap.size ≤ w1.heap.size) := HB1.out.size
      clear hb1
      have Ht : Hid (txt (e8 s.data.toList) = c8v s) := rfl
      rw [Ht.out]
      unfold c8v
      go_wp2_with (at_builtin; refine wpList_append_lies _ rfl _ _ _ rfl w.heap.size 9 i (.string ⟨#[]⟩) 1 16 Try.underlying22 HI.out HZ.out.1 HZ.out.2.1 HZ.out.2.2 rfl (by omega) u3 k _ rfl (HO1.out _) ⟨w1.heap.size, 0, none⟩ 1 1 [.string (c8 s)] rfl rfl (World.news_of_block (heap_alloc_last _ _)) (by simp [Value.oneCell']) (by omega) (by unfold maxLen; omega) (by omega) (by have := hsz.out; simp; omega) (w1.heap.size + 1) (by simp) ?_; intro g cap' w2 hown hgrow hat hltg)
      have HB2 : Hid (Below w.heap.size w w2) := ((HB1.out.trans ((below_alloc w1 _).mono HB1.out.size)).grown hgrow (by have := HB1.out.size; simp; omega) (own_base HO.out))
      have HO2 := hide hown
      clear hgrow hat hltg hown
      go_wp2_with fail
      go_roundw
      case rel => exact ⟨k + 1, by omega, by go_num, HB2.out, by rw [Hs.out]; exact HO2.out⟩
      case measure => simp [intOf]; omega
    · go_wp2_with fail
      go_ret
      refine ⟨_, rfl, HB.out, ?_⟩
      have := HO.out
      rw [List.take_of_length_le (by omega)] at this
      refine Sss.of_owns (B := w.heap.size) ?_
      have e : (ss.map c8).map Value.string = ss.map c8v := by simp [c8v]
      rw [e, List.length_map, show ss.length = k by omega]
      exact this

/-- A slice of hashes in memory. -/
def Hss (w : World) (v : Value) (ps : List (List UInt8)) : Prop :=
  ∃ a cap, v = .slice a ps.length cap ∧ ps.length ≤ cap ∧ (∀ p ∈ ps, p.length = 8) ∧ (ps = [] ∨ ∃ b off, a = some ⟨b, off, none⟩ ∧ ∀ i (h : i < ps.length), w.rangeAt b (off + i * 8) (hv ps[i]).toList)
theorem rangeAt_below {w w' : World} {b o : Nat} {cs : List Value} (h : w.rangeAt b o cs) (hb : Below w.heap.size w w') : w'.rangeAt b o cs := fun j v hv => by
  have := h j v hv
  rw [hb.cell (cell_lt (p := ⟨b, o + j, none⟩) this)]; exact this
theorem Hss.below {w w' : World} {v : Value} {ps : List (List UInt8)} (h : Hss w v ps) (hb : Below w.heap.size w w') : Hss w' v ps := by
  obtain ⟨a, cap, rfl, hcap, h8, h⟩ := h
  refine ⟨a, cap, rfl, hcap, h8, ?_⟩
  rcases h with h | ⟨b, off, rfl, hc⟩
  · exact .inl h
  · exact .inr ⟨b, off, rfl, fun i hi => rangeAt_below (hc i hi) hb⟩
/-- The cells of hashes in a row. -/
def flat (ps : List (List UInt8)) : List Value := (ps.map fun p => (hv p).toList).flatten
theorem flat_length (ps : List (List UInt8)) (h : ∀ p ∈ ps, p.length = 8) : (flat ps).length = ps.length * 8 := by
  induction ps with
  | nil => rfl
  | cons p ps ih =>
    have h1 := h p (by simp)
    have h2 := ih (fun q hq => h q (by simp [hq]))
    simp only [flat, List.map_cons, List.flatten_cons, List.length_append, List.length_cons] at h2 ⊢
    rw [h2, Array.length_toList, hv_size, h1]; omega
theorem flat_at (ps : List (List UInt8)) (h : ∀ p ∈ ps, p.length = 8) (i j : Nat) (hi : i < ps.length) (hj : j < 8) : (flat ps)[i * 8 + j]? = (hv ps[i]).toList[j]? := by
  induction ps generalizing i with
  | nil => simp at hi
  | cons p ps ih =>
    have h1 := h p (by simp)
    have hl : (hv p).toList.length = 8 := by rw [Array.length_toList, hv_size, h1]
    cases i with
    | zero =>
      simp only [flat, List.map_cons, List.flatten_cons]
      rw [List.getElem?_append_left (by rw [hl]; omega)]
      simp
    | succ i =>
      have h2 := ih (fun q hq => h q (by simp [hq])) i (by simpa using hi)
      simp only [flat, List.map_cons, List.flatten_cons] at h2 ⊢
      rw [List.getElem?_append_right (by rw [hl]; omega), hl, show (i + 1) * 8 + j - 8 = i * 8 + j by omega, h2]
      simp
theorem Hss.of_owns {w : World} {B : Nat} {v : Value} {ps : List (List UInt8)} (h8 : ∀ p ∈ ps, p.length = 8) (h : w.ownsRow B 38 8 v ps.length (flat ps)) : Hss w v ps := by
  rcases h.2 with ⟨rfl, h0⟩ | ⟨g, cap, cur, rfl, hB, hg, hn, hm, hs, ht⟩
  · exact ⟨none, 0, by rw [h0], by rw [h0]; exact Nat.le_refl _, h8, .inl (List.length_eq_zero_iff.1 h0)⟩
  · refine ⟨_, _, rfl, hn, h8, .inr ⟨g, 0, rfl, fun i hi => ?_⟩⟩
    intro j v hv
    have hj : j < 8 := by
      have := (List.getElem?_eq_some_iff.1 hv).1
      rw [Array.length_toList, hv_size, h8 _ (List.getElem_mem hi)] at this
      exact this
    rw [Nat.zero_add, cell_of_row _ _ _ _ _ _ hg]
    have e := flat_at ps h8 i j hi hj
    rw [hv, ← ht, List.getElem?_take, if_pos (by omega)] at e
    simpa using e

set_option maxHeartbeats 2000000 in
theorem hashes_any (v : Value) (ss : List ByteArray) (w : World) (hn : ss.length ≤ 1000000) (h : Sss w v ss) :
    Calls Try.prog 32 #[v] w fun r w' => ∃ x, r = .returned x ∧ Below w.heap.size w w' ∧ Hss w' x (ss.map fun s => e8 s.data.toList) := by
  obtain ⟨i, hi, hi'⟩ := Option.map_eq_some_iff.1 infoHash
  obtain ⟨hz0, hz1, hz2⟩ : i.zero = some (.agg (hv zero8)) ∧ i.size = 8 ∧ i.bytes = 8 := by simpa using hi'
  clear hi'
  have HI := hide hi
  have HZ := hide (And.intro hz0 (And.intro hz1 hz2))
  clear hi hz0 hz1 hz2
  obtain ⟨a, cap, rfl, hcap, h'⟩ := h
  have Hc : Hid (ss.length = 0 ∨ ∃ b off, a = some ⟨b, off, none⟩ ∧ ∀ i (h : i < ss.length), w.cell? ⟨b, off + i, none⟩ = some (.string ss[i])) := by
    rcases h' with h | h
    · exact .inl (by simp [h])
    · exact .inr h
  clear h' hcap
  go_enter Try.func32, Try.ntmps32
  go_wp2_with fail
  go_loopw [3, 8] (fun t i wr => ∃ k : Nat, k ≤ ss.length ∧ i = .int .i64 k ∧ Below w.heap.size w wr ∧ wr.ownsRow w.heap.size 38 8 t k (flat ((ss.take k).map fun s => e8 s.data.toList))) (fun _ i _ => ss.length - (intOf i).toNat)
  case atStart => exact ⟨0, Nat.zero_le _, rfl, Below.refl _ _, ⟨rfl, .inl ⟨rfl, rfl⟩⟩⟩
  case round =>
    obtain ⟨k, hk, rfl, hbe, hown⟩ := hrel
    have HB := hide hbe
    have HO := hide hown
    clear hbe hown
    by_cases hlt : k < ss.length
    · rcases Hc.out with h0 | ⟨b, off, rfl, hcell⟩
      · omega
      have hx := hcell k hlt
      rw [← HB.out.cell (cell_lt (p := ⟨b, off + k, none⟩) hx)] at hx
      clear hcell
      have hs : flat ((ss.take (k + 1)).map fun s => e8 s.data.toList) = flat ((ss.take k).map fun s => e8 s.data.toList) ++ (hv (e8 ss[k].data.toList)).toList := by
        rw [List.take_succ_eq_append_getElem hlt, List.map_append]; simp [flat]
      have Hs := hide hs
      clear hs
      obtain ⟨x0, x1, x2, x3, x4, x5, x6, x7, hx8⟩ := agg8 (e8 ss[k].data.toList) (e8_length _)
      have HX := hide hx8
      clear hx8
      generalize ss[k] = s at *
      generalize flat ((ss.take k).map fun s => e8 s.data.toList) = xs at *
      go_wp2_with fail
      refine (hash_any s _).mono ?_
      rintro r w1 ⟨hr, hb1⟩
      rw [HX.out] at hr
      subst hr
      have HB1 := hide (HB.out.trans (hb1.mono HB.out.size))
      have HO1 : Hid (∀ o, (w1.alloc o).ownsRow w.heap.size 38 8 u3 k xs) := fun o => ownsRow_below HO.out (hb1.trans ((below_alloc w1 o).mono hb1.size))
      have hsz : Hid (w.heap.size ≤ w1.heap.size) := HB1.out.size
      clear hb1
      go_wp2_with (at_builtin; refine wpList_append_lies _ rfl _ _ _ rfl w.heap.size 38 i (.agg (hv zero8)) 8 8 Try.underlying47 HI.out HZ.out.1 HZ.out.2.1 HZ.out.2.2 rfl (by omega) u3 k xs rfl (HO1.out _) ⟨w1.heap.size, 0, none⟩ 1 1 [.int .u8 x0, .int .u8 x1, .int .u8 x2, .int .u8 x3, .int .u8 x4, .int .u8 x5, .int .u8 x6, .int .u8 x7] rfl rfl (World.news_of_block (heap_alloc_last _ _)) (by simp [Value.oneCell']) (by omega) (by unfold maxLen; omega) (by omega) (by have := hsz.out; simp; omega) (w1.heap.size + 1) (by simp) ?_; intro g cap' w2 hown hgrow hat hltg)
      have HB2 : Hid (Below w.heap.size w w2) := ((HB1.out.trans ((below_alloc w1 _).mono HB1.out.size)).grown hgrow (by have := HB1.out.size; simp; omega) (own_base HO.out))
      have HO2 := hide hown
      clear hgrow hat hltg hown
      go_wp2_with fail
      go_roundw
      case rel => exact ⟨k + 1, by omega, by go_num, HB2.out, by rw [Hs.out, HX.out]; exact HO2.out⟩
      case measure => simp [intOf]; omega
    · go_wp2_with fail
      go_ret
      refine ⟨_, rfl, HB.out, ?_⟩
      have := HO.out
      rw [List.take_of_length_le (by omega)] at this
      refine Hss.of_owns (B := w.heap.size) (fun p hp => by obtain ⟨s, _, rfl⟩ := List.mem_map.1 hp; exact e8_length _) ?_
      rw [List.length_map, show ss.length = k by omega]
      exact this
end Go.Proofs.Ytfgbghmefomolaa
