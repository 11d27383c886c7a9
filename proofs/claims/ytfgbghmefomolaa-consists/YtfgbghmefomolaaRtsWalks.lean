
import Derived.Test.YtfgbghmefomolaaSameWalks
namespace Go.Proofs.Ytfgbghmefomolaa
open Go.RowKit
set_option maxRecDepth 100000

theorem Hss.first {w : World} {v : Value} {ps : List (List UInt8)} (h : Hss w v ps) (h1 : ps.length = 1) : ∃ b off cap, v = .slice (some ⟨b, off, none⟩) 1 cap ∧ w.rangeAt b off (hv (ps.headD [])).toList ∧ (ps.headD []).length = 8 := by
  obtain ⟨a, cap, rfl, hcap, h8, hh⟩ := h
  rcases hh with hh | ⟨b, off, rfl, hc⟩
  · simp [hh] at h1
  · match ps, h1, h8, hc with
    | [p], _, h8, hc =>
      refine ⟨b, off, cap, rfl, ?_, h8 p (by simp)⟩
      have := hc 0 (by simp)
      simpa using this

theorem same_any (a : List UInt8) (ha : a.length = 8) (v : Value) (ps : List (List UInt8)) (f n : Nat) (whole : Bool) (w : World) (h : Hss w v ps) :
    Calls Try.prog 48 #[.agg (hv a), v, .bool whole] w fun r w' => r = .returned (.tuple #[.agg (hv (rtsF zero8 a (f + 1) n n ps whole).1), .agg (hv (rtsF zero8 a (f + 1) n n ps whole).2.1), .bool (rtsF zero8 a (f + 1) n n ps whole).2.2]) ∧ Below w.heap.size w w' := by
  cases whole with
  | true => rw [rtsF_whole]; exact same_whole a ha v ps w h
  | false =>
    by_cases h1 : ps.length = 1
    · rw [rtsF_part _ _ _ _ _ h1]
      obtain ⟨b, off, cap, rfl, hr, hp⟩ := h.first h1
      exact same_part a _ ha hp b off cap w hr
    · rw [rtsF_not _ _ _ _ _ h1]; exact same_not a ha v ps w h1 h

set_option maxHeartbeats 2000000 in
theorem rts_eq (a : List UInt8) (ha : a.length = 8) (f n : Nat) (v : Value) (ps : List (List UInt8)) (whole : Bool) (w : World) (h : Hss w v ps) :
    Calls Try.prog 42 #[.int .i64 n, .int .i64 n, .agg (hv a), v, .bool whole] w fun r w' => r = .returned (.tuple #[.agg (hv (rtsF zero8 a (f + 1) n n ps whole).1), .agg (hv (rtsF zero8 a (f + 1) n n ps whole).2.1), .bool (rtsF zero8 a (f + 1) n n ps whole).2.2]) ∧ Below w.heap.size w w' := by
  have HC := hide (same_any a ha v ps f n whole)
  have h8 : ∀ p ∈ ps, p.length = 8 := by obtain ⟨_, _, _, _, h8, _⟩ := h; exact h8
  obtain ⟨l1, l2⟩ := rtsF_len8 zero8 a rfl ha (f + 1) n n ps whole h8
  have H := hide h
  obtain ⟨b, cap, rfl, -, -, -⟩ := h
  generalize rtsF zero8 a (f + 1) n n ps whole = R at *
  obtain ⟨R1, R2, R3⟩ := R
  have hs : (hv a).size = 8 := by rw [hv_size, ha]
  have Hs := hide hs
  have hs1 : (hv R1).size = 8 := by rw [hv_size]; exact l1
  have hs2 : (hv R2).size = 8 := by rw [hv_size]; exact l2
  have Hs1 := hide hs1
  have Hs2 := hide hs2
  have HF := hide (Fq.start w a)
  clear hs hs1 hs2 l1 l2 ha h8
  go_enter Try.func42, Try.ntmps42
  go_wp2_with (refine wpList_load_row rfl 38 _ rfl w.heap.size rfl 38 _ (0, 0) _ HF.out.2.1 Try.underlying38 rfl (by rw [Hs.out]; kernel_rfl) ?_)
  refine (HC.out _ (H.out.below HF.out.1)).mono ?_
  rintro e w1 ⟨rfl, hb1⟩
  have HF1 := hide (HF.out.next hb1)
  clear hb1
  go_wp2_with (first
    | (refine wpList_store_row rfl 38 _ _ rfl (w.heap.size + 1) (hv R1) rfl rfl 38 _ HF1.out.2.2.1 (by rw [Hs1.out]; kernel_rfl) (by rw [Hs1.out]; rfl) (hv_one _) ?_)
    | (refine wpList_store_row rfl 38 _ _ rfl (w.heap.size + 1 + 1) (hv R2) rfl rfl 38 _ (HF1.out.set1 R1).2.2.2 (by rw [Hs2.out]; kernel_rfl) (by rw [Hs2.out]; rfl) (hv_one _) ?_))
  refine bodyPost_ret (v := .tuple #[.agg (hv R1), .agg (hv R2), .bool R3]) (results_rows2_tmp Try.results42 _ _ (w.heap.size + 1) (w.heap.size + 1 + 1) 38 _ _ _ rfl ((HF1.out.set1 R1).set2 R2).2.2.1 rfl ((HF1.out.set1 R1).set2 R2).2.2.2 Try.underlying38 rfl (by rw [Hs1.out]; kernel_rfl) (by rw [Hs2.out]; kernel_rfl) _ rfl) rfl ⟨rfl, ?_⟩
  exact ((HF1.out.set1 R1).set2 R2).1

set_option maxHeartbeats 2000000 in
theorem rts_none (a : List UInt8) (ha : a.length = 8) (f m n : Nat) (hmn : m ≠ n) (v : Value) (ps : List (List UInt8)) (whole : Bool) (w : World) (h0 : ps.length = 0) (h : Hss w v ps) :
    Calls Try.prog 42 #[.int .i64 m, .int .i64 n, .agg (hv a), v, .bool whole] w fun r w' => r = .returned (.tuple #[.agg (hv (rtsF zero8 a (f + 1) m n ps whole).1), .agg (hv (rtsF zero8 a (f + 1) m n ps whole).2.1), .bool (rtsF zero8 a (f + 1) m n ps whole).2.2]) ∧ Below w.heap.size w w' := by
  rw [rtsF_none _ _ _ _ _ _ _ hmn h0]
  obtain ⟨b, cap, rfl, -, -, -⟩ := h
  rw [h0]
  have hs : (hv a).size = 8 := by rw [hv_size, ha]
  have HF := hide (Fq.start w a)
  have n1 : ((m : Int) == (n : Int)) = false := beq_eq_false_iff_ne.2 (by omega)
  clear ha hmn
  go_enter Try.func42, Try.ntmps42
  go_wp2_with (first
    | (refine wpList_store_row rfl 38 _ _ rfl (w.heap.size + 1) (hv zero8) rfl rfl 38 _ HF.out.2.2.1 (by kernel_rfl) rfl (hv_one _) ?_)
    | (refine wpList_store_row rfl 38 _ _ rfl (w.heap.size + 1 + 1) (hv zero8) rfl rfl 38 _ (HF.out.set1 zero8).2.2.2 (by kernel_rfl) rfl (hv_one _) ?_))
  refine bodyPost_ret (v := .tuple #[.agg (hv zero8), .agg (hv zero8), .bool false]) (results_rows2_tmp Try.results42 _ _ (w.heap.size + 1) (w.heap.size + 1 + 1) 38 _ _ _ rfl ((HF.out.set1 zero8).set2 zero8).2.2.1 rfl ((HF.out.set1 zero8).set2 zero8).2.2.2 Try.underlying38 rfl (by kernel_rfl) (by kernel_rfl) _ rfl) rfl ⟨rfl, ?_⟩
  exact ((HF.out.set1 zero8).set2 zero8).1

set_option maxHeartbeats 4000000 in
theorem rts_left (a : List UInt8) (ha : a.length = 8) (f m n : Nat) (hm1 : 1 ≤ m) (hmn : m < n) (hn : n ≤ 9223372036854775807) (hmk : m ≤ kOf n) (b off q cap : Nat) (ps : List (List UInt8)) (whole : Bool) (w : World) (hq : ps.length = q + 1) (hq6 : q ≤ 1000000) (hcap : q + 1 ≤ cap) (h8 : ∀ p ∈ ps, p.length = 8)
    (hr : w.rangeAt b (off + q * 8) (hv (ps.getLastD [])).toList) (ht : Hss w (.slice (some ⟨b, off, none⟩) q cap) ps.dropLast)
    (ih : ∀ (m n : Int) (v : Value) (ps : List (List UInt8)) (whole : Bool) (w : World), 1 ≤ m → m ≤ n → n ≤ 9223372036854775807 → ps.length < f → ps.length ≤ 1000000 → Hss w v ps → Calls Try.prog 42 #[.int .i64 m, .int .i64 n, .agg (hv a), v, .bool whole] w fun r w' => r = .returned (.tuple #[.agg (hv (rtsF zero8 a f m.toNat n.toNat ps whole).1), .agg (hv (rtsF zero8 a f m.toNat n.toNat ps whole).2.1), .bool (rtsF zero8 a f m.toNat n.toNat ps whole).2.2]) ∧ Below w.heap.size w w')
    (hf : ps.length < f + 1) :
    Calls Try.prog 42 #[.int .i64 m, .int .i64 n, .agg (hv a), .slice (some ⟨b, off, none⟩) (q + 1) cap, .bool whole] w fun r w' => r = .returned (.tuple #[.agg (hv (rtsF zero8 a (f + 1) m n ps whole).1), .agg (hv (rtsF zero8 a (f + 1) m n ps whole).2.1), .bool (rtsF zero8 a (f + 1) m n ps whole).2.2]) ∧ Below w.heap.size w w' := by
  rw [rtsF_left _ _ _ _ _ _ _ (by omega) (by omega) hmk]
  obtain ⟨k1, k2, k3⟩ := kOf_spec n (by omega)
  have hlast : (ps.getLastD []).length = 8 := by
    rw [(last_split ps q hq []).1]; exact h8 _ (List.getElem_mem _)
  have hdl : ps.dropLast.length = q := by rw [List.length_dropLast, hq]; rfl
  have hs : (hv a).size = 8 := by rw [hv_size, ha]
  have Hs := hide hs
  have hls : (hv (ps.getLastD [])).size = 8 := by rw [hv_size, hlast]
  have Hls := hide hls
  have Hlast := hide hlast
  have IH := hide (ih m (kOf n) (.slice (some ⟨b, off, none⟩) q cap) ps.dropLast whole)
  have hL2 := rtsF_len8 zero8 a rfl ha f m (kOf n) ps.dropLast whole (fun p hp => h8 p (List.dropLast_subset _ hp))
  have Hd := hide hdl
  have HH := hide ht
  have HR := hide hr
  have Hf := hide hf
  have Hq := hide hq
  have HF := hide (Fq.start w a)
  have n1 : ((m : Int) == (n : Int)) = false := beq_eq_false_iff_ne.2 (by omega)
  have m1 : (((q : Int) + 1) == 0) = false := beq_eq_false_iff_ne.2 (by omega)
  rw [Int.toNat_natCast, Int.toNat_natCast] at IH
  clear hs hls hlast ih hdl ht hr hf hq h8 ha
  generalize rtsF zero8 a f m (kOf n) ps.dropLast whole = R at *
  obtain ⟨R1, R2, R3⟩ := R
  obtain ⟨l1, l2⟩ := hL2
  have hs1 : (hv R1).size = 8 := by rw [hv_size]; exact l1
  have hs2 : (hv R2).size = 8 := by rw [hv_size]; exact l2
  have Hs1 := hide hs1
  have Hs2 := hide hs2
  have HL2 := hide l2
  clear hs1 hs2 l1 l2
  generalize ps.getLastD [] = L at *
  go_enter Try.func42, Try.ntmps42
  go_wp2_with fail
  refine (cutLast_any b off q cap L _ hq6 hcap Hlast.out (by exact rangeAt_below HR.out HF.out.1)).mono ?_
  rintro e w1 ⟨rfl, hb1⟩
  have HF1 := hide (HF.out.next hb1)
  clear hb1
  go_wp2_with (refine wpList_store_row rfl 38 _ _ rfl w1.heap.size (hv L) rfl rfl 38 _ (heap_alloc_last _ _) (by rw [Hls.out]; kernel_rfl) (by rw [Hls.out]; rfl) (hv_one _) ?_)
  rw [World.setRow_alloc_new]
  refine (split_any n _ (by omega) hn).mono ?_
  rintro e w2 ⟨rfl, hw2⟩
  subst hw2
  have HF2 := hide (HF1.out.next (below_alloc w1 (.cells (hv L) 38)))
  have hmk' : (m : Int) ≤ (kOf n : Int) := by omega
  go_wp2_with (refine wpList_load_row rfl 38 _ rfl w.heap.size rfl 38 _ (0, 0) _ HF2.out.2.1 Try.underlying38 rfl (by rw [Hs.out]; kernel_rfl) ?_)
  refine (IH.out _ (by omega) (by omega) (by omega) (by rw [Hd.out]; have := Hf.out; rw [Hq.out] at this; omega) (by rw [Hd.out]; exact hq6) (HH.out.below HF2.out.1)).mono ?_
  rintro e w3 ⟨rfl, hb3⟩
  have HL3 : Hid (w3.heap[w1.heap.size]? = some (.cells (hv L) 38 (0, 0))) := by
    show w3.heap[w1.heap.size]? = _
    rw [hb3.block _ (by simp)]; exact heap_alloc_last _ _
  have hne : Hid (w.heap.size + 1 + 1 < w1.heap.size) := heap_lt HF1.out.2.2.2
  have HF3 := hide (HF2.out.next hb3)
  clear hb3
  go_wp2_with (first
    | (refine wpList_store_row rfl 38 _ _ rfl (w.heap.size + 1) (hv R1) rfl rfl 38 _ HF3.out.2.2.1 (by rw [Hs1.out]; kernel_rfl) (by rw [Hs1.out]; rfl) (hv_one _) ?_)
    | (refine wpList_store_row rfl 38 _ _ rfl (w.heap.size + 1 + 1) (hv R2) rfl rfl 38 _ (HF3.out.set1 R1).2.2.2 (by rw [Hs2.out]; kernel_rfl) (by rw [Hs2.out]; rfl) (hv_one _) ?_))
  have HF4 := hide ((HF3.out.set1 R1).set2 R2)
  have HL4 : Hid (((w3.setRow (w.heap.size + 1) (hv R1)).setRow (w.heap.size + 1 + 1) (hv R2)).heap[w1.heap.size]? = some (.cells (hv L) 38 (0, 0))) := by
    have := hne.out
    show ((w3.setRow (w.heap.size + 1) (hv R1)).setRow (w.heap.size + 1 + 1) (hv R2)).heap[w1.heap.size]? = _
    rw [setRow_other _ _ _ _ (by omega), setRow_other _ _ _ _ (by omega)]
    exact HL3.out
  generalize (w3.setRow (w.heap.size + 1) (hv R1)).setRow (w.heap.size + 1 + 1) (hv R2) = W4 at *
  have HS4 : Hid (W4.drew.heap[w.heap.size + 1]? = some (.cells (hv R1) 38 (0, 0)) ∧ W4.drew.heap[w.heap.size + 1 + 1]? = some (.cells (hv R2) 38 (0, 0)) ∧ W4.drew.heap[w1.heap.size]? = some (.cells (hv L) 38 (0, 0))) := ⟨HF4.out.2.2.1, HF4.out.2.2.2, HL4.out⟩
  refine wp_region_T1 (fun wz => wz.heap[w.heap.size + 1]? = some (.cells (hv R1) 38 (0, 0)) ∧ wz.heap[w.heap.size + 1 + 1]? = some (.cells (hv R2) 38 (0, 0)) ∧ wz.heap[w1.heap.size]? = some (.cells (hv L) 38 (0, 0))) (fun j => j == 5 || j == 6) 4 _ (.bool R3) (by kernel_rfl) rfl rfl (by kernel_rfl) (by kernel_rfl) (by kernel_rfl) (fun _ _ _ h => h) rfl rfl rfl ?_
  refine wpT_take [5, 6] (i := 0) (v := .agg (hv R1)) rfl (by kernel_rfl) (by kernel_rfl) (by kernel_rfl) (by kernel_rfl) (fun j hj => by simp at hj; simp; omega) (fun _ _ _ h => h) (yields_row (by rfl) 38 _ rfl (w.heap.size + 1) rfl 38 _ _ (fun wz hz => hz.1) Try.underlying38 rfl (by rw [Hs1.out]; kernel_rfl)) HS4.out ?_
  refine wpT_take [3, 5, 6] (i := 1) (v := .agg (hv R2)) rfl (by kernel_rfl) (by kernel_rfl) (by kernel_rfl) (by kernel_rfl) (fun j hj => by simp at hj; simp; omega) (fun _ _ _ h => h) (yields_row (by rfl) 38 _ rfl (w.heap.size + 1 + 1) rfl 38 _ _ (fun wz hz => hz.2.1) Try.underlying38 rfl (by rw [Hs2.out]; kernel_rfl)) HS4.out ?_
  refine wpT_take [3, 5, 6] (i := 2) (v := .agg (hv L)) rfl (by kernel_rfl) (by kernel_rfl) (by kernel_rfl) (by kernel_rfl) (fun j hj => by simp at hj; simp; omega) (fun _ _ _ h => h) (yields_row (by rfl) 38 _ rfl w1.heap.size rfl 38 _ _ (fun wz hz => hz.2.2) Try.underlying38 rfl (by rw [Hls.out]; kernel_rfl)) HS4.out ?_
  refine wpT_one 3 rfl rfl (by kernel_rfl) rfl (fun K hK => ?_)
  have HK := hide hK
  clear hK
  go_simp
  refine (node_any R2 L _ HL2.out Hlast.out).mono ?_
  rintro e w5 ⟨rfl, hb5⟩
  have HF5 := hide (HF4.out.drew.next hb5)
  have HL5 : Hid (w5.heap[w1.heap.size]? = some (.cells (hv L) 38 (0, 0))) := by
    show w5.heap[w1.heap.size]? = _
    rw [hb5.block _ (heap_lt HL4.out)]; exact HL4.out
  clear hb5
  refine HK.out _ _ ⟨HF5.out.2.2.1, HF5.out.2.2.2, HL5.out⟩ ?_
  clear HK
  refine wpT_store 5 rfl rfl (by kernel_rfl) rfl (fun K hK => ?_)
  refine wp_store_row 38 _ _ rfl (w.heap.size + 1) (hv R1) rfl rfl 38 _ HF5.out.2.2.1 (by rw [Hs1.out]; kernel_rfl) rfl (hv_one _) (hK _ _ ?_)
  refine wpAny_one 6 rfl rfl (by kernel_rfl) (fun K hK => ?_)
  refine wp_store_row 38 _ _ rfl (w.heap.size + 1 + 1) (hv (nodeH R2 L)) rfl rfl 38 _ (HF5.out.set1 R1).2.2.2 (by kernel_rfl) (by rw [Hs2.out]; rfl) (hv_one _) (hK _ _ ?_)
  refine wpAny_one 7 rfl rfl (by kernel_rfl) (fun K hK => ?_)
  have HK := hide hK
  clear hK
  go_simp
  refine HK.out _ _ (wpAny_done (by kernel_rfl) ?_ _)
  clear HK
  go_wp2
  refine bodyPost_ret (v := .tuple #[.agg (hv R1), .agg (hv (nodeH R2 L)), .bool R3]) (results_rows2_tmp Try.results42 _ _ (w.heap.size + 1) (w.heap.size + 1 + 1) 38 _ _ _ rfl ((HF5.out.set1 R1).set2 (nodeH R2 L)).2.2.1 rfl ((HF5.out.set1 R1).set2 (nodeH R2 L)).2.2.2 Try.underlying38 rfl (by rw [Hs1.out]; kernel_rfl) (by kernel_rfl) _ rfl) rfl ⟨rfl, ?_⟩
  exact ((HF5.out.set1 R1).set2 (nodeH R2 L)).1
set_option maxHeartbeats 4000000 in
theorem rts_right (a : List UInt8) (ha : a.length = 8) (f m n : Nat) (hm1 : 1 ≤ m) (hmn : m < n) (hn : n ≤ 9223372036854775807) (hmk : ¬ m ≤ kOf n) (b off q cap : Nat) (ps : List (List UInt8)) (whole : Bool) (w : World) (hq : ps.length = q + 1) (hq6 : q ≤ 1000000) (hcap : q + 1 ≤ cap) (h8 : ∀ p ∈ ps, p.length = 8)
    (hr : w.rangeAt b (off + q * 8) (hv (ps.getLastD [])).toList) (ht : Hss w (.slice (some ⟨b, off, none⟩) q cap) ps.dropLast)
    (ih : ∀ (m n : Int) (v : Value) (ps : List (List UInt8)) (whole : Bool) (w : World), 1 ≤ m → m ≤ n → n ≤ 9223372036854775807 → ps.length < f → ps.length ≤ 1000000 → Hss w v ps → Calls Try.prog 42 #[.int .i64 m, .int .i64 n, .agg (hv a), v, .bool whole] w fun r w' => r = .returned (.tuple #[.agg (hv (rtsF zero8 a f m.toNat n.toNat ps whole).1), .agg (hv (rtsF zero8 a f m.toNat n.toNat ps whole).2.1), .bool (rtsF zero8 a f m.toNat n.toNat ps whole).2.2]) ∧ Below w.heap.size w w')
    (hf : ps.length < f + 1) :
    Calls Try.prog 42 #[.int .i64 m, .int .i64 n, .agg (hv a), .slice (some ⟨b, off, none⟩) (q + 1) cap, .bool whole] w fun r w' => r = .returned (.tuple #[.agg (hv (rtsF zero8 a (f + 1) m n ps whole).1), .agg (hv (rtsF zero8 a (f + 1) m n ps whole).2.1), .bool (rtsF zero8 a (f + 1) m n ps whole).2.2]) ∧ Below w.heap.size w w' := by
  rw [rtsF_right _ _ _ _ _ _ _ (by omega) (by omega) hmk]
  obtain ⟨k1, k2, k3⟩ := kOf_spec n (by omega)
  have hlast : (ps.getLastD []).length = 8 := by
    rw [(last_split ps q hq []).1]; exact h8 _ (List.getElem_mem _)
  have hdl : ps.dropLast.length = q := by rw [List.length_dropLast, hq]; rfl
  have hs : (hv a).size = 8 := by rw [hv_size, ha]
  have Hs := hide hs
  have hls : (hv (ps.getLastD [])).size = 8 := by rw [hv_size, hlast]
  have Hls := hide hls
  have Hlast := hide hlast
  have IH := hide (ih ((m : Int) - (kOf n : Int)) ((n : Int) - (kOf n : Int)) (.slice (some ⟨b, off, none⟩) q cap) ps.dropLast false)
  have hL2 := rtsF_len8 zero8 a rfl ha f (m - kOf n) (n - kOf n) ps.dropLast false (fun p hp => h8 p (List.dropLast_subset _ hp))
  have Hd := hide hdl
  have HH := hide ht
  have HR := hide hr
  have Hf := hide hf
  have Hq := hide hq
  have HF := hide (Fq.start w a)
  have n1 : ((m : Int) == (n : Int)) = false := beq_eq_false_iff_ne.2 (by omega)
  have m1 : (((q : Int) + 1) == 0) = false := beq_eq_false_iff_ne.2 (by omega)
  rw [show ((m : Int) - (kOf n : Int)).toNat = m - kOf n by omega, show ((n : Int) - (kOf n : Int)).toNat = n - kOf n by omega] at IH
  clear hs hls hlast ih hdl ht hr hf hq h8 ha
  generalize rtsF zero8 a f (m - kOf n) (n - kOf n) ps.dropLast false = R at *
  obtain ⟨R1, R2, R3⟩ := R
  obtain ⟨l1, l2⟩ := hL2
  have hs1 : (hv R1).size = 8 := by rw [hv_size]; exact l1
  have hs2 : (hv R2).size = 8 := by rw [hv_size]; exact l2
  have Hs1 := hide hs1
  have Hs2 := hide hs2
  have HL2 := hide l2
  have HL1 := hide l1
  clear hs1 hs2 l1 l2
  generalize ps.getLastD [] = L at *
  go_enter Try.func42, Try.ntmps42
  go_wp2_with fail
  refine (cutLast_any b off q cap L _ hq6 hcap Hlast.out (by exact rangeAt_below HR.out HF.out.1)).mono ?_
  rintro e w1 ⟨rfl, hb1⟩
  have HF1 := hide (HF.out.next hb1)
  clear hb1
  go_wp2_with (refine wpList_store_row rfl 38 _ _ rfl w1.heap.size (hv L) rfl rfl 38 _ (heap_alloc_last _ _) (by rw [Hls.out]; kernel_rfl) (by rw [Hls.out]; rfl) (hv_one _) ?_)
  rw [World.setRow_alloc_new]
  refine (split_any n _ (by omega) hn).mono ?_
  rintro e w2 ⟨rfl, hw2⟩
  subst hw2
  have HF2 := hide (HF1.out.next (below_alloc w1 (.cells (hv L) 38)))
  have hmk' : ¬ (m : Int) ≤ (kOf n : Int) := by omega
  go_wp2_with (refine wpList_load_row rfl 38 _ rfl w.heap.size rfl 38 _ (0, 0) _ HF2.out.2.1 Try.underlying38 rfl (by rw [Hs.out]; kernel_rfl) ?_)
  refine (IH.out _ (by omega) (by omega) (by omega) (by rw [Hd.out]; have := Hf.out; rw [Hq.out] at this; omega) (by rw [Hd.out]; exact hq6) (HH.out.below HF2.out.1)).mono ?_
  rintro e w3 ⟨rfl, hb3⟩
  have HL3 : Hid (w3.heap[w1.heap.size]? = some (.cells (hv L) 38 (0, 0))) := by
    show w3.heap[w1.heap.size]? = _
    rw [hb3.block _ (by simp)]; exact heap_alloc_last _ _
  have hne : Hid (w.heap.size + 1 + 1 < w1.heap.size) := heap_lt HF1.out.2.2.2
  have HF3 := hide (HF2.out.next hb3)
  clear hb3
  go_wp2_with (first
    | (refine wpList_store_row rfl 38 _ _ rfl (w.heap.size + 1) (hv R1) rfl rfl 38 _ HF3.out.2.2.1 (by rw [Hs1.out]; kernel_rfl) (by rw [Hs1.out]; rfl) (hv_one _) ?_)
    | (refine wpList_store_row rfl 38 _ _ rfl (w.heap.size + 1 + 1) (hv R2) rfl rfl 38 _ (HF3.out.set1 R1).2.2.2 (by rw [Hs2.out]; kernel_rfl) (by rw [Hs2.out]; rfl) (hv_one _) ?_))
  have HF4 := hide ((HF3.out.set1 R1).set2 R2)
  have HL4 : Hid (((w3.setRow (w.heap.size + 1) (hv R1)).setRow (w.heap.size + 1 + 1) (hv R2)).heap[w1.heap.size]? = some (.cells (hv L) 38 (0, 0))) := by
    have := hne.out
    show ((w3.setRow (w.heap.size + 1) (hv R1)).setRow (w.heap.size + 1 + 1) (hv R2)).heap[w1.heap.size]? = _
    rw [setRow_other _ _ _ _ (by omega), setRow_other _ _ _ _ (by omega)]
    exact HL3.out
  generalize (w3.setRow (w.heap.size + 1) (hv R1)).setRow (w.heap.size + 1 + 1) (hv R2) = W4 at *
  have HS4 : Hid (W4.drew.heap[w.heap.size + 1]? = some (.cells (hv R1) 38 (0, 0)) ∧ W4.drew.heap[w.heap.size + 1 + 1]? = some (.cells (hv R2) 38 (0, 0)) ∧ W4.drew.heap[w1.heap.size]? = some (.cells (hv L) 38 (0, 0))) := ⟨HF4.out.2.2.1, HF4.out.2.2.2, HL4.out⟩
  refine wp_region_T1 (fun wz => wz.heap[w.heap.size + 1]? = some (.cells (hv R1) 38 (0, 0)) ∧ wz.heap[w.heap.size + 1 + 1]? = some (.cells (hv R2) 38 (0, 0)) ∧ wz.heap[w1.heap.size]? = some (.cells (hv L) 38 (0, 0))) (fun j => j == 7 || j == 8) 6 _ (.bool R3) (by kernel_rfl) rfl rfl (by kernel_rfl) (by kernel_rfl) (by kernel_rfl) (fun _ _ _ h => h) rfl rfl rfl ?_
  refine wpT_take [2, 7, 8] (i := 0) (v := .agg (hv L)) rfl (by kernel_rfl) (by kernel_rfl) (by kernel_rfl) (by kernel_rfl) (fun j hj => by simp at hj; simp; omega) (fun _ _ _ h => h) (yields_row (by rfl) 38 _ rfl w1.heap.size rfl 38 _ _ (fun wz hz => hz.2.2) Try.underlying38 rfl (by rw [Hls.out]; kernel_rfl)) HS4.out ?_
  refine wpT_take [2, 7, 8] (i := 1) (v := .agg (hv R1)) rfl (by kernel_rfl) (by kernel_rfl) (by kernel_rfl) (by kernel_rfl) (fun j hj => by simp at hj; simp; omega) (fun _ _ _ h => h) (yields_row (by rfl) 38 _ rfl (w.heap.size + 1) rfl 38 _ _ (fun wz hz => hz.1) Try.underlying38 rfl (by rw [Hs1.out]; kernel_rfl)) HS4.out ?_
  refine wpT_take [5, 7, 8] (i := 3) (v := .agg (hv L)) rfl (by kernel_rfl) (by kernel_rfl) (by kernel_rfl) (by kernel_rfl) (fun j hj => by simp at hj; simp; omega) (fun _ _ _ h => h) (yields_row (by rfl) 38 _ rfl w1.heap.size rfl 38 _ _ (fun wz hz => hz.2.2) Try.underlying38 rfl (by rw [Hls.out]; kernel_rfl)) HS4.out ?_
  refine wpT_take [5, 7, 8] (i := 4) (v := .agg (hv R2)) rfl (by kernel_rfl) (by kernel_rfl) (by kernel_rfl) (by kernel_rfl) (fun j hj => by simp at hj; simp; omega) (fun _ _ _ h => h) (yields_row (by rfl) 38 _ rfl (w.heap.size + 1 + 1) rfl 38 _ _ (fun wz hz => hz.2.1) Try.underlying38 rfl (by rw [Hs2.out]; kernel_rfl)) HS4.out ?_
  refine wpT_one 2 rfl rfl (by kernel_rfl) rfl (fun K hK => ?_)
  have HK := hide hK
  clear hK
  go_simp
  refine (node_any L R1 _ Hlast.out HL1.out).mono ?_
  rintro e w5 ⟨rfl, hb5⟩
  have HF5 := hide (HF4.out.drew.next hb5)
  have HL5 : Hid (w5.heap[w1.heap.size]? = some (.cells (hv L) 38 (0, 0))) := by
    show w5.heap[w1.heap.size]? = _
    rw [hb5.block _ (heap_lt HL4.out)]; exact HL4.out
  clear hb5
  refine HK.out _ _ ⟨HF5.out.2.2.1, HF5.out.2.2.2, HL5.out⟩ ?_
  clear HK
  refine wpT_one 5 rfl rfl (by kernel_rfl) rfl (fun K hK => ?_)
  have HK := hide hK
  clear hK
  go_simp
  refine (node_any L R2 _ Hlast.out HL2.out).mono ?_
  rintro e w6 ⟨rfl, hb6⟩
  have HF6 := hide (HF5.out.next hb6)
  have HL6 : Hid (w6.heap[w1.heap.size]? = some (.cells (hv L) 38 (0, 0))) := by
    show w6.heap[w1.heap.size]? = _
    rw [hb6.block _ (heap_lt HL5.out)]; exact HL5.out
  clear hb6
  refine HK.out _ _ ⟨HF6.out.2.2.1, HF6.out.2.2.2, HL6.out⟩ ?_
  clear HK
  refine wpT_store 7 rfl rfl (by kernel_rfl) rfl (fun K hK => ?_)
  refine wp_store_row 38 _ _ rfl (w.heap.size + 1) (hv (nodeH L R1)) rfl rfl 38 _ HF6.out.2.2.1 (by kernel_rfl) (by rw [Hs1.out]; rfl) (hv_one _) (hK _ _ ?_)
  refine wpAny_one 8 rfl rfl (by kernel_rfl) (fun K hK => ?_)
  refine wp_store_row 38 _ _ rfl (w.heap.size + 1 + 1) (hv (nodeH L R2)) rfl rfl 38 _ (HF6.out.set1 (nodeH L R1)).2.2.2 (by kernel_rfl) (by rw [Hs2.out]; rfl) (hv_one _) (hK _ _ ?_)
  refine wpAny_one 9 rfl rfl (by kernel_rfl) (fun K hK => ?_)
  have HK := hide hK
  clear hK
  go_simp
  refine HK.out _ _ (wpAny_done (by kernel_rfl) ?_ _)
  clear HK
  go_wp2
  refine bodyPost_ret (v := .tuple #[.agg (hv (nodeH L R1)), .agg (hv (nodeH L R2)), .bool R3]) (results_rows2_tmp Try.results42 _ _ (w.heap.size + 1) (w.heap.size + 1 + 1) 38 _ _ _ rfl ((HF6.out.set1 (nodeH L R1)).set2 (nodeH L R2)).2.2.1 rfl ((HF6.out.set1 (nodeH L R1)).set2 (nodeH L R2)).2.2.2 Try.underlying38 rfl (by kernel_rfl) (by kernel_rfl) _ rfl) rfl ⟨rfl, ?_⟩
  exact ((HF6.out.set1 (nodeH L R1)).set2 (nodeH L R2)).1

theorem rts_any (a : List UInt8) (ha : a.length = 8) (f : Nat) : ∀ (m n : Int) (v : Value) (ps : List (List UInt8)) (whole : Bool) (w : World), 1 ≤ m → m ≤ n → n ≤ 9223372036854775807 → ps.length < f → ps.length ≤ 1000000 → Hss w v ps →
    Calls Try.prog 42 #[.int .i64 m, .int .i64 n, .agg (hv a), v, .bool whole] w fun r w' => r = .returned (.tuple #[.agg (hv (rtsF zero8 a f m.toNat n.toNat ps whole).1), .agg (hv (rtsF zero8 a f m.toNat n.toNat ps whole).2.1), .bool (rtsF zero8 a f m.toNat n.toNat ps whole).2.2]) ∧ Below w.heap.size w w' := by
  induction f with
  | zero => exact fun m n v ps whole w _ _ _ h => absurd h (Nat.not_lt_zero _)
  | succ f ih =>
    intro m n v ps whole w h0 hmn hn hf hp h
    obtain ⟨M, rfl⟩ := Int.eq_ofNat_of_zero_le (show 0 ≤ m by omega)
    obtain ⟨N, rfl⟩ := Int.eq_ofNat_of_zero_le (show 0 ≤ n by omega)
    rw [Int.toNat_natCast, Int.toNat_natCast]
    by_cases h1 : M = N
    · subst h1
      exact rts_eq a ha f M v ps whole w h
    by_cases hz : ps.length = 0
    · exact rts_none a ha f M N h1 v ps whole w hz h
    obtain ⟨q, hq⟩ : ∃ q, ps.length = q + 1 := ⟨ps.length - 1, by omega⟩
    obtain ⟨c, cap, rfl, hcap, h8, hh⟩ := h
    rcases hh with hh | ⟨b, off, rfl, hc⟩
    · exact absurd (by simp [hh]) hz
    have hr : w.rangeAt b (off + q * 8) (hv (ps.getLastD [])).toList := by
      rw [(last_split ps q hq []).1]; exact hc q (by omega)
    have ht : Hss w (.slice (some ⟨b, off, none⟩) q cap) ps.dropLast := by
      rw [(last_split ps q hq []).2]
      have hlm : (ps.take q).length = q := by simp; omega
      refine ⟨_, cap, by rw [hlm], by rw [hlm]; omega, fun p hp => h8 p (List.mem_of_mem_take hp), .inr ⟨b, off, rfl, fun j hj => ?_⟩⟩
      rw [List.getElem_take]
      exact hc j (by rw [hlm] at hj; omega)
    rw [hq]
    by_cases hik : M ≤ kOf N
    · exact rts_left a ha f M N (by omega) (by omega) (by omega) hik b off q cap ps whole w hq (by omega) (by omega) h8 hr ht ih hf
    · exact rts_right a ha f M N (by omega) (by omega) (by omega) hik b off q cap ps whole w hq (by omega) (by omega) h8 hr ht ih hf
end Go.Proofs.Ytfgbghmefomolaa
