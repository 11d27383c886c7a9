
import Derived.Test.YtfgbghmefomolaaCutWalks
import Derived.Test.YtfgbghmefomolaaRebMath
namespace Go.Proofs.Ytfgbghmefomolaa
open Go.RowKit
set_option maxRecDepth 100000

theorem results_row_tmp {P : Program} {fn : Func} {p u : Tmp} {ty : TypeId} (h : fn.results = #[.cell p ty, .tmp u]) (tmps : Array Value) (w : World) (g : Nat) (t : TypeId) (cs : Array Value) (fr : Nat × Nat) (d : TypeDesc)
    (hp : tmps.getD p undef = .pointer (some ⟨g, 0, none⟩)) (hg : w.heap[g]? = some (.cells cs t fr))
    (hu : P.underlying ty = some d) (hd : (match d with | .struct _ | .array _ _ => true | _ => false) = true) (hi : (P.info? ty).map (·.size) = some cs.size) (x : Value) (hx : tmps.getD u undef = x) :
    (results fn tmps).run P w = .ok (.tuple #[.agg cs, x]) w := by
  rw [results_cell_tmp h, hp, hx]
  simp [asAddr, run_loadVar_row w g t ty cs fr d hg hu hd hi]

/-- The frame of rebuildRoot: the box of the leaf, the cell of the result. -/
def Fr (w : World) (leaf : List UInt8) (wz : World) : Prop :=
  Below w.heap.size w wz ∧ wz.heap[w.heap.size]? = some (.cells (hv leaf) 38 (0, 0)) ∧ wz.heap[w.heap.size + 1]? = some (.cells #[Value.int IntKind.u8 0, Value.int IntKind.u8 0, Value.int IntKind.u8 0, Value.int IntKind.u8 0, Value.int IntKind.u8 0, Value.int IntKind.u8 0, Value.int IntKind.u8 0, Value.int IntKind.u8 0] 38 (0, 0))
theorem Fr.start (w : World) (leaf : List UInt8) : Fr w leaf ((w.alloc (.cells (hv leaf) 38)).alloc (.cells #[Value.int IntKind.u8 0, Value.int IntKind.u8 0, Value.int IntKind.u8 0, Value.int IntKind.u8 0, Value.int IntKind.u8 0, Value.int IntKind.u8 0, Value.int IntKind.u8 0, Value.int IntKind.u8 0] 38)) := by
  refine ⟨below_alloc2 _ _ _, heap_alloc_old (heap_alloc_last _ _), ?_⟩
  rw [show w.heap.size + 1 = (w.alloc (.cells (hv leaf) 38)).heap.size by simp]
  exact heap_alloc_last _ _
theorem Fr.next {w wz wy : World} {leaf : List UInt8} (h : Fr w leaf wz) (hb : Below wz.heap.size wz wy) : Fr w leaf wy :=
  ⟨h.1.trans (hb.mono h.1.size), by rw [hb.block _ (heap_lt h.2.1)]; exact h.2.1, by rw [hb.block _ (heap_lt h.2.2)]; exact h.2.2⟩

set_option maxHeartbeats 1000000 in
theorem reb_one (leaf : List UInt8) (hl : leaf.length = 8) (f : Nat) (i : Int) (v : Value) (ps : List (List UInt8)) (w : World) (h : Hss w v ps) :
    Calls Try.prog 41 #[.agg (hv leaf), .int .i64 i, .int .i64 1, v] w fun r w' => r = .returned (.tuple #[.agg (hv (rebF zero8 (f + 1) leaf i.toNat 1 ps).1), .bool (rebF zero8 (f + 1) leaf i.toNat 1 ps).2]) ∧ Below w.heap.size w w' := by
  rw [rebF_one]
  obtain ⟨a, cap, rfl, -, -, -⟩ := h
  have hs : (hv leaf).size = 8 := by rw [hv_size, hl]
  have Hs := hide hs
  clear hs hl
  have HF := hide (Fr.start w leaf)
  have hd : ((ps.length : Int) == 0) = decide (ps.length = 0) := by
    rw [Bool.eq_iff_iff]; simp
  have Hd := hide hd
  clear hd
  go_enter Try.func41, Try.ntmps41
  go_wp2_with (first
    | (refine wpList_load_row rfl 38 _ rfl w.heap.size rfl 38 _ (0, 0) _ HF.out.2.1 Try.underlying38 rfl (by rw [Hs.out]; kernel_rfl) ?_)
    | (refine wpList_store_row rfl 38 _ _ rfl (w.heap.size + 1) (hv leaf) rfl rfl 38 _ HF.out.2.2 (by rw [Hs.out]; kernel_rfl) (by rw [Hs.out]; rfl) (hv_one _) ?_))
  refine bodyPost_ret (v := .tuple #[.agg (hv leaf), .bool ((ps.length : Int) == 0)]) (results_row_tmp Try.results41 _ _ (w.heap.size + 1) 38 _ (0, 0) _ rfl (setRow_heap _ _ _ _ _ _ HF.out.2.2) Try.underlying38 rfl (by rw [Hs.out]; kernel_rfl) _ rfl) rfl ⟨by rw [Hd.out], ?_⟩
  exact below_setRow HF.out.1 (Nat.le_succ _) _

set_option maxHeartbeats 1000000 in
theorem reb_none (leaf : List UInt8) (hl : leaf.length = 8) (f : Nat) (i n : Nat) (h1 : n ≠ 1) (v : Value) (ps : List (List UInt8)) (w : World) (h0 : ps.length = 0) (h : Hss w v ps) :
    Calls Try.prog 41 #[.agg (hv leaf), .int .i64 i, .int .i64 n, v] w fun r w' => r = .returned (.tuple #[.agg (hv (rebF zero8 (f + 1) leaf i n ps).1), .bool (rebF zero8 (f + 1) leaf i n ps).2]) ∧ Below w.heap.size w w' := by
  rw [rebF_none _ _ _ _ _ _ h1 h0]
  obtain ⟨a, cap, rfl, -, -, -⟩ := h
  rw [h0]
  have hs : (hv leaf).size = 8 := by rw [hv_size, hl]
  have Hs := hide hs
  clear hs hl
  have HF := hide (Fr.start w leaf)
  have n1 : ((n : Int) == 1) = false := beq_eq_false_iff_ne.2 (by omega)
  clear h1
  go_enter Try.func41, Try.ntmps41
  go_wp2_with (first
    | (refine wpList_store_row rfl 38 _ _ rfl (w.heap.size + 1) (hv zero8) rfl rfl 38 _ HF.out.2.2 (by kernel_rfl) rfl (hv_one _) ?_))
  refine bodyPost_ret (v := .tuple #[.agg (hv zero8), .bool false]) (results_row_tmp Try.results41 _ _ (w.heap.size + 1) 38 _ (0, 0) _ rfl (setRow_heap _ _ _ _ _ _ HF.out.2.2) Try.underlying38 rfl (by kernel_rfl) _ rfl) rfl ⟨rfl, ?_⟩
  exact below_setRow HF.out.1 (Nat.le_succ _) _

set_option maxHeartbeats 2000000 in
theorem reb_left (leaf : List UInt8) (hl : leaf.length = 8) (f : Nat) (i n : Nat) (h2 : 2 ≤ n) (hn : n ≤ 9223372036854775807) (_hin : i < n) (hik : i < kOf n) (b off m cap : Nat) (ps : List (List UInt8)) (w : World) (hm : ps.length = m + 1) (hm6 : m ≤ 1000000) (hcap : m + 1 ≤ cap) (h8 : ∀ p ∈ ps, p.length = 8)
    (hr : w.rangeAt b (off + m * 8) (hv (ps.getLastD [])).toList) (ht : Hss w (.slice (some ⟨b, off, none⟩) m cap) ps.dropLast)
    (ih : ∀ (i n : Int) (v : Value) (ps : List (List UInt8)) (w : World), 0 ≤ i → i < n → n ≤ 9223372036854775807 → ps.length < f → ps.length ≤ 1000000 → Hss w v ps → Calls Try.prog 41 #[.agg (hv leaf), .int .i64 i, .int .i64 n, v] w fun r w' => r = .returned (.tuple #[.agg (hv (rebF zero8 f leaf i.toNat n.toNat ps).1), .bool (rebF zero8 f leaf i.toNat n.toNat ps).2]) ∧ Below w.heap.size w w')
    (hf : ps.length < f + 1) :
    Calls Try.prog 41 #[.agg (hv leaf), .int .i64 i, .int .i64 n, .slice (some ⟨b, off, none⟩) (m + 1) cap] w fun r w' => r = .returned (.tuple #[.agg (hv (rebF zero8 (f + 1) leaf i n ps).1), .bool (rebF zero8 (f + 1) leaf i n ps).2]) ∧ Below w.heap.size w w' := by
  rw [rebF_left _ _ _ _ _ _ (by omega) (by omega) hik]
  obtain ⟨k1, k2, k3⟩ := kOf_spec n h2
  have hlast : (ps.getLastD []).length = 8 := by
    rw [(last_split ps m hm []).1]; exact h8 _ (List.getElem_mem _)
  have hdl : ps.dropLast.length = m := by rw [List.length_dropLast, hm]; rfl
  have hs : (hv leaf).size = 8 := by rw [hv_size, hl]
  have Hs := hide hs
  have hls : (hv (ps.getLastD [])).size = 8 := by rw [hv_size, hlast]
  have Hls := hide hls
  have Hlast := hide hlast
  have IH := hide (ih i (kOf n) (.slice (some ⟨b, off, none⟩) m cap) ps.dropLast)
  have Hd := hide hdl
  have HH := hide ht
  have HR := hide hr
  have Hf := hide hf
  have HF := hide (Fr.start w leaf)
  have Hz : Hid (zero8.length = 8) := rfl
  have Hll := hide hl
  have Hm := hide hm
  have n1 : ((n : Int) == 1) = false := beq_eq_false_iff_ne.2 (by omega)
  have m1 : (((m : Int) + 1) == 0) = false := beq_eq_false_iff_ne.2 (by omega)
  clear hs hls hlast ih hdl ht hr hf hl hm h8
  have HLf := hide (rebF_len8 zero8 leaf rfl Hll.out f (i : Int).toNat ((kOf n) : Int).toNat ps.dropLast)
  have HE := hide (And.intro (show (i : Int).toNat = i by omega) (show ((kOf n) : Int).toNat = (kOf n) by omega))
  rw [HE.out.1, HE.out.2] at IH HLf
  generalize hR : rebF zero8 f leaf i (kOf n) ps.dropLast = R at *
  have HRR := hide hR
  clear hR
  obtain ⟨R1, R2⟩ := R
  generalize ps.getLastD [] = L at *
  have hrs : (hv R1).size = 8 := by rw [hv_size]; exact HLf.out
  have Hrs := hide hrs
  clear hrs
  go_enter Try.func41, Try.ntmps41
  go_wp2_with fail
  refine (cutLast_any b off m cap L _ hm6 hcap Hlast.out (by exact rangeAt_below HR.out HF.out.1)).mono ?_
  rintro e w1 ⟨rfl, hb1⟩
  have HF1 := hide (HF.out.next hb1)
  clear hb1
  go_wp2_with (refine wpList_store_row rfl 38 _ _ rfl w1.heap.size (hv L) rfl rfl 38 _ (heap_alloc_last _ _) (by rw [Hls.out]; kernel_rfl) (by rw [Hls.out]; rfl) (hv_one _) ?_)
  rw [World.setRow_alloc_new]
  refine (split_any n _ h2 hn).mono ?_
  rintro e w2 ⟨rfl, hw2⟩
  subst hw2
  have HF2 := hide (HF1.out.next (below_alloc w1 (.cells (hv L) 38)))
  have hik' : (i : Int) < (kOf n : Int) := by omega
  go_wp2_with (refine wpList_load_row rfl 38 _ rfl w.heap.size rfl 38 _ (0, 0) _ HF2.out.2.1 Try.underlying38 rfl (by rw [Hs.out]; kernel_rfl) ?_)
  refine (IH.out _ (by omega) (by omega) (by omega) (by rw [Hd.out]; have := Hf.out; rw [Hm.out] at this; omega) (by rw [Hd.out]; exact hm6) (HH.out.below HF2.out.1)).mono ?_
  rintro e w3 ⟨rfl, hb3⟩
  have HL3 : Hid (w3.heap[w1.heap.size]? = some (.cells (hv L) 38 (0, 0))) := by
    show w3.heap[w1.heap.size]? = _
    rw [hb3.block _ (by simp)]; exact heap_alloc_last _ _
  have HF3 := hide (HF2.out.next hb3)
  have hne : Hid (w1.heap.size ≠ w3.heap.size) := by
    have := hb3.size
    simp only [size_alloc] at this
    show w1.heap.size ≠ w3.heap.size
    omega
  clear hb3
  go_wp2_with (first
    | (refine wpList_store_row rfl 38 _ _ rfl w3.heap.size (hv R1) rfl rfl 38 _ (heap_alloc_last _ _) (by rw [Hrs.out]; kernel_rfl) (by rw [Hrs.out]; rfl) (hv_one _) ?_)
    | (refine wpList_load_row rfl 38 _ rfl w3.heap.size rfl 38 _ (0, 0) _ (setRow_heap _ _ _ _ _ _ (heap_alloc_last _ _)) Try.underlying38 rfl (by rw [Hrs.out]; kernel_rfl) ?_)
    | (refine wpList_load_row rfl 38 _ rfl w1.heap.size rfl 38 _ (0, 0) _ (by rw [setRow_other _ _ _ _ hne.out]; exact heap_alloc_old HL3.out) Try.underlying38 rfl (by rw [Hls.out]; kernel_rfl) ?_))
  rw [World.setRow_alloc_new]
  refine (node_any R1 L _ HLf.out Hlast.out).mono ?_
  rintro e w4 ⟨rfl, hb4⟩
  have HF4 := hide ((HF3.out.next (below_alloc w3 _)).next hb4)
  clear hb4
  go_wp2_with (refine wpList_store_row rfl 38 _ _ rfl (w.heap.size + 1) (hv (nodeH R1 L)) rfl rfl 38 _ HF4.out.2.2 (by kernel_rfl) rfl (hv_one _) ?_)
  refine bodyPost_ret (v := .tuple #[.agg (hv (nodeH R1 L)), .bool R2]) (results_row_tmp Try.results41 _ _ (w.heap.size + 1) 38 _ (0, 0) _ rfl (setRow_heap _ _ _ _ _ _ HF4.out.2.2) Try.underlying38 rfl (by kernel_rfl) _ rfl) rfl ⟨rfl, ?_⟩
  exact below_setRow HF4.out.1 (Nat.le_succ _) _

set_option maxHeartbeats 2000000 in
theorem reb_right (leaf : List UInt8) (hl : leaf.length = 8) (f : Nat) (i n : Nat) (h2 : 2 ≤ n) (hn : n ≤ 9223372036854775807) (_hin : i < n) (hik : ¬ i < kOf n) (b off m cap : Nat) (ps : List (List UInt8)) (w : World) (hm : ps.length = m + 1) (hm6 : m ≤ 1000000) (hcap : m + 1 ≤ cap) (h8 : ∀ p ∈ ps, p.length = 8)
    (hr : w.rangeAt b (off + m * 8) (hv (ps.getLastD [])).toList) (ht : Hss w (.slice (some ⟨b, off, none⟩) m cap) ps.dropLast)
    (ih : ∀ (i n : Int) (v : Value) (ps : List (List UInt8)) (w : World), 0 ≤ i → i < n → n ≤ 9223372036854775807 → ps.length < f → ps.length ≤ 1000000 → Hss w v ps → Calls Try.prog 41 #[.agg (hv leaf), .int .i64 i, .int .i64 n, v] w fun r w' => r = .returned (.tuple #[.agg (hv (rebF zero8 f leaf i.toNat n.toNat ps).1), .bool (rebF zero8 f leaf i.toNat n.toNat ps).2]) ∧ Below w.heap.size w w')
    (hf : ps.length < f + 1) :
    Calls Try.prog 41 #[.agg (hv leaf), .int .i64 i, .int .i64 n, .slice (some ⟨b, off, none⟩) (m + 1) cap] w fun r w' => r = .returned (.tuple #[.agg (hv (rebF zero8 (f + 1) leaf i n ps).1), .bool (rebF zero8 (f + 1) leaf i n ps).2]) ∧ Below w.heap.size w w' := by
  rw [rebF_right _ _ _ _ _ _ (by omega) (by omega) hik]
  obtain ⟨k1, k2, k3⟩ := kOf_spec n h2
  have hlast : (ps.getLastD []).length = 8 := by
    rw [(last_split ps m hm []).1]; exact h8 _ (List.getElem_mem _)
  have hdl : ps.dropLast.length = m := by rw [List.length_dropLast, hm]; rfl
  have hs : (hv leaf).size = 8 := by rw [hv_size, hl]
  have Hs := hide hs
  have hls : (hv (ps.getLastD [])).size = 8 := by rw [hv_size, hlast]
  have Hls := hide hls
  have Hlast := hide hlast
  have IH := hide (ih ((i : Int) - (kOf n : Int)) ((n : Int) - (kOf n : Int)) (.slice (some ⟨b, off, none⟩) m cap) ps.dropLast)
  have Hd := hide hdl
  have HH := hide ht
  have HR := hide hr
  have Hf := hide hf
  have HF := hide (Fr.start w leaf)
  have Hz : Hid (zero8.length = 8) := rfl
  have Hll := hide hl
  have Hm := hide hm
  have n1 : ((n : Int) == 1) = false := beq_eq_false_iff_ne.2 (by omega)
  have m1 : (((m : Int) + 1) == 0) = false := beq_eq_false_iff_ne.2 (by omega)
  clear hs hls hlast ih hdl ht hr hf hl hm h8
  have HLf := hide (rebF_len8 zero8 leaf rfl Hll.out f (((i : Int) - (kOf n : Int)) : Int).toNat (((n : Int) - (kOf n : Int)) : Int).toNat ps.dropLast)
  have HE := hide (And.intro (show ((i : Int) - (kOf n : Int)).toNat = i - kOf n by omega) (show (((n : Int) - (kOf n : Int)) : Int).toNat = (n - kOf n) by omega))
  rw [HE.out.1, HE.out.2] at IH HLf
  generalize hR : rebF zero8 f leaf (i - kOf n) (n - kOf n) ps.dropLast = R at *
  have HRR := hide hR
  clear hR
  obtain ⟨R1, R2⟩ := R
  generalize ps.getLastD [] = L at *
  have hrs : (hv R1).size = 8 := by rw [hv_size]; exact HLf.out
  have Hrs := hide hrs
  clear hrs
  go_enter Try.func41, Try.ntmps41
  go_wp2_with fail
  refine (cutLast_any b off m cap L _ hm6 hcap Hlast.out (by exact rangeAt_below HR.out HF.out.1)).mono ?_
  rintro e w1 ⟨rfl, hb1⟩
  have HF1 := hide (HF.out.next hb1)
  clear hb1
  go_wp2_with (refine wpList_store_row rfl 38 _ _ rfl w1.heap.size (hv L) rfl rfl 38 _ (heap_alloc_last _ _) (by rw [Hls.out]; kernel_rfl) (by rw [Hls.out]; rfl) (hv_one _) ?_)
  rw [World.setRow_alloc_new]
  refine (split_any n _ h2 hn).mono ?_
  rintro e w2 ⟨rfl, hw2⟩
  subst hw2
  have HF2 := hide (HF1.out.next (below_alloc w1 (.cells (hv L) 38)))
  have hik' : ¬ (i : Int) < (kOf n : Int) := by omega
  go_wp2_with (refine wpList_load_row rfl 38 _ rfl w.heap.size rfl 38 _ (0, 0) _ HF2.out.2.1 Try.underlying38 rfl (by rw [Hs.out]; kernel_rfl) ?_)
  refine (IH.out _ (by omega) (by omega) (by omega) (by rw [Hd.out]; have := Hf.out; rw [Hm.out] at this; omega) (by rw [Hd.out]; exact hm6) (HH.out.below HF2.out.1)).mono ?_
  rintro e w3 ⟨rfl, hb3⟩
  have HL3 : Hid (w3.heap[w1.heap.size]? = some (.cells (hv L) 38 (0, 0))) := by
    show w3.heap[w1.heap.size]? = _
    rw [hb3.block _ (by simp)]; exact heap_alloc_last _ _
  have HF3 := hide (HF2.out.next hb3)
  have hne : Hid (w1.heap.size ≠ w3.heap.size) := by
    have := hb3.size
    simp only [size_alloc] at this
    show w1.heap.size ≠ w3.heap.size
    omega
  clear hb3
  go_wp2_with (first
    | (refine wpList_store_row rfl 38 _ _ rfl w3.heap.size (hv R1) rfl rfl 38 _ (heap_alloc_last _ _) (by rw [Hrs.out]; kernel_rfl) (by rw [Hrs.out]; rfl) (hv_one _) ?_)
    | (refine wpList_load_row rfl 38 _ rfl w3.heap.size rfl 38 _ (0, 0) _ (setRow_heap _ _ _ _ _ _ (heap_alloc_last _ _)) Try.underlying38 rfl (by rw [Hrs.out]; kernel_rfl) ?_)
    | (refine wpList_load_row rfl 38 _ rfl w1.heap.size rfl 38 _ (0, 0) _ (by rw [setRow_other _ _ _ _ hne.out]; exact heap_alloc_old HL3.out) Try.underlying38 rfl (by rw [Hls.out]; kernel_rfl) ?_))
  rw [World.setRow_alloc_new]
  refine (node_any L R1 _ Hlast.out HLf.out).mono ?_
  rintro e w4 ⟨rfl, hb4⟩
  have HF4 := hide ((HF3.out.next (below_alloc w3 _)).next hb4)
  clear hb4
  go_wp2_with (refine wpList_store_row rfl 38 _ _ rfl (w.heap.size + 1) (hv (nodeH L R1)) rfl rfl 38 _ HF4.out.2.2 (by kernel_rfl) rfl (hv_one _) ?_)
  refine bodyPost_ret (v := .tuple #[.agg (hv (nodeH L R1)), .bool R2]) (results_row_tmp Try.results41 _ _ (w.heap.size + 1) 38 _ (0, 0) _ rfl (setRow_heap _ _ _ _ _ _ HF4.out.2.2) Try.underlying38 rfl (by kernel_rfl) _ rfl) rfl ⟨rfl, ?_⟩
  exact below_setRow HF4.out.1 (Nat.le_succ _) _

theorem reb_any (leaf : List UInt8) (hl : leaf.length = 8) (f : Nat) : ∀ (i n : Int) (v : Value) (ps : List (List UInt8)) (w : World), 0 ≤ i → i < n → n ≤ 9223372036854775807 → ps.length < f → ps.length ≤ 1000000 → Hss w v ps →
    Calls Try.prog 41 #[.agg (hv leaf), .int .i64 i, .int .i64 n, v] w fun r w' => r = .returned (.tuple #[.agg (hv (rebF zero8 f leaf i.toNat n.toNat ps).1), .bool (rebF zero8 f leaf i.toNat n.toNat ps).2]) ∧ Below w.heap.size w w' := by
  induction f with
  | zero => exact fun i n v ps w _ _ _ h => absurd h (Nat.not_lt_zero _)
  | succ f ih =>
    intro i n v ps w h0 hin hn hf hp h
    obtain ⟨I, rfl⟩ := Int.eq_ofNat_of_zero_le h0
    obtain ⟨N, rfl⟩ := Int.eq_ofNat_of_zero_le (show 0 ≤ n by omega)
    rw [Int.toNat_natCast, Int.toNat_natCast]
    by_cases h1 : N = 1
    · subst h1
      have := reb_one leaf hl f (I : Int) v ps w h
      rwa [Int.toNat_natCast] at this
    by_cases hz : ps.length = 0
    · exact reb_none leaf hl f I N h1 v ps w hz h
    obtain ⟨m, hm⟩ : ∃ m, ps.length = m + 1 := ⟨ps.length - 1, by omega⟩
    have h' := h
    obtain ⟨a, cap, rfl, hcap, h8, hh⟩ := h
    rcases hh with hh | ⟨b, off, rfl, hc⟩
    · exact absurd (by simp [hh]) hz
    have hr : w.rangeAt b (off + m * 8) (hv (ps.getLastD [])).toList := by
      rw [(last_split ps m hm []).1]; exact hc m (by omega)
    have ht : Hss w (.slice (some ⟨b, off, none⟩) m cap) ps.dropLast := by
      rw [(last_split ps m hm []).2]
      have hlm : (ps.take m).length = m := by simp; omega
      refine ⟨_, cap, by rw [hlm], by rw [hlm]; omega, fun p hp => h8 p (List.mem_of_mem_take hp), .inr ⟨b, off, rfl, fun j hj => ?_⟩⟩
      rw [List.getElem_take]
      exact hc j (by rw [hlm] at hj; omega)
    rw [hm]
    by_cases hik : I < kOf N
    · exact reb_left leaf hl f I N (by omega) (by omega) (by omega) hik b off m cap ps w hm (by omega) (by omega) h8 hr ht ih hf
    · exact reb_right leaf hl f I N (by omega) (by omega) (by omega) hik b off m cap ps w hm (by omega) (by omega) h8 hr ht ih hf
end Go.Proofs.Ytfgbghmefomolaa
