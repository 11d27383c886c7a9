
import Derived.Test.YtfgbghmefomolaaRebWalks
import Derived.Test.YtfgbghmefomolaaRefReb
import Derived.Test.YtfgbghmefomolaaEqHash
namespace Go.Proofs.Ytfgbghmefomolaa
open Go.RowKit
set_option maxRecDepth 100000

/-- The cells of two blocks of eight. -/
theorem cellsI8 {w : World} {g : Nat} {t : TypeId} {x0 x1 x2 x3 x4 x5 x6 x7 : Int} (hg : w.heap[g]? = some (.cells #[.int .u8 x0, .int .u8 x1, .int .u8 x2, .int .u8 x3, .int .u8 x4, .int .u8 x5, .int .u8 x6, .int .u8 x7] t (0, 0))) :
    w.cell? ⟨g, 0, none⟩ = some (.int .u8 x0) ∧ w.cell? ⟨g, 1, none⟩ = some (.int .u8 x1) ∧ w.cell? ⟨g, 2, none⟩ = some (.int .u8 x2) ∧ w.cell? ⟨g, 3, none⟩ = some (.int .u8 x3) ∧ w.cell? ⟨g, 4, none⟩ = some (.int .u8 x4) ∧ w.cell? ⟨g, 5, none⟩ = some (.int .u8 x5) ∧ w.cell? ⟨g, 6, none⟩ = some (.int .u8 x6) ∧ w.cell? ⟨g, 7, none⟩ = some (.int .u8 x7) := by
  refine ⟨?_, ?_, ?_, ?_, ?_, ?_, ?_, ?_⟩ <;> (rw [cell_of_row _ _ _ _ _ _ hg]; rfl)

set_option maxHeartbeats 1000000 in
theorem inc_out (leaf root : List UInt8) (i n : Int) (v : Value) (ps : List (List UInt8)) (w : World) (hout : i < 0 ∨ n ≤ i) (hl : leaf.length = 8) (hr : root.length = 8) (h : Hss w v ps) :
    Calls Try.prog 30 #[.agg (hv leaf), .int .i64 i, .int .i64 n, v, .agg (hv root)] w fun r w' => r = .returned (.bool false) ∧ Below w.heap.size w w' := by
  obtain ⟨a, cap, rfl, -, -, -⟩ := h
  have hs : (hv leaf).size = 8 := by rw [hv_size, hl]
  have hs' : (hv root).size = 8 := by rw [hv_size, hr]
  by_cases hneg : i < 0
  · go_enter Try.func30, Try.ntmps30
    go_wp2
    go_ret
    exact ⟨rfl, below_alloc2 _ _ _⟩
  · have hge : n ≤ i := by omega
    clear hout
    go_enter Try.func30, Try.ntmps30
    go_wp2
    go_ret
    exact ⟨rfl, below_alloc2 _ _ _⟩

set_option maxHeartbeats 2000000 in
theorem inc_in (f : Nat) (leaf root : List UInt8) (i n : Int) (hi0 : 0 ≤ i) (hin : i < n) (hn : n ≤ 9223372036854775807) (v : Value) (ps : List (List UInt8)) (w : World) (hf : ps.length < f) (hp : ps.length ≤ 1000000) (hl : leaf.length = 8) (hr : root.length = 8) (h : Hss w v ps) :
    Calls Try.prog 30 #[.agg (hv leaf), .int .i64 i, .int .i64 n, v, .agg (hv root)] w fun r w' => r = .returned (.bool ((rebF zero8 f leaf i.toNat n.toNat ps).2 && eqH (rebF zero8 f leaf i.toNat n.toNat ps).1 root)) ∧ Below w.heap.size w w' := by
  have H := hide h
  obtain ⟨a, cap, rfl, -, -, -⟩ := h
  have hs : (hv leaf).size = 8 := by rw [hv_size, hl]
  have Hs := hide hs
  have HC := hide (reb_any leaf hl f i n (.slice a ps.length cap) ps)
  have HLf := hide (rebF_len8 zero8 leaf rfl hl f i.toNat n.toNat ps)
  obtain ⟨y0, y1, y2, y3, y4, y5, y6, y7, hy⟩ := agg8 root hr
  have Hy := hide hy
  generalize hR : rebF zero8 f leaf i.toNat n.toNat ps = R at *
  clear hR
  obtain ⟨R1, R2⟩ := R
  obtain ⟨x0, x1, x2, x3, x4, x5, x6, x7, hx⟩ := agg8 R1 HLf.out
  have Hx := hide hx
  have hlt : ¬ i < 0 := by omega
  have hge : ¬ n ≤ i := by omega
  rw [hy]
  clear hx hs hl hy
  have hs2 : (hv leaf).size = 8 := Hs.out
  go_enter Try.func30, Try.ntmps30
  go_wp2_with (refine wpList_load_row rfl 38 _ rfl w.heap.size rfl 38 _ (0, 0) _ (by exact heap_alloc_old (heap_alloc_last _ _)) Try.underlying38 rfl (by rw [Hs.out]; kernel_rfl) ?_)
  refine (HC.out _ hi0 hin hn hf hp (H.out.below (below_alloc2 _ _ _))).mono ?_
  rintro e w1 ⟨hr1, hb1⟩
  rw [Hx.out] at hr1
  subst hr1
  have HB1 : Hid (Below w.heap.size w w1) := (below_alloc2 _ _ _).trans (hb1.mono (by simp; omega))
  have hg : w1.heap[w.heap.size + 1]? = some (.cells #[.int .u8 y0, .int .u8 y1, .int .u8 y2, .int .u8 y3, .int .u8 y4, .int .u8 y5, .int .u8 y6, .int .u8 y7] 38 (0, 0)) := by
    rw [hb1.block _ (by simp), show w.heap.size + 1 = (w.alloc (.cells (hv leaf) 38)).heap.size by simp]
    exact heap_alloc_last _ _
  have hz : w.heap.size + 1 < w1.heap.size := heap_lt hg
  have hg' : ∀ o, (w1.alloc o).heap[w.heap.size + 1]? = some (.cells #[.int .u8 y0, .int .u8 y1, .int .u8 y2, .int .u8 y3, .int .u8 y4, .int .u8 y5, .int .u8 y6, .int .u8 y7] 38 (0, 0)) := fun o => heap_alloc_old hg
  obtain ⟨c0, c1, c2, c3, c4, c5, c6, c7⟩ := cellsI8 (hg' (.cells #[.int .u8 x0, .int .u8 x1, .int .u8 x2, .int .u8 x3, .int .u8 x4, .int .u8 x5, .int .u8 x6, .int .u8 x7] 38))
  clear hg hg' hb1
  cases R2 with
  | false =>
    go_wp2_with fail
    go_ret
    exact ⟨rfl, HB1.out.trans ((below_alloc w1 _).mono HB1.out.size)⟩
  | true =>
    have heq : ∀ w, (binOp .eql 38 (.agg #[.int .u8 x0, .int .u8 x1, .int .u8 x2, .int .u8 x3, .int .u8 x4, .int .u8 x5, .int .u8 x6, .int .u8 x7]) (.agg #[.int .u8 y0, .int .u8 y1, .int .u8 y2, .int .u8 y3, .int .u8 y4, .int .u8 y5, .int .u8 y6, .int .u8 y7])).run Try.prog w = .ok (.bool (eqH R1 root)) w := fun w => by
      rw [← Hx.out, ← Hy.out]; exact eql_hash R1 root HLf.out hr w
    go_wp2_with fail
    go_ret
    exact ⟨rfl, HB1.out.trans ((below_alloc w1 _).mono HB1.out.size)⟩

/-- What P5 says. -/
def incB (f : Nat) (leaf : List UInt8) (i n : Int) (ps : List (List UInt8)) (root : List UInt8) : Bool :=
  if i < 0 ∨ n ≤ i then false else (rebF zero8 f leaf i.toNat n.toNat ps).2 && eqH (rebF zero8 f leaf i.toNat n.toNat ps).1 root
theorem incB_out {f : Nat} {leaf root : List UInt8} {i n : Int} {ps : List (List UInt8)} (h : i < 0 ∨ n ≤ i) : incB f leaf i n ps root = false := by
  rw [incB, if_pos h]
theorem incB_in {f : Nat} {leaf root : List UInt8} {i n : Int} {ps : List (List UInt8)} (h : ¬ (i < 0 ∨ n ≤ i)) : incB f leaf i n ps root = ((rebF zero8 f leaf i.toNat n.toNat ps).2 && eqH (rebF zero8 f leaf i.toNat n.toNat ps).1 root) := by
  rw [incB, if_neg h]
theorem incB_ref {f : Nat} {leaf root : List UInt8} {i n : Int} {ps : List (List UInt8)} (h : ¬ (i < 0 ∨ n ≤ i)) : incB f leaf i n ps root = ((rebF [] f leaf i.toNat n.toNat ps).2 && eqH (rebF [] f leaf i.toNat n.toNat ps).1 root) := by
  rw [incB_in h]
  obtain ⟨h1, h2⟩ := rebF_agree zero8 [] leaf f i.toNat n.toNat ps
  rw [← h1]
  cases hq : (rebF zero8 f leaf i.toNat n.toNat ps).2
  · rfl
  · rw [h2 hq]

theorem inc_any (f : Nat) (leaf root : List UInt8) (i n : Int) (hn : n ≤ 9223372036854775807) (v : Value) (ps : List (List UInt8)) (w : World) (hf : ps.length < f) (hp : ps.length ≤ 1000000) (hl : leaf.length = 8) (hr : root.length = 8) (h : Hss w v ps) :
    Calls Try.prog 30 #[.agg (hv leaf), .int .i64 i, .int .i64 n, v, .agg (hv root)] w fun r w' => r = .returned (.bool (incB f leaf i n ps root)) ∧ Below w.heap.size w w' := by
  by_cases hout : i < 0 ∨ n ≤ i
  · rw [incB_out hout]; exact inc_out leaf root i n v ps w hout hl hr h
  · rw [incB_in hout]; exact inc_in f leaf root i n (by omega) (by omega) hn v ps w hf hp hl hr h

set_option maxHeartbeats 1000000 in
theorem plainInc_any (f : Nat) (leaf root : ByteArray) (i n : Int) (hn : n ≤ 9223372036854775807) (v : Value) (ss : List ByteArray) (w : World) (hf : ss.length < f) (hp : ss.length ≤ 1000000) (h : Sss w v ss) :
    Calls Try.prog 12 #[.string leaf, .int .i64 i, .int .i64 n, v, .string root] w fun r w' => r = .returned (.bool (incB f (e8 leaf.data.toList) i n (ss.map fun s => e8 s.data.toList) (e8 root.data.toList))) ∧ Below w.heap.size w w' := by
  have H := hide h
  obtain ⟨a, cap, rfl, -, -⟩ := h
  go_enter Try.func12, Try.ntmps12
  go_wp2_with fail
  refine (hash_any leaf _).mono ?_
  rintro e w1 ⟨rfl, hb1⟩
  have HB1 := hide hb1
  clear hb1
  go_wp2_with fail
  refine (hashes_any _ ss _ hp (H.out.below HB1.out)).mono ?_
  rintro e w2 ⟨x, rfl, hb2, hh⟩
  have HB2 := hide (HB1.out.trans (hb2.mono HB1.out.size))
  have HH := hide hh
  clear hb2 hh
  go_wp2_with fail
  refine (hash_any root _).mono ?_
  rintro e w3 ⟨rfl, hb3⟩
  have HB3 := hide (HB2.out.trans (hb3.mono HB2.out.size))
  have HH3 := hide (HH.out.below hb3)
  clear hb3
  go_wp2_with fail
  refine (inc_any f _ _ i n hn x _ _ (by rw [List.length_map]; exact hf) (by rw [List.length_map]; exact hp) (e8_length _) (e8_length _) HH3.out).mono ?_
  rintro e w4 ⟨rfl, hb4⟩
  have HB4 := hide (HB3.out.trans (hb4.mono HB3.out.size))
  clear hb4
  go_wp2_with fail
  go_ret
  exact ⟨rfl, HB4.out⟩

theorem beq_eqH (a b : List UInt8) : (a == b) = eqH a b := by
  unfold eqH
  rw [Bool.eq_iff_iff, beq_iff_eq, decide_eq_true_eq]

set_option maxHeartbeats 1000000 in
theorem refInc_out (leaf root : List UInt8) (i n : Int) (v : Value) (ts : List ByteArray) (w : World) (hout : i < 0 ∨ n ≤ i) (h : Sss w v ts) :
    Calls Try.prog 15 #[txt leaf, .int .i64 i, .int .i64 n, v, txt root] w fun r w' => r = .returned (.bool false) ∧ Below w.heap.size w w' := by
  obtain ⟨a, cap, rfl, -, -⟩ := h
  by_cases hneg : i < 0
  · go_enter Try.func15, Try.ntmps15
    go_wp2
    go_ret
    exact ⟨rfl, Below.refl _ _⟩
  · have hge : n ≤ i := by omega
    clear hout
    go_enter Try.func15, Try.ntmps15
    go_wp2
    go_ret
    exact ⟨rfl, Below.refl _ _⟩

set_option maxHeartbeats 1000000 in
theorem refInc_in (f : Nat) (leaf root : List UInt8) (i n : Int) (hi0 : 0 ≤ i) (hin : i < n) (hn : n ≤ 9223372036854775807) (v : Value) (ts : List ByteArray) (w : World) (hf : ts.length < f) (hp : ts.length ≤ 1000000) (hl : leaf.length ≤ 8) (h8 : ∀ p ∈ bys ts, p.length ≤ 8) (h : Sss w v ts) :
    Calls Try.prog 15 #[txt leaf, .int .i64 i, .int .i64 n, v, txt root] w fun r w' => r = .returned (.bool ((rebF [] f leaf i.toNat n.toNat (bys ts)).2 && eqH (rebF [] f leaf i.toNat n.toNat (bys ts)).1 root)) ∧ Below w.heap.size w w' := by
  have H := hide h
  obtain ⟨a, cap, rfl, -, -⟩ := h
  have HC := hide (refReb_any leaf hl f i n (.slice a ts.length cap) ts)
  generalize hR : rebF [] f leaf i.toNat n.toNat (bys ts) = R at *
  clear hR
  obtain ⟨R1, R2⟩ := R
  have hlt : ¬ i < 0 := by omega
  have hge : ¬ n ≤ i := by omega
  have H8 := hide h8
  clear h8
  go_enter Try.func15, Try.ntmps15
  go_wp2_with fail
  refine (HC.out _ hi0 hin hn hf hp H8.out H.out).mono ?_
  rintro e w1 ⟨rfl, hb1⟩
  have HB1 := hide hb1
  clear hb1
  cases R2 with
  | false =>
    go_wp2_with fail
    go_ret
    exact ⟨rfl, HB1.out⟩
  | true =>
    unfold txt
    go_wp2
    go_ret
    exact ⟨by rw [Bool.true_and, ← beq_eqH]; rfl, HB1.out⟩

theorem refInc_any (f : Nat) (leaf root : List UInt8) (i n : Int) (hn : n ≤ 9223372036854775807) (v : Value) (ts : List ByteArray) (w : World) (hf : ts.length < f) (hp : ts.length ≤ 1000000) (hl : leaf.length ≤ 8) (h8 : ∀ p ∈ bys ts, p.length ≤ 8) (h : Sss w v ts) :
    Calls Try.prog 15 #[txt leaf, .int .i64 i, .int .i64 n, v, txt root] w fun r w' => r = .returned (.bool (incB f leaf i n (bys ts) root)) ∧ Below w.heap.size w w' := by
  by_cases hout : i < 0 ∨ n ≤ i
  · rw [incB_out hout]; exact refInc_out leaf root i n v ts w hout h
  · rw [incB_ref hout]; exact refInc_in f leaf root i n (by omega) (by omega) hn v ts w hf hp hl h8 h
end Go.Proofs.Ytfgbghmefomolaa
