
import Derived.Test.YtfgbghmefomolaaRtsWalks
import Derived.Test.YtfgbghmefomolaaRefRts
import Derived.Test.YtfgbghmefomolaaEqHash
import Derived.Test.YtfgbghmefomolaaIncWalks
namespace Go.Proofs.Ytfgbghmefomolaa
open Go.RowKit
set_option maxRecDepth 100000

set_option maxHeartbeats 1000000 in
theorem con_out (a b : List UInt8) (m n : Int) (v : Value) (ps : List (List UInt8)) (w : World) (hout : m < 1 ∨ n < m) (ha : a.length = 8) (hb : b.length = 8) (h : Hss w v ps) :
    Calls Try.prog 34 #[.int .i64 m, .int .i64 n, .agg (hv a), .agg (hv b), v] w fun r w' => r = .returned (.bool false) ∧ Below w.heap.size w w' := by
  obtain ⟨c, cap, rfl, -, -, -⟩ := h
  have hs : (hv a).size = 8 := by rw [hv_size, ha]
  have hs' : (hv b).size = 8 := by rw [hv_size, hb]
  by_cases hneg : m < 1
  · go_enter Try.func34, Try.ntmps34
    go_wp2
    go_ret
    exact ⟨rfl, below_alloc2 _ _ _⟩
  · have hge : n < m := by omega
    clear hout
    go_enter Try.func34, Try.ntmps34
    go_wp2
    go_ret
    exact ⟨rfl, below_alloc2 _ _ _⟩

set_option maxHeartbeats 4000000 in
theorem con_in (f : Nat) (a b : List UInt8) (m n : Int) (hm : 1 ≤ m) (hmn : m ≤ n) (hn : n ≤ 9223372036854775807) (v : Value) (ps : List (List UInt8)) (w : World) (hf : ps.length < f) (hp : ps.length ≤ 1000000) (ha : a.length = 8) (hb : b.length = 8) (h : Hss w v ps) :
    Calls Try.prog 34 #[.int .i64 m, .int .i64 n, .agg (hv a), .agg (hv b), v] w fun r w' => r = .returned (.bool ((rtsF zero8 a f m.toNat n.toNat ps true).2.2 && eqH (rtsF zero8 a f m.toNat n.toNat ps true).1 a && eqH (rtsF zero8 a f m.toNat n.toNat ps true).2.1 b)) ∧ Below w.heap.size w w' := by
  have H := hide h
  have h8 : ∀ p ∈ ps, p.length = 8 := by obtain ⟨_, _, _, _, h8, _⟩ := h; exact h8
  obtain ⟨c, cap, rfl, -, -, -⟩ := h
  have HC := hide (rts_any a ha f m n (.slice c ps.length cap) ps true)
  obtain ⟨l1, l2⟩ := rtsF_len8 zero8 a rfl ha f m.toNat n.toNat ps true h8
  generalize rtsF zero8 a f m.toNat n.toNat ps true = R at *
  obtain ⟨R1, R2, R3⟩ := R
  obtain ⟨y0, y1, y2, y3, y4, y5, y6, y7, hy⟩ := agg8 a ha
  obtain ⟨u0, u1, u2, u3, u4, u5, u6, u7, hu⟩ := agg8 b hb
  obtain ⟨x0, x1, x2, x3, x4, x5, x6, x7, hx⟩ := agg8 R1 l1
  obtain ⟨z0, z1, z2, z3, z4, z5, z6, z7, hz⟩ := agg8 R2 l2
  have heq1 : Hid (∀ w, (binOp .eql 38 (.agg #[.int .u8 x0, .int .u8 x1, .int .u8 x2, .int .u8 x3, .int .u8 x4, .int .u8 x5, .int .u8 x6, .int .u8 x7]) (.agg #[.int .u8 y0, .int .u8 y1, .int .u8 y2, .int .u8 y3, .int .u8 y4, .int .u8 y5, .int .u8 y6, .int .u8 y7])).run Try.prog w = .ok (.bool (eqH R1 a)) w) := fun w => by
    rw [← hx, ← hy]; exact eql_hash R1 a l1 ha w
  have heq2 : Hid (∀ w, (binOp .eql 38 (.agg #[.int .u8 z0, .int .u8 z1, .int .u8 z2, .int .u8 z3, .int .u8 z4, .int .u8 z5, .int .u8 z6, .int .u8 z7]) (.agg #[.int .u8 u0, .int .u8 u1, .int .u8 u2, .int .u8 u3, .int .u8 u4, .int .u8 u5, .int .u8 u6, .int .u8 u7])).run Try.prog w = .ok (.bool (eqH R2 b)) w) := fun w => by
    rw [← hz, ← hu]; exact eql_hash R2 b l2 hb w
  have Hy := hide hy
  have HX := hide (And.intro hx hz)
  have i1 : ¬ m < 1 := by omega
  have i2 : ¬ n < m := by omega
  rw [hy, hu]
  rw [hy] at HC
  generalize eqH R1 a = E1 at *
  generalize eqH R2 b = E2 at *
  clear hx hy hz hu l1 l2 ha hb h8
  go_enter Try.func34, Try.ntmps34
  go_wp2_with fail
  refine (HC.out _ hm hmn hn hf hp (H.out.below (below_alloc2 _ _ _))).mono ?_
  rintro e w1 ⟨hr1, hb1⟩
  rw [HX.out.1, HX.out.2] at hr1
  subst hr1
  have HB1 : Hid (Below w.heap.size w w1) := (below_alloc2 _ _ _).trans (hb1.mono (by simp; omega))
  have g0 : w1.heap[w.heap.size]? = some (.cells #[.int .u8 y0, .int .u8 y1, .int .u8 y2, .int .u8 y3, .int .u8 y4, .int .u8 y5, .int .u8 y6, .int .u8 y7] 38 (0, 0)) := by
    rw [hb1.block _ (by simp; omega)]
    exact heap_alloc_old (heap_alloc_last _ _)
  have g1 : w1.heap[w.heap.size + 1]? = some (.cells #[.int .u8 u0, .int .u8 u1, .int .u8 u2, .int .u8 u3, .int .u8 u4, .int .u8 u5, .int .u8 u6, .int .u8 u7] 38 (0, 0)) := by
    rw [hb1.block _ (by simp), show w.heap.size + 1 = (w.alloc (.cells #[.int .u8 y0, .int .u8 y1, .int .u8 y2, .int .u8 y3, .int .u8 y4, .int .u8 y5, .int .u8 y6, .int .u8 y7] 38)).heap.size by simp]
    exact heap_alloc_last _ _
  have hz1 : w.heap.size + 1 < w1.heap.size := heap_lt g1
  have cc := fun (o1 o2 : Obj) => cellsI8 (heap_alloc_old (o := o2) (heap_alloc_old (o := o1) g0))
  have dd := fun (o1 o2 : Obj) => cellsI8 (heap_alloc_old (o := o2) (heap_alloc_old (o := o1) g1))
  have c0 := fun o1 o2 => (cc o1 o2).1
  have c1 := fun o1 o2 => (cc o1 o2).2.1
  have c2 := fun o1 o2 => (cc o1 o2).2.2.1
  have c3 := fun o1 o2 => (cc o1 o2).2.2.2.1
  have c4 := fun o1 o2 => (cc o1 o2).2.2.2.2.1
  have c5 := fun o1 o2 => (cc o1 o2).2.2.2.2.2.1
  have c6 := fun o1 o2 => (cc o1 o2).2.2.2.2.2.2.1
  have c7 := fun o1 o2 => (cc o1 o2).2.2.2.2.2.2.2
  have d0 := fun o1 o2 => (dd o1 o2).1
  have d1 := fun o1 o2 => (dd o1 o2).2.1
  have d2 := fun o1 o2 => (dd o1 o2).2.2.1
  have d3 := fun o1 o2 => (dd o1 o2).2.2.2.1
  have d4 := fun o1 o2 => (dd o1 o2).2.2.2.2.1
  have d5 := fun o1 o2 => (dd o1 o2).2.2.2.2.2.1
  have d6 := fun o1 o2 => (dd o1 o2).2.2.2.2.2.2.1
  have d7 := fun o1 o2 => (dd o1 o2).2.2.2.2.2.2.2
  clear cc dd g0 g1 hb1
  cases R3 with
  | false =>
    go_wp2_with fail
    go_ret
    exact ⟨rfl, HB1.out.trans ((below_alloc2 w1 _ _).mono HB1.out.size)⟩
  | true =>
    have h1 := heq1.out
    cases E1 with
    | false =>
      go_wp2_with fail
      go_ret
      exact ⟨rfl, HB1.out.trans ((below_alloc2 w1 _ _).mono HB1.out.size)⟩
    | true =>
      have h2 := heq2.out
      go_wp2_with fail
      go_ret
      exact ⟨rfl, HB1.out.trans ((below_alloc2 w1 _ _).mono HB1.out.size)⟩

/-- What P7 says. -/
def conB (f : Nat) (m n : Int) (a b : List UInt8) (ps : List (List UInt8)) : Bool :=
  if m < 1 ∨ n < m then false else (rtsF zero8 a f m.toNat n.toNat ps true).2.2 && eqH (rtsF zero8 a f m.toNat n.toNat ps true).1 a && eqH (rtsF zero8 a f m.toNat n.toNat ps true).2.1 b
theorem conB_out {f : Nat} {a b : List UInt8} {m n : Int} {ps : List (List UInt8)} (h : m < 1 ∨ n < m) : conB f m n a b ps = false := by
  rw [conB, if_pos h]
theorem conB_in {f : Nat} {a b : List UInt8} {m n : Int} {ps : List (List UInt8)} (h : ¬ (m < 1 ∨ n < m)) : conB f m n a b ps = ((rtsF zero8 a f m.toNat n.toNat ps true).2.2 && eqH (rtsF zero8 a f m.toNat n.toNat ps true).1 a && eqH (rtsF zero8 a f m.toNat n.toNat ps true).2.1 b) := by
  rw [conB, if_neg h]
theorem conB_ref {f : Nat} {a b : List UInt8} {m n : Int} {ps : List (List UInt8)} (h : ¬ (m < 1 ∨ n < m)) : conB f m n a b ps = ((rtsF [] a f m.toNat n.toNat ps true).2.2 && eqH (rtsF [] a f m.toNat n.toNat ps true).1 a && eqH (rtsF [] a f m.toNat n.toNat ps true).2.1 b) := by
  rw [conB_in h]
  obtain ⟨h1, h2⟩ := rtsF_agree zero8 [] a f m.toNat n.toNat ps true
  cases hq : (rtsF zero8 a f m.toNat n.toNat ps true).2.2
  · rw [← h1, hq]; rfl
  · rw [← h2 hq, hq]

theorem con_any (f : Nat) (a b : List UInt8) (m n : Int) (hn : n ≤ 9223372036854775807) (v : Value) (ps : List (List UInt8)) (w : World) (hf : ps.length < f) (hp : ps.length ≤ 1000000) (ha : a.length = 8) (hb : b.length = 8) (h : Hss w v ps) :
    Calls Try.prog 34 #[.int .i64 m, .int .i64 n, .agg (hv a), .agg (hv b), v] w fun r w' => r = .returned (.bool (conB f m n a b ps)) ∧ Below w.heap.size w w' := by
  by_cases hout : m < 1 ∨ n < m
  · rw [conB_out hout]; exact con_out a b m n v ps w hout ha hb h
  · rw [conB_in hout]; exact con_in f a b m n (by omega) (by omega) hn v ps w hf hp ha hb h

set_option maxHeartbeats 1000000 in
theorem plainCon_any (f : Nat) (a b : ByteArray) (m n : Int) (hn : n ≤ 9223372036854775807) (v : Value) (ss : List ByteArray) (w : World) (hf : ss.length < f) (hp : ss.length ≤ 1000000) (h : Sss w v ss) :
    Calls Try.prog 16 #[.int .i64 m, .int .i64 n, .string a, .string b, v] w fun r w' => r = .returned (.bool (conB f m n (e8 a.data.toList) (e8 b.data.toList) (ss.map fun s => e8 s.data.toList))) ∧ Below w.heap.size w w' := by
  have H := hide h
  obtain ⟨c, cap, rfl, -, -⟩ := h
  go_enter Try.func16, Try.ntmps16
  go_wp2_with fail
  refine (hash_any a _).mono ?_
  rintro e w1 ⟨rfl, hb1⟩
  have HB1 := hide hb1
  clear hb1
  go_wp2_with fail
  refine (hash_any b _).mono ?_
  rintro e w2 ⟨rfl, hb2⟩
  have HB2 := hide (HB1.out.trans (hb2.mono HB1.out.size))
  clear hb2
  go_wp2_with fail
  refine (hashes_any _ ss _ hp (H.out.below HB2.out)).mono ?_
  rintro e w3 ⟨x, rfl, hb3, hh⟩
  have HB3 := hide (HB2.out.trans (hb3.mono HB2.out.size))
  have HH3 := hide hh
  clear hb3 hh
  go_wp2_with fail
  refine (con_any f _ _ m n hn x _ _ (by rw [List.length_map]; exact hf) (by rw [List.length_map]; exact hp) (e8_length _) (e8_length _) HH3.out).mono ?_
  rintro e w4 ⟨rfl, hb4⟩
  have HB4 := hide (HB3.out.trans (hb4.mono HB3.out.size))
  clear hb4
  go_wp2_with fail
  go_ret
  exact ⟨rfl, HB4.out⟩

set_option maxHeartbeats 1000000 in
theorem refCon_out (a b : List UInt8) (m n : Int) (v : Value) (ts : List ByteArray) (w : World) (hout : m < 1 ∨ n < m) (h : Sss w v ts) :
    Calls Try.prog 17 #[.int .i64 m, .int .i64 n, txt a, txt b, v] w fun r w' => r = .returned (.bool false) ∧ Below w.heap.size w w' := by
  obtain ⟨c, cap, rfl, -, -⟩ := h
  by_cases hneg : m < 1
  · go_enter Try.func17, Try.ntmps17
    go_wp2
    go_ret
    exact ⟨rfl, Below.refl _ _⟩
  · have hge : n < m := by omega
    clear hout
    go_enter Try.func17, Try.ntmps17
    go_wp2
    go_ret
    exact ⟨rfl, Below.refl _ _⟩

set_option maxHeartbeats 2000000 in
theorem refCon_in (f : Nat) (a b : List UInt8) (m n : Int) (hm : 1 ≤ m) (hmn : m ≤ n) (hn : n ≤ 9223372036854775807) (v : Value) (ts : List ByteArray) (w : World) (hf : ts.length < f) (hp : ts.length ≤ 1000000) (ha : a.length ≤ 8) (h8 : ∀ p ∈ bys ts, p.length ≤ 8) (h : Sss w v ts) :
    Calls Try.prog 17 #[.int .i64 m, .int .i64 n, txt a, txt b, v] w fun r w' => r = .returned (.bool ((rtsF [] a f m.toNat n.toNat (bys ts) true).2.2 && eqH (rtsF [] a f m.toNat n.toNat (bys ts) true).1 a && eqH (rtsF [] a f m.toNat n.toNat (bys ts) true).2.1 b)) ∧ Below w.heap.size w w' := by
  have H := hide h
  obtain ⟨c, cap, rfl, -, -⟩ := h
  have HC := hide (refRts_any a ha f m n (.slice c ts.length cap) ts true)
  generalize rtsF [] a f m.toNat n.toNat (bys ts) true = R at *
  obtain ⟨R1, R2, R3⟩ := R
  have i1 : ¬ m < 1 := by omega
  have i2 : ¬ n < m := by omega
  have H8 := hide h8
  clear h8
  go_enter Try.func17, Try.ntmps17
  go_wp2_with fail
  refine (HC.out _ hm hmn hn hf hp H8.out H.out).mono ?_
  rintro e w1 ⟨rfl, hb1⟩
  have HB1 := hide hb1
  clear hb1
  cases R3 with
  | false =>
    go_wp2_with fail
    go_ret
    exact ⟨rfl, HB1.out⟩
  | true =>
    cases hq : (R1 == a) with
    | false =>
      unfold txt
      go_wp2
      go_ret
      exact ⟨by rw [← beq_eqH, hq]; rfl, HB1.out⟩
    | true =>
      unfold txt
      go_wp2
      go_ret
      exact ⟨by rw [← beq_eqH, ← beq_eqH, hq]; rfl, HB1.out⟩

theorem refCon_any (f : Nat) (a b : List UInt8) (m n : Int) (hn : n ≤ 9223372036854775807) (v : Value) (ts : List ByteArray) (w : World) (hf : ts.length < f) (hp : ts.length ≤ 1000000) (ha : a.length ≤ 8) (h8 : ∀ p ∈ bys ts, p.length ≤ 8) (h : Sss w v ts) :
    Calls Try.prog 17 #[.int .i64 m, .int .i64 n, txt a, txt b, v] w fun r w' => r = .returned (.bool (conB f m n a b (bys ts))) ∧ Below w.heap.size w w' := by
  by_cases hout : m < 1 ∨ n < m
  · rw [conB_out hout]; exact refCon_out a b m n v ts w hout h
  · rw [conB_ref hout]; exact refCon_in f a b m n (by omega) (by omega) hn v ts w hf hp ha h8 h
end Go.Proofs.Ytfgbghmefomolaa
