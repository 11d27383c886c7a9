
import Derived.Test.YtfgbghmefomolaaRefReb
import Derived.Test.YtfgbghmefomolaaRtsMath
import Derived.OwnWalk
namespace Go.Proofs.Ytfgbghmefomolaa
open Go.RowKit

set_option maxHeartbeats 1000000 in
theorem refRts_whole (a : List UInt8) (f n : Nat) (v : Value) (ts : List ByteArray) (w : World) (h : Sss w v ts) :
    Calls Try.prog 35 #[.int .i64 n, .int .i64 n, v, .bool true, txt a] w fun r w' => r = .returned (.tuple #[txt (rtsF [] a (f + 1) n n (bys ts) true).1, txt (rtsF [] a (f + 1) n n (bys ts) true).2.1, .bool (rtsF [] a (f + 1) n n (bys ts) true).2.2]) ∧ Below w.heap.size w w' := by
  rw [rtsF_whole, bys_length]
  obtain ⟨c, cap, rfl, -, -⟩ := h
  have hd : ((ts.length : Int) == 0) = decide (ts.length = 0) := by
    rw [Bool.eq_iff_iff]; simp
  have Hd := hide hd
  clear hd
  unfold txt
  go_enter Try.func35, Try.ntmps35
  go_wp2
  go_ret3
  exact ⟨by rw [← Hd.out]; rfl, Below.refl _ _⟩

set_option maxHeartbeats 1000000 in
theorem refRts_not (a : List UInt8) (f n : Nat) (v : Value) (ts : List ByteArray) (w : World) (h1 : ts.length ≠ 1) (h : Sss w v ts) :
    Calls Try.prog 35 #[.int .i64 n, .int .i64 n, v, .bool false, txt a] w fun r w' => r = .returned (.tuple #[txt (rtsF [] a (f + 1) n n (bys ts) false).1, txt (rtsF [] a (f + 1) n n (bys ts) false).2.1, .bool (rtsF [] a (f + 1) n n (bys ts) false).2.2]) ∧ Below w.heap.size w w' := by
  rw [rtsF_not _ _ _ _ _ (by rw [bys_length]; exact h1)]
  obtain ⟨c, cap, rfl, -, -⟩ := h
  have n1 : ((ts.length : Int) != 1) = true := by rw [bne_iff_ne]; omega
  clear h1
  unfold txt
  go_enter Try.func35, Try.ntmps35
  go_wp2
  go_ret3
  exact ⟨rfl, Below.refl _ _⟩

set_option maxHeartbeats 1000000 in
theorem refRts_part (a : List UInt8) (f n : Nat) (v : Value) (ts : List ByteArray) (w : World) (h1 : ts.length = 1) (h : Sss w v ts) :
    Calls Try.prog 35 #[.int .i64 n, .int .i64 n, v, .bool false, txt a] w fun r w' => r = .returned (.tuple #[txt (rtsF [] a (f + 1) n n (bys ts) false).1, txt (rtsF [] a (f + 1) n n (bys ts) false).2.1, .bool (rtsF [] a (f + 1) n n (bys ts) false).2.2]) ∧ Below w.heap.size w w' := by
  rw [rtsF_part _ _ _ _ _ (by rw [bys_length]; exact h1)]
  obtain ⟨t, rfl⟩ := List.length_eq_one_iff.1 h1
  obtain ⟨c, cap, rfl, hcap, hh⟩ := h
  rcases hh with hh | ⟨b, off, rfl, hc⟩
  · simp at hh
  have hx : w.cell? ⟨b, off, none⟩ = some (.string t) := hc 0 (by simp)
  have hX : Value.string t = txt t.data.toList := by simp [txt]
  rw [hX] at hx
  have eb : (bys [t]).headD [] = t.data.toList := rfl
  rw [eb]
  generalize t.data.toList = L at *
  clear hc hX eb
  simp only [List.length_singleton] at *
  go_enter Try.func35, Try.ntmps35
  go_wp2_with fail
  go_quiet (fail)
  go_wp2
  go_ret3
  exact ⟨rfl, below_drewN (Below.refl _ _) _⟩

set_option maxHeartbeats 1000000 in
theorem refRts_none (a : List UInt8) (f m n : Nat) (hmn : m ≠ n) (v : Value) (ts : List ByteArray) (whole : Bool) (w : World) (h0 : ts.length = 0) (h : Sss w v ts) :
    Calls Try.prog 35 #[.int .i64 m, .int .i64 n, v, .bool whole, txt a] w fun r w' => r = .returned (.tuple #[txt (rtsF [] a (f + 1) m n (bys ts) whole).1, txt (rtsF [] a (f + 1) m n (bys ts) whole).2.1, .bool (rtsF [] a (f + 1) m n (bys ts) whole).2.2]) ∧ Below w.heap.size w w' := by
  rw [rtsF_none _ _ _ _ _ _ _ hmn (by rw [bys_length]; exact h0)]
  obtain ⟨c, cap, rfl, -, -⟩ := h
  rw [h0]
  have n1 : ((m : Int) == (n : Int)) = false := beq_eq_false_iff_ne.2 (by omega)
  clear hmn
  unfold txt
  go_enter Try.func35, Try.ntmps35
  go_wp2
  go_ret3
  exact ⟨rfl, Below.refl _ _⟩

set_option maxHeartbeats 2000000 in
theorem refRts_left (a : List UInt8) (ha : a.length ≤ 8) (f m n : Nat) (hm1 : 1 ≤ m) (hmn : m < n) (hn : n ≤ 9223372036854775807) (hmk : m ≤ kOf n) (b off q cap : Nat) (ts : List ByteArray) (whole : Bool) (w : World) (hq : ts.length = q + 1) (hq6 : q ≤ 1000000) (hcap : q + 1 ≤ cap) (h8 : ∀ p ∈ bys ts, p.length ≤ 8)
    (h : Sss w (.slice (some ⟨b, off, none⟩) (q + 1) cap) ts)
    (ih : ∀ (m n : Int) (v : Value) (ts : List ByteArray) (whole : Bool) (w : World), 1 ≤ m → m ≤ n → n ≤ 9223372036854775807 → ts.length < f → ts.length ≤ 1000000 → (∀ p ∈ bys ts, p.length ≤ 8) → Sss w v ts → Calls Try.prog 35 #[.int .i64 m, .int .i64 n, v, .bool whole, txt a] w fun r w' => r = .returned (.tuple #[txt (rtsF [] a f m.toNat n.toNat (bys ts) whole).1, txt (rtsF [] a f m.toNat n.toNat (bys ts) whole).2.1, .bool (rtsF [] a f m.toNat n.toNat (bys ts) whole).2.2]) ∧ Below w.heap.size w w')
    (hf : ts.length < f + 1) :
    Calls Try.prog 35 #[.int .i64 m, .int .i64 n, .slice (some ⟨b, off, none⟩) (q + 1) cap, .bool whole, txt a] w fun r w' => r = .returned (.tuple #[txt (rtsF [] a (f + 1) m n (bys ts) whole).1, txt (rtsF [] a (f + 1) m n (bys ts) whole).2.1, .bool (rtsF [] a (f + 1) m n (bys ts) whole).2.2]) ∧ Below w.heap.size w w' := by
  rw [rtsF_left _ _ _ _ _ _ _ (by omega) (by rw [bys_length]; omega) hmk]
  obtain ⟨k1, k2, k3⟩ := kOf_spec n (by omega)
  have hsp := last_split (bys ts) q (by rw [bys_length]; exact hq) []
  rw [hsp.1, hsp.2, ← bys_take]
  have hx := h.last hq
  have hL : (bys ts)[q]'(by rw [bys_length]; omega) = (ts[q]).data.toList := by simp [bys]
  rw [hL]
  have HL8 : Hid ((ts[q]).data.toList.length ≤ 8) := by
    have := h8 _ (List.getElem_mem (l := bys ts) (n := q) (by rw [bys_length]; omega))
    rw [hL] at this
    exact this
  have hX : Value.string ts[q] = txt (ts[q]).data.toList := by simp [txt]
  rw [hX] at hx
  have htk : (ts.take q).length = q := by simp; omega
  have HT : Hid (Sss w (.slice (some ⟨b, off, none⟩) q cap) (ts.take q)) := by
    have := h.take q (by omega)
    exact this
  have H8' : ∀ p ∈ bys (ts.take q), p.length ≤ 8 := fun p hp => h8 p (by rw [bys_take] at hp; exact List.mem_of_mem_take hp)
  have IH := hide (ih m (kOf n) (.slice (some ⟨b, off, none⟩) q cap) (ts.take q) whole)
  have hL2 := rtsF_le8 [] a (by simp) ha f m (kOf n) (bys (ts.take q)) whole H8'
  have Hd := hide htk
  have H8 := hide H8'
  have Hf := hide hf
  have Hq := hide hq
  have n1 : ((m : Int) == (n : Int)) = false := beq_eq_false_iff_ne.2 (by omega)
  have m1 : (((q : Int) + 1) == 0) = false := beq_eq_false_iff_ne.2 (by omega)
  have c1 : (q : Int) ≤ (cap : Int) := by omega
  have c2 : (q : Int) < (q : Int) + 1 := by omega
  rw [Int.toNat_natCast, Int.toNat_natCast] at IH
  clear ih htk hsp hL hX H8'
  generalize (ts[q]).data.toList = L at *
  clear hf hq h8 h ha
  generalize rtsF [] a f m (kOf n) (bys (ts.take q)) whole = R at *
  obtain ⟨R1, R2, R3⟩ := R
  obtain ⟨l1, l2⟩ := hL2
  have HLL := hide (And.intro l1 l2)
  clear l1 l2
  go_enter Try.func35, Try.ntmps35
  go_wp2_with fail
  refine (below_any n _ (by omega) hn).mono ?_
  rintro e w2 ⟨rfl, hw2⟩
  subst hw2
  have hmk' : (m : Int) ≤ (kOf n : Int) := by omega
  go_wp2_with fail
  refine (IH.out _ (by omega) (by omega) (by omega) (by rw [Hd.out]; have := Hf.out; rw [Hq.out] at this; omega) (by rw [Hd.out]; exact hq6) H8.out HT.out).mono ?_
  rintro e w3 ⟨rfl, hb3⟩
  have HB3 := hide hb3
  clear hb3
  go_wp2_with fail
  refine (refNode_le R2 L _ HLL.out.2 HL8.out).mono ?_
  rintro e w4 ⟨rfl, hb4⟩
  have HB4 := hide (HB3.out.trans (hb4.mono HB3.out.size))
  clear hb4
  go_wp2_with fail
  go_ret3
  exact ⟨rfl, HB4.out⟩

set_option maxHeartbeats 2000000 in
theorem refRts_right (a : List UInt8) (ha : a.length ≤ 8) (f m n : Nat) (hm1 : 1 ≤ m) (hmn : m < n) (hn : n ≤ 9223372036854775807) (hmk : ¬ m ≤ kOf n) (b off q cap : Nat) (ts : List ByteArray) (whole : Bool) (w : World) (hq : ts.length = q + 1) (hq6 : q ≤ 1000000) (hcap : q + 1 ≤ cap) (h8 : ∀ p ∈ bys ts, p.length ≤ 8)
    (h : Sss w (.slice (some ⟨b, off, none⟩) (q + 1) cap) ts)
    (ih : ∀ (m n : Int) (v : Value) (ts : List ByteArray) (whole : Bool) (w : World), 1 ≤ m → m ≤ n → n ≤ 9223372036854775807 → ts.length < f → ts.length ≤ 1000000 → (∀ p ∈ bys ts, p.length ≤ 8) → Sss w v ts → Calls Try.prog 35 #[.int .i64 m, .int .i64 n, v, .bool whole, txt a] w fun r w' => r = .returned (.tuple #[txt (rtsF [] a f m.toNat n.toNat (bys ts) whole).1, txt (rtsF [] a f m.toNat n.toNat (bys ts) whole).2.1, .bool (rtsF [] a f m.toNat n.toNat (bys ts) whole).2.2]) ∧ Below w.heap.size w w')
    (hf : ts.length < f + 1) :
    Calls Try.prog 35 #[.int .i64 m, .int .i64 n, .slice (some ⟨b, off, none⟩) (q + 1) cap, .bool whole, txt a] w fun r w' => r = .returned (.tuple #[txt (rtsF [] a (f + 1) m n (bys ts) whole).1, txt (rtsF [] a (f + 1) m n (bys ts) whole).2.1, .bool (rtsF [] a (f + 1) m n (bys ts) whole).2.2]) ∧ Below w.heap.size w w' := by
  rw [rtsF_right _ _ _ _ _ _ _ (by omega) (by rw [bys_length]; omega) hmk]
  obtain ⟨k1, k2, k3⟩ := kOf_spec n (by omega)
  have hsp := last_split (bys ts) q (by rw [bys_length]; exact hq) []
  rw [hsp.1, hsp.2, ← bys_take]
  have hx := h.last hq
  have hL : (bys ts)[q]'(by rw [bys_length]; omega) = (ts[q]).data.toList := by simp [bys]
  rw [hL]
  have HL8 : Hid ((ts[q]).data.toList.length ≤ 8) := by
    have := h8 _ (List.getElem_mem (l := bys ts) (n := q) (by rw [bys_length]; omega))
    rw [hL] at this
    exact this
  have hX : Value.string ts[q] = txt (ts[q]).data.toList := by simp [txt]
  rw [hX] at hx
  have htk : (ts.take q).length = q := by simp; omega
  have HT : Hid (Sss w (.slice (some ⟨b, off, none⟩) q cap) (ts.take q)) := by
    have := h.take q (by omega)
    exact this
  have H8' : ∀ p ∈ bys (ts.take q), p.length ≤ 8 := fun p hp => h8 p (by rw [bys_take] at hp; exact List.mem_of_mem_take hp)
  have IH := hide (ih ((m : Int) - (kOf n : Int)) ((n : Int) - (kOf n : Int)) (.slice (some ⟨b, off, none⟩) q cap) (ts.take q) false)
  have hL2 := rtsF_le8 [] a (by simp) ha f (m - kOf n) (n - kOf n) (bys (ts.take q)) false H8'
  have Hd := hide htk
  have H8 := hide H8'
  have Hf := hide hf
  have Hq := hide hq
  have n1 : ((m : Int) == (n : Int)) = false := beq_eq_false_iff_ne.2 (by omega)
  have m1 : (((q : Int) + 1) == 0) = false := beq_eq_false_iff_ne.2 (by omega)
  have c1 : (q : Int) ≤ (cap : Int) := by omega
  have c2 : (q : Int) < (q : Int) + 1 := by omega
  rw [show ((m : Int) - (kOf n : Int)).toNat = m - kOf n by omega, show ((n : Int) - (kOf n : Int)).toNat = n - kOf n by omega] at IH
  clear ih htk hsp hL hX H8'
  generalize (ts[q]).data.toList = L at *
  clear hf hq h8 h ha
  generalize rtsF [] a f (m - kOf n) (n - kOf n) (bys (ts.take q)) false = R at *
  obtain ⟨R1, R2, R3⟩ := R
  obtain ⟨l1, l2⟩ := hL2
  have HLL := hide (And.intro l1 l2)
  clear l1 l2
  go_enter Try.func35, Try.ntmps35
  go_wp2_with fail
  refine (below_any n _ (by omega) hn).mono ?_
  rintro e w2 ⟨rfl, hw2⟩
  subst hw2
  have hmk' : ¬ (m : Int) ≤ (kOf n : Int) := by omega
  go_wp2_with fail
  refine (IH.out _ (by omega) (by omega) (by omega) (by rw [Hd.out]; have := Hf.out; rw [Hq.out] at this; omega) (by rw [Hd.out]; exact hq6) H8.out HT.out).mono ?_
  rintro e w3 ⟨rfl, hb3⟩
  have HB3 := hide hb3
  clear hb3
  go_wp2_with fail
  refine (refNode_le L R1 _ HL8.out HLL.out.1).mono ?_
  rintro e w4 ⟨rfl, hb4⟩
  have HB4 := hide (HB3.out.trans (hb4.mono HB3.out.size))
  clear hb4
  go_wp2_with fail
  refine (refNode_le L R2 _ HL8.out HLL.out.2).mono ?_
  rintro e w5 ⟨rfl, hb5⟩
  have HB5 := hide (HB4.out.trans (hb5.mono HB4.out.size))
  clear hb5
  go_wp2_with fail
  go_ret3
  exact ⟨rfl, HB5.out⟩

theorem refRts_any (a : List UInt8) (ha : a.length ≤ 8) (f : Nat) : ∀ (m n : Int) (v : Value) (ts : List ByteArray) (whole : Bool) (w : World), 1 ≤ m → m ≤ n → n ≤ 9223372036854775807 → ts.length < f → ts.length ≤ 1000000 → (∀ p ∈ bys ts, p.length ≤ 8) → Sss w v ts →
    Calls Try.prog 35 #[.int .i64 m, .int .i64 n, v, .bool whole, txt a] w fun r w' => r = .returned (.tuple #[txt (rtsF [] a f m.toNat n.toNat (bys ts) whole).1, txt (rtsF [] a f m.toNat n.toNat (bys ts) whole).2.1, .bool (rtsF [] a f m.toNat n.toNat (bys ts) whole).2.2]) ∧ Below w.heap.size w w' := by
  induction f with
  | zero => exact fun m n v ts whole w _ _ _ h => absurd h (Nat.not_lt_zero _)
  | succ f ih =>
    intro m n v ts whole w h0 hmn hn hf hp h8 h
    obtain ⟨M, rfl⟩ := Int.eq_ofNat_of_zero_le (show 0 ≤ m by omega)
    obtain ⟨N, rfl⟩ := Int.eq_ofNat_of_zero_le (show 0 ≤ n by omega)
    rw [Int.toNat_natCast, Int.toNat_natCast]
    by_cases h1 : M = N
    · subst h1
      cases whole with
      | true => exact refRts_whole a f M v ts w h
      | false =>
        by_cases hl : ts.length = 1
        · exact refRts_part a f M v ts w hl h
        · exact refRts_not a f M v ts w hl h
    by_cases hz : ts.length = 0
    · exact refRts_none a f M N h1 v ts whole w hz h
    obtain ⟨q, hq⟩ : ∃ q, ts.length = q + 1 := ⟨ts.length - 1, by omega⟩
    have h' := h
    obtain ⟨c, cap, rfl, hcap, hh⟩ := h
    rcases hh with hh | ⟨b, off, rfl, hc⟩
    · exact absurd (by simp [hh]) hz
    rw [hq] at h' ⊢
    by_cases hik : M ≤ kOf N
    · exact refRts_left a ha f M N (by omega) (by omega) (by omega) hik b off q cap ts whole w hq (by omega) (by omega) h8 h' ih hf
    · exact refRts_right a ha f M N (by omega) (by omega) (by omega) hik b off q cap ts whole w hq (by omega) (by omega) h8 h' ih hf
end Go.Proofs.Ytfgbghmefomolaa
