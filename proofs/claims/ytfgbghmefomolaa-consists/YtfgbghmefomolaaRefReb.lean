
import Derived.Test.YtfgbghmefomolaaRefRoot
import Derived.Test.YtfgbghmefomolaaRebMath
namespace Go.Proofs.Ytfgbghmefomolaa
open Go.RowKit

theorem Sss.last {w : World} {b off m cap : Nat} {ts : List ByteArray} (h : Sss w (.slice (some ⟨b, off, none⟩) (m + 1) cap) ts) (hm : ts.length = m + 1) : w.cell? ⟨b, off + m, none⟩ = some (.string ts[m]) := by
  obtain ⟨a, c, e, hcap, h⟩ := h
  rcases h with h | ⟨b', off', e', hc⟩
  · simp [h] at hm
  · simp only [Value.slice.injEq] at e
    obtain ⟨rfl, -, -⟩ := e
    simp only [Option.some.injEq, Addr.mk.injEq] at e'
    obtain ⟨rfl, rfl, -⟩ := e'
    exact hc m (by omega)

set_option maxHeartbeats 1000000 in
theorem refReb_one (leaf : List UInt8) (f : Nat) (i : Int) (v : Value) (ts : List ByteArray) (w : World) (h : Sss w v ts) :
    Calls Try.prog 33 #[txt leaf, .int .i64 i, .int .i64 1, v] w fun r w' => r = .returned (.tuple #[txt (rebF [] (f + 1) leaf i.toNat 1 (bys ts)).1, .bool (rebF [] (f + 1) leaf i.toNat 1 (bys ts)).2]) ∧ Below w.heap.size w w' := by
  rw [rebF_one, bys_length]
  obtain ⟨a, cap, rfl, -, -⟩ := h
  have hd : ((ts.length : Int) == 0) = decide (ts.length = 0) := by
    rw [Bool.eq_iff_iff]; simp
  have Hd := hide hd
  clear hd
  unfold txt
  go_enter Try.func33, Try.ntmps33
  go_wp2
  go_ret2
  exact ⟨by rw [← Hd.out]; rfl, Below.refl _ _⟩

set_option maxHeartbeats 1000000 in
theorem refReb_none (leaf : List UInt8) (f : Nat) (i n : Nat) (h1 : n ≠ 1) (v : Value) (ts : List ByteArray) (w : World) (h0 : ts.length = 0) (h : Sss w v ts) :
    Calls Try.prog 33 #[txt leaf, .int .i64 i, .int .i64 n, v] w fun r w' => r = .returned (.tuple #[txt (rebF [] (f + 1) leaf i n (bys ts)).1, .bool (rebF [] (f + 1) leaf i n (bys ts)).2]) ∧ Below w.heap.size w w' := by
  rw [rebF_none _ _ _ _ _ _ h1 (by rw [bys_length]; exact h0)]
  obtain ⟨a, cap, rfl, -, -⟩ := h
  rw [h0]
  have n1 : ((n : Int) == 1) = false := beq_eq_false_iff_ne.2 (by omega)
  clear h1
  unfold txt
  go_enter Try.func33, Try.ntmps33
  go_wp2
  go_ret2
  exact ⟨rfl, Below.refl _ _⟩

set_option maxHeartbeats 2000000 in
theorem refReb_left (leaf : List UInt8) (hl : leaf.length ≤ 8) (f : Nat) (i n : Nat) (h2 : 2 ≤ n) (hn : n ≤ 9223372036854775807) (_hin : i < n) (hik : i < kOf n) (b off m cap : Nat) (ts : List ByteArray) (w : World) (hm : ts.length = m + 1) (hm6 : m ≤ 1000000) (hcap : m + 1 ≤ cap) (h8 : ∀ p ∈ bys ts, p.length ≤ 8)
    (h : Sss w (.slice (some ⟨b, off, none⟩) (m + 1) cap) ts)
    (ih : ∀ (i n : Int) (v : Value) (ts : List ByteArray) (w : World), 0 ≤ i → i < n → n ≤ 9223372036854775807 → ts.length < f → ts.length ≤ 1000000 → (∀ p ∈ bys ts, p.length ≤ 8) → Sss w v ts → Calls Try.prog 33 #[txt leaf, .int .i64 i, .int .i64 n, v] w fun r w' => r = .returned (.tuple #[txt (rebF [] f leaf i.toNat n.toNat (bys ts)).1, .bool (rebF [] f leaf i.toNat n.toNat (bys ts)).2]) ∧ Below w.heap.size w w')
    (hf : ts.length < f + 1) :
    Calls Try.prog 33 #[txt leaf, .int .i64 i, .int .i64 n, .slice (some ⟨b, off, none⟩) (m + 1) cap] w fun r w' => r = .returned (.tuple #[txt (rebF [] (f + 1) leaf i n (bys ts)).1, .bool (rebF [] (f + 1) leaf i n (bys ts)).2]) ∧ Below w.heap.size w w' := by
  rw [rebF_left _ _ _ _ _ _ (by omega) (by rw [bys_length]; omega) hik]
  obtain ⟨k1, k2, k3⟩ := kOf_spec n h2
  have hsp := last_split (bys ts) m (by rw [bys_length]; exact hm) []
  rw [hsp.1, hsp.2, ← bys_take]
  have hx := h.last hm
  have hL : (bys ts)[m]'(by rw [bys_length]; omega) = (ts[m]).data.toList := by simp [bys]
  rw [hL]
  have HL8 : Hid ((ts[m]).data.toList.length ≤ 8) := by
    have := h8 _ (List.getElem_mem (l := bys ts) (n := m) (by rw [bys_length]; omega))
    rw [hL] at this
    exact this
  have hX : Value.string ts[m] = txt (ts[m]).data.toList := by simp [txt]
  rw [hX] at hx
  have htk : (ts.take m).length = m := by simp; omega
  have HT : Hid (Sss w (.slice (some ⟨b, off, none⟩) m cap) (ts.take m)) := by
    have := h.take m (by omega)
    exact this
  have IH := hide (ih i (kOf n) (.slice (some ⟨b, off, none⟩) m cap) (ts.take m))
  have Hd := hide htk
  have H8 : Hid (∀ p ∈ bys (ts.take m), p.length ≤ 8) := fun p hp => h8 p (by rw [bys_take] at hp; exact List.mem_of_mem_take hp)
  have Hf := hide hf
  have Hm := hide hm
  have n1 : ((n : Int) == 1) = false := beq_eq_false_iff_ne.2 (by omega)
  have m1 : (((m : Int) + 1) == 0) = false := beq_eq_false_iff_ne.2 (by omega)
  have c1 : (m : Int) ≤ (cap : Int) := by omega
  have c2 : (m : Int) < (m : Int) + 1 := by omega
  have HLf := hide (rebF_len [] leaf (by simp) hl f (i : Int).toNat ((kOf n) : Int).toNat (bys (ts.take m)))
  have HE := hide (And.intro (show (i : Int).toNat = i by omega) (show ((kOf n) : Int).toNat = (kOf n) by omega))
  rw [HE.out.1, HE.out.2] at IH HLf
  clear ih htk hsp hL hX
  generalize (ts[m]).data.toList = L at *
  clear hf hm h8 h hl
  generalize hR : rebF [] f leaf i (kOf n) (bys (ts.take m)) = R at *
  clear hR
  obtain ⟨R1, R2⟩ := R
  go_enter Try.func33, Try.ntmps33
  go_wp2_with fail
  refine (below_any n _ h2 hn).mono ?_
  rintro e w2 ⟨rfl, hw2⟩
  subst hw2
  have hik' : (i : Int) < (kOf n : Int) := by omega
  go_wp2_with fail
  refine (IH.out _ (by omega) (by omega) (by omega) (by rw [Hd.out]; have := Hf.out; rw [Hm.out] at this; omega) (by rw [Hd.out]; exact hm6) H8.out HT.out).mono ?_
  rintro e w3 ⟨rfl, hb3⟩
  have HB3 := hide hb3
  clear hb3
  go_wp2_with fail
  refine (refNode_le R1 L _ HLf.out HL8.out).mono ?_
  rintro e w4 ⟨rfl, hb4⟩
  have HB4 := hide (HB3.out.trans (hb4.mono HB3.out.size))
  clear hb4
  go_wp2_with fail
  go_ret2
  exact ⟨rfl, HB4.out⟩

set_option maxHeartbeats 2000000 in
theorem refReb_right (leaf : List UInt8) (hl : leaf.length ≤ 8) (f : Nat) (i n : Nat) (h2 : 2 ≤ n) (hn : n ≤ 9223372036854775807) (_hin : i < n) (hik : ¬ i < kOf n) (b off m cap : Nat) (ts : List ByteArray) (w : World) (hm : ts.length = m + 1) (hm6 : m ≤ 1000000) (hcap : m + 1 ≤ cap) (h8 : ∀ p ∈ bys ts, p.length ≤ 8)
    (h : Sss w (.slice (some ⟨b, off, none⟩) (m + 1) cap) ts)
    (ih : ∀ (i n : Int) (v : Value) (ts : List ByteArray) (w : World), 0 ≤ i → i < n → n ≤ 9223372036854775807 → ts.length < f → ts.length ≤ 1000000 → (∀ p ∈ bys ts, p.length ≤ 8) → Sss w v ts → Calls Try.prog 33 #[txt leaf, .int .i64 i, .int .i64 n, v] w fun r w' => r = .returned (.tuple #[txt (rebF [] f leaf i.toNat n.toNat (bys ts)).1, .bool (rebF [] f leaf i.toNat n.toNat (bys ts)).2]) ∧ Below w.heap.size w w')
    (hf : ts.length < f + 1) :
    Calls Try.prog 33 #[txt leaf, .int .i64 i, .int .i64 n, .slice (some ⟨b, off, none⟩) (m + 1) cap] w fun r w' => r = .returned (.tuple #[txt (rebF [] (f + 1) leaf i n (bys ts)).1, .bool (rebF [] (f + 1) leaf i n (bys ts)).2]) ∧ Below w.heap.size w w' := by
  rw [rebF_right _ _ _ _ _ _ (by omega) (by rw [bys_length]; omega) hik]
  obtain ⟨k1, k2, k3⟩ := kOf_spec n h2
  have hsp := last_split (bys ts) m (by rw [bys_length]; exact hm) []
  rw [hsp.1, hsp.2, ← bys_take]
  have hx := h.last hm
  have hL : (bys ts)[m]'(by rw [bys_length]; omega) = (ts[m]).data.toList := by simp [bys]
  rw [hL]
  have HL8 : Hid ((ts[m]).data.toList.length ≤ 8) := by
    have := h8 _ (List.getElem_mem (l := bys ts) (n := m) (by rw [bys_length]; omega))
    rw [hL] at this
    exact this
  have hX : Value.string ts[m] = txt (ts[m]).data.toList := by simp [txt]
  rw [hX] at hx
  have htk : (ts.take m).length = m := by simp; omega
  have HT : Hid (Sss w (.slice (some ⟨b, off, none⟩) m cap) (ts.take m)) := by
    have := h.take m (by omega)
    exact this
  have IH := hide (ih ((i : Int) - (kOf n : Int)) ((n : Int) - (kOf n : Int)) (.slice (some ⟨b, off, none⟩) m cap) (ts.take m))
  have Hd := hide htk
  have H8 : Hid (∀ p ∈ bys (ts.take m), p.length ≤ 8) := fun p hp => h8 p (by rw [bys_take] at hp; exact List.mem_of_mem_take hp)
  have Hf := hide hf
  have Hm := hide hm
  have n1 : ((n : Int) == 1) = false := beq_eq_false_iff_ne.2 (by omega)
  have m1 : (((m : Int) + 1) == 0) = false := beq_eq_false_iff_ne.2 (by omega)
  have c1 : (m : Int) ≤ (cap : Int) := by omega
  have c2 : (m : Int) < (m : Int) + 1 := by omega
  have HLf := hide (rebF_len [] leaf (by simp) hl f (((i : Int) - (kOf n : Int)) : Int).toNat (((n : Int) - (kOf n : Int)) : Int).toNat (bys (ts.take m)))
  have HE := hide (And.intro (show ((i : Int) - (kOf n : Int)).toNat = i - kOf n by omega) (show (((n : Int) - (kOf n : Int)) : Int).toNat = (n - kOf n) by omega))
  rw [HE.out.1, HE.out.2] at IH HLf
  clear ih htk hsp hL hX
  generalize (ts[m]).data.toList = L at *
  clear hf hm h8 h hl
  generalize hR : rebF [] f leaf (i - kOf n) (n - kOf n) (bys (ts.take m)) = R at *
  clear hR
  obtain ⟨R1, R2⟩ := R
  go_enter Try.func33, Try.ntmps33
  go_wp2_with fail
  refine (below_any n _ h2 hn).mono ?_
  rintro e w2 ⟨rfl, hw2⟩
  subst hw2
  have hik' : ¬ (i : Int) < (kOf n : Int) := by omega
  go_wp2_with fail
  refine (IH.out _ (by omega) (by omega) (by omega) (by rw [Hd.out]; have := Hf.out; rw [Hm.out] at this; omega) (by rw [Hd.out]; exact hm6) H8.out HT.out).mono ?_
  rintro e w3 ⟨rfl, hb3⟩
  have HB3 := hide hb3
  clear hb3
  go_wp2_with fail
  refine (refNode_le L R1 _ HL8.out HLf.out).mono ?_
  rintro e w4 ⟨rfl, hb4⟩
  have HB4 := hide (HB3.out.trans (hb4.mono HB3.out.size))
  clear hb4
  go_wp2_with fail
  go_ret2
  exact ⟨rfl, HB4.out⟩

theorem refReb_any (leaf : List UInt8) (hl : leaf.length ≤ 8) (f : Nat) : ∀ (i n : Int) (v : Value) (ts : List ByteArray) (w : World), 0 ≤ i → i < n → n ≤ 9223372036854775807 → ts.length < f → ts.length ≤ 1000000 → (∀ p ∈ bys ts, p.length ≤ 8) → Sss w v ts →
    Calls Try.prog 33 #[txt leaf, .int .i64 i, .int .i64 n, v] w fun r w' => r = .returned (.tuple #[txt (rebF [] f leaf i.toNat n.toNat (bys ts)).1, .bool (rebF [] f leaf i.toNat n.toNat (bys ts)).2]) ∧ Below w.heap.size w w' := by
  induction f with
  | zero => exact fun i n v ts w _ _ _ h => absurd h (Nat.not_lt_zero _)
  | succ f ih =>
    intro i n v ts w h0 hin hn hf hp h8 h
    obtain ⟨I, rfl⟩ := Int.eq_ofNat_of_zero_le h0
    obtain ⟨N, rfl⟩ := Int.eq_ofNat_of_zero_le (show 0 ≤ n by omega)
    rw [Int.toNat_natCast, Int.toNat_natCast]
    by_cases h1 : N = 1
    · subst h1
      have := refReb_one leaf f (I : Int) v ts w h
      rwa [Int.toNat_natCast] at this
    by_cases hz : ts.length = 0
    · exact refReb_none leaf f I N h1 v ts w hz h
    obtain ⟨m, hm⟩ : ∃ m, ts.length = m + 1 := ⟨ts.length - 1, by omega⟩
    have h' := h
    obtain ⟨a, cap, rfl, hcap, hh⟩ := h
    rcases hh with hh | ⟨b, off, rfl, hc⟩
    · exact absurd (by simp [hh]) hz
    rw [hm] at h' ⊢
    by_cases hik : I < kOf N
    · exact refReb_left leaf hl f I N (by omega) (by omega) (by omega) hik b off m cap ts w hm (by omega) (by omega) h8 h' ih hf
    · exact refReb_right leaf hl f I N (by omega) (by omega) (by omega) hik b off m cap ts w hm (by omega) (by omega) h8 h' ih hf
end Go.Proofs.Ytfgbghmefomolaa
