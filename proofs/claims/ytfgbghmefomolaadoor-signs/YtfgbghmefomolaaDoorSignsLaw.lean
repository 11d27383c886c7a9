
import Derived.Test.YtfgbghmefomolaaDoorRefCheck
namespace Go.Proofs.YtfgbghmefomolaaDoor
open Go.RowKit
set_option maxRecDepth 100000

theorem e8_id (l : List UInt8) (h : l.length = 8) : e8 l = l := by
  unfold e8
  rw [List.take_of_length_le (by omega), h]
  simp
theorem signF_short (n : Nat) (root key : List UInt8) (hn : n ≤ 9223372036854775807) (hr : root.length = 8) : (signF n root key).length ≤ 1048576 := by
  have h1 := dec_length_le (n : Int) (by omega) (by omega)
  rw [Int.toNat_natCast] at h1
  rw [signF_eq]
  unfold lastF
  simp only [List.length_append, List.length_cons, List.length_nil, hexF_len, hr, hash_length, tilesL]
  omega

set_option maxHeartbeats 4000000 in
theorem signs_yes (n : Int) (hn0 : -9223372036854775808 ≤ n) (hn1 : n ≤ 9223372036854775807) (rt ky tx : ByteArray) (hr : rt.size ≤ maxLen) (hk : ky.size ≤ maxLen) (ht : tx.size ≤ maxLen) (w : World) (E : Env w) :
    Calls Tryd.prog 5 #[.int .i64 n, .string rt, .string ky, .string tx] w fun r w' => r = .returned (.bool true) ∧ Below w.heap.size w w' := by
  obtain ⟨root, rfl⟩ : ∃ l : List UInt8, rt = ⟨l.toArray⟩ := ⟨rt.data.toList, by simp⟩
  obtain ⟨key, rfl⟩ : ∃ l : List UInt8, ky = ⟨l.toArray⟩ := ⟨ky.data.toList, by simp⟩
  obtain ⟨t, rfl⟩ : ∃ l : List UInt8, tx = ⟨l.toArray⟩ := ⟨tx.data.toList, by simp⟩
  have k1 : key.length ≤ 9223372036854775807 := hk
  have t1 : t.length ≤ 9223372036854775807 := ht
  clear hr hk ht
  have HE := hide E
  clear E
  by_cases hkb : 1048576 < key.length
  · have n1 : (1048576 : Int) < (key.length : Int) := by omega
    go_enter Tryd.func5, Tryd.ntmps5
    go_wp2_with fail
    go_ret
    exact ⟨rfl, Below.refl _ _⟩
  by_cases htb : 1048576 < t.length
  · have n1 : ¬ (1048576 : Int) < (key.length : Int) := by omega
    have n2 : (1048576 : Int) < (t.length : Int) := by omega
    go_enter Tryd.func5, Tryd.ntmps5
    go_wp2_with fail
    go_ret
    exact ⟨rfl, Below.refl _ _⟩
  have n1 : ¬ (1048576 : Int) < (key.length : Int) := by omega
  have n2 : ¬ (1048576 : Int) < (t.length : Int) := by omega
  have k2 : key.length ≤ 1048576 := by omega
  have t2 : t.length ≤ 1048576 := by omega
  go_enter Tryd.func5, Tryd.ntmps5
  by_cases hneg : n < 0
  · have hw1 : IntKind.i64.wrap (n + 1) = n + 1 := by rw [IntKind.wrap_i64]; omega
    have hw2 : IntKind.i64.wrap (-(n + 1)) = -(n + 1) := by rw [IntKind.wrap_i64]; omega
    have q0 : 0 ≤ -(n + 1) := by omega
    have q1 : -(n + 1) ≤ 9223372036854775807 := by omega
    go_wp2_with fail
    generalize -(n + 1) = q at *
    clear hw1 hw2
    refine (eight_any _ w).mono ?_
    rintro r w1 ⟨hr1, hb1⟩
    have hr1' : r = .returned (txt (e8 root)) := hr1
    subst hr1'
    unfold txt
    have HB1 := hide hb1
    clear hr1 hb1
    go_wp2_with fail
    refine (plainSign_any q q0 q1 root key (by omega) w1 (HE.out.below HB1.out)).mono ?_
    rintro r w2 ⟨rfl, hb2⟩
    have HB2 : Hid (Below w.heap.size w w2) := HB1.out.trans (hb2.mono HB1.out.size)
    clear hb2
    have hRl := e8_length root
    have HIS : Hid (IsSign (signF q.toNat (e8 root) key) key q.toNat (e8 root)) := ⟨by omega, hRl, rfl⟩
    have hSl := signF_short q.toNat (e8 root) key (by omega) hRl
    go_wp2_with fail
    refine (refSign_any q q0 q1 (e8 root) key hRl (by omega) w2).mono ?_
    rintro r w3 ⟨rfl, hb3⟩
    have HB3 : Hid (Below w.heap.size w w3) := HB2.out.trans (hb3.mono HB2.out.size)
    clear hb3
    generalize signF q.toNat (e8 root) key = S at *
    generalize e8 root = R at *
    go_wp2_with fail
    refine (plainCheck_any t key (by omega) (by omega) w3 (HE.out.below HB3.out)).mono ?_
    rintro r w4 ⟨hb4, hr4⟩
    have HB4 : Hid (Below w.heap.size w w4) := HB3.out.trans (hb4.mono HB3.out.size)
    clear hb4
    rcases hr4 with ⟨m1, R1, s1, rfl⟩ | ⟨s1, rfl⟩
    · go_wp2_with fail
      refine (refCheck_any t key (by omega) (by omega) w4).mono ?_
      rintro r w5 ⟨hb5, hr5⟩
      have HB5 : Hid (Below w.heap.size w w5) := HB4.out.trans (hb5.mono HB4.out.size)
      clear hb5
      rcases hr5 with ⟨m2, R2, s2, rfl⟩ | ⟨s2, rfl⟩
      · obtain ⟨rfl, rfl⟩ := s1.inj s2
        have hR1 := s1.2.1
        clear s1 s2
        go_wp2_with fail
        refine (eight_any _ w5).mono ?_
        rintro r w6 ⟨hr6, hb6⟩
        have hr6' : r = .returned (txt (e8 R1)) := hr6
        rw [e8_id R1 hR1] at hr6'
        subst hr6'
        unfold txt
        have HB6 : Hid (Below w.heap.size w w6) := HB5.out.trans (hb6.mono HB5.out.size)
        clear hr6 hb6
        go_wp2_with fail
        refine (plainCheck_any S key hSl (by omega) w6 (HE.out.below HB6.out)).mono ?_
        rintro r w7 ⟨hb7, hr7⟩
        have HB7 : Hid (Below w.heap.size w w7) := HB6.out.trans (hb7.mono HB6.out.size)
        clear hb7
        rcases hr7 with ⟨n3, R3, h3, rfl⟩ | ⟨h3, rfl⟩
        · obtain ⟨e1, e2⟩ := h3.inj HIS.out
          subst e2
          have HQ : Hid ((n3 : Int) = q) := by show _ = _; omega
          rw [HQ.out]
          clear h3 e1
          go_wp2_with fail
          go_ret
          exact ⟨by simp, HB7.out⟩
        · exact absurd HIS.out (h3 _ _)
      · exact absurd s1 (s2 _ _)
    · go_wp2_with fail
      refine (refCheck_any t key (by omega) (by omega) w4).mono ?_
      rintro r w5 ⟨hb5, hr5⟩
      have HB5 : Hid (Below w.heap.size w w5) := HB4.out.trans (hb5.mono HB4.out.size)
      clear hb5
      rcases hr5 with ⟨m2, R2, s2, rfl⟩ | ⟨s2, rfl⟩
      · exact absurd s2 (s1 _ _)
      · clear s1 s2
        go_wp2_with fail
        refine (eight_any _ w5).mono ?_
        rintro r w6 ⟨hr6, hb6⟩
        have hr6' : r = .returned (.string ⟨#[0, 0, 0, 0, 0, 0, 0, 0]⟩) := hr6
        subst hr6'
        have HB6 : Hid (Below w.heap.size w w6) := HB5.out.trans (hb6.mono HB5.out.size)
        clear hr6 hb6
        go_wp2_with fail
        refine (plainCheck_any S key hSl (by omega) w6 (HE.out.below HB6.out)).mono ?_
        rintro r w7 ⟨hb7, hr7⟩
        have HB7 : Hid (Below w.heap.size w w7) := HB6.out.trans (hb7.mono HB6.out.size)
        clear hb7
        rcases hr7 with ⟨n3, R3, h3, rfl⟩ | ⟨h3, rfl⟩
        · obtain ⟨e1, e2⟩ := h3.inj HIS.out
          subst e2
          have HQ : Hid ((n3 : Int) = q) := by show _ = _; omega
          rw [HQ.out]
          clear h3 e1
          go_wp2_with fail
          go_ret
          exact ⟨by simp, HB7.out⟩
        · exact absurd HIS.out (h3 _ _)
  · have q0 : 0 ≤ n := by omega
    have q1 : n ≤ 9223372036854775807 := hn1
    have h0 : ¬ n < 0 := hneg
    go_wp2_with fail
    generalize n = q at *
    refine (eight_any _ w).mono ?_
    rintro r w1 ⟨hr1, hb1⟩
    have hr1' : r = .returned (txt (e8 root)) := hr1
    subst hr1'
    unfold txt
    have HB1 := hide hb1
    clear hr1 hb1
    go_wp2_with fail
    refine (plainSign_any q q0 q1 root key (by omega) w1 (HE.out.below HB1.out)).mono ?_
    rintro r w2 ⟨rfl, hb2⟩
    have HB2 : Hid (Below w.heap.size w w2) := HB1.out.trans (hb2.mono HB1.out.size)
    clear hb2
    have hRl := e8_length root
    have HIS : Hid (IsSign (signF q.toNat (e8 root) key) key q.toNat (e8 root)) := ⟨by omega, hRl, rfl⟩
    have hSl := signF_short q.toNat (e8 root) key (by omega) hRl
    go_wp2_with fail
    refine (refSign_any q q0 q1 (e8 root) key hRl (by omega) w2).mono ?_
    rintro r w3 ⟨rfl, hb3⟩
    have HB3 : Hid (Below w.heap.size w w3) := HB2.out.trans (hb3.mono HB2.out.size)
    clear hb3
    generalize signF q.toNat (e8 root) key = S at *
    generalize e8 root = R at *
    go_wp2_with fail
    refine (plainCheck_any t key (by omega) (by omega) w3 (HE.out.below HB3.out)).mono ?_
    rintro r w4 ⟨hb4, hr4⟩
    have HB4 : Hid (Below w.heap.size w w4) := HB3.out.trans (hb4.mono HB3.out.size)
    clear hb4
    rcases hr4 with ⟨m1, R1, s1, rfl⟩ | ⟨s1, rfl⟩
    · go_wp2_with fail
      refine (refCheck_any t key (by omega) (by omega) w4).mono ?_
      rintro r w5 ⟨hb5, hr5⟩
      have HB5 : Hid (Below w.heap.size w w5) := HB4.out.trans (hb5.mono HB4.out.size)
      clear hb5
      rcases hr5 with ⟨m2, R2, s2, rfl⟩ | ⟨s2, rfl⟩
      · obtain ⟨rfl, rfl⟩ := s1.inj s2
        have hR1 := s1.2.1
        clear s1 s2
        go_wp2_with fail
        refine (eight_any _ w5).mono ?_
        rintro r w6 ⟨hr6, hb6⟩
        have hr6' : r = .returned (txt (e8 R1)) := hr6
        rw [e8_id R1 hR1] at hr6'
        subst hr6'
        unfold txt
        have HB6 : Hid (Below w.heap.size w w6) := HB5.out.trans (hb6.mono HB5.out.size)
        clear hr6 hb6
        go_wp2_with fail
        refine (plainCheck_any S key hSl (by omega) w6 (HE.out.below HB6.out)).mono ?_
        rintro r w7 ⟨hb7, hr7⟩
        have HB7 : Hid (Below w.heap.size w w7) := HB6.out.trans (hb7.mono HB6.out.size)
        clear hb7
        rcases hr7 with ⟨n3, R3, h3, rfl⟩ | ⟨h3, rfl⟩
        · obtain ⟨e1, e2⟩ := h3.inj HIS.out
          subst e2
          have HQ : Hid ((n3 : Int) = q) := by show _ = _; omega
          rw [HQ.out]
          clear h3 e1
          go_wp2_with fail
          go_ret
          exact ⟨by simp, HB7.out⟩
        · exact absurd HIS.out (h3 _ _)
      · exact absurd s1 (s2 _ _)
    · go_wp2_with fail
      refine (refCheck_any t key (by omega) (by omega) w4).mono ?_
      rintro r w5 ⟨hb5, hr5⟩
      have HB5 : Hid (Below w.heap.size w w5) := HB4.out.trans (hb5.mono HB4.out.size)
      clear hb5
      rcases hr5 with ⟨m2, R2, s2, rfl⟩ | ⟨s2, rfl⟩
      · exact absurd s2 (s1 _ _)
      · clear s1 s2
        go_wp2_with fail
        refine (eight_any _ w5).mono ?_
        rintro r w6 ⟨hr6, hb6⟩
        have hr6' : r = .returned (.string ⟨#[0, 0, 0, 0, 0, 0, 0, 0]⟩) := hr6
        subst hr6'
        have HB6 : Hid (Below w.heap.size w w6) := HB5.out.trans (hb6.mono HB5.out.size)
        clear hr6 hb6
        go_wp2_with fail
        refine (plainCheck_any S key hSl (by omega) w6 (HE.out.below HB6.out)).mono ?_
        rintro r w7 ⟨hb7, hr7⟩
        have HB7 : Hid (Below w.heap.size w w7) := HB6.out.trans (hb7.mono HB6.out.size)
        clear hb7
        rcases hr7 with ⟨n3, R3, h3, rfl⟩ | ⟨h3, rfl⟩
        · obtain ⟨e1, e2⟩ := h3.inj HIS.out
          subst e2
          have HQ : Hid ((n3 : Int) = q) := by show _ = _; omega
          rw [HQ.out]
          clear h3 e1
          go_wp2_with fail
          go_ret
          exact ⟨by simp, HB7.out⟩
        · exact absurd HIS.out (h3 _ _)
end Go.Proofs.YtfgbghmefomolaaDoor
