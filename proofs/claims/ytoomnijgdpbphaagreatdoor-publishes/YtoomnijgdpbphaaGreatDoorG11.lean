import Derived.Test.YtoomnijgdpbphaaGreatDoorG10
import Derived.Test.YtoomnijgdpbphaaGreatDoorG05
import Derived.Test.YtoomnijgdpbphaaGreatDoorG03
import Derived.WalkSmall
import Derived.Lib.ItoaLen

namespace Go.Proofs.YtoomnijgdpbphaaGreatDoor
open Go.RowKit
set_option maxRecDepth 100000

theorem globPow : Tryz.prog.globalNamed "internal/strconv.uint64pow10" = some 11 := by kernel_rfl
/-- What the library's variables hold. -/
structure Env (w : World) : Prop where
  tab : Lib.TabIs Tryz.prog w "internal/strconv.uint64pow10" .u64 Lib.pow10Tab
  syn : ∃ tp p, w.cell? ⟨8, 0, none⟩ = some (.iface tp p)
  rng : ∃ tp p, w.cell? ⟨9, 0, none⟩ = some (.iface tp p)
  max : ∃ m, w.cell? ⟨10, 0, none⟩ = some (.int .i64 m)
theorem var_lt {w : World} {n : String} {g : Nat} {cs : Array Value} (hg : Tryz.prog.globalNamed n = some g) (h : w.var? Tryz.prog n = some cs) : g < w.heap.size := by
  unfold World.var? at h
  rw [hg] at h
  simp only [Option.bind_some] at h
  rcases Nat.lt_or_ge g w.heap.size with h' | h'
  · exact h'
  · simp [Array.getElem?_eq_none h'] at h
theorem Env.below {w w' : World} (h : Env w) (hb : Below w.heap.size w w') : Env w' := by
  obtain ⟨tp, p, hs⟩ := h.syn
  obtain ⟨tp', p', hr⟩ := h.rng
  obtain ⟨m, hm⟩ := h.max
  exact ⟨var?_below hb globPow (var_lt globPow h.tab) h.tab, ⟨tp, p, by rw [hb.cell (cell_lt hs)]; exact hs⟩, ⟨tp', p', by rw [hb.cell (cell_lt hr)]; exact hr⟩, ⟨m, by rw [hb.cell (cell_lt hm)]; exact hm⟩⟩
theorem below_grew (w : World) (k : Nat) (os : Array Obj) : Below w.heap.size w (Sort.grow (w.drewN k) os) :=
  ⟨rfl, rfl, rfl, by simp [Sort.grow, World.drewN], fun j hj => by
    show (w.heap ++ os)[j]? = w.heap[j]?
    rw [Array.getElem?_append_left hj]⟩
theorem below_bytes (w : World) (e : TypeId) (s : ByteArray) : Below w.heap.size w (Lib.bytesWorld w e s) :=
  ⟨rfl, rfl, rfl, by rw [Lib.bytesWorld_size]; omega, fun j hj => Lib.bytesWorld_at_old w e s j hj⟩

theorem itoa_call (n : Int) (h0 : 0 ≤ n) (h1 : n ≤ 9223372036854775807) (w : World) (E : Env w) :
    Calls Tryz.prog 76 #[.int .i64 n] w fun r w' => r = .returned (.string ⟨(dec n.toNat).toArray⟩) ∧ Below w.heap.size w w' := by
  refine (show Calls Tryz.prog 76 #[.int .i64 n] w _ from Any.strconv_Itoa Tryz.laysM171 n (by omega) h1 w E.tab).mono ?_
  rintro r w' ⟨rfl, k, os, rfl⟩
  refine ⟨?_, below_grew w k os⟩
  rw [Lib.itoa, if_neg (by omega)]
  rfl
theorem atoi_call (l : List UInt8) (hl : l.length ≤ 1000000000) (w : World) (E : Env w) :
    Calls Tryz.prog 98 #[.string ⟨l.toArray⟩] w fun r w' => ∃ v e, r = .returned (.tuple #[.int .i64 v, e]) ∧ ((e = .nilIface ∧ v = numP l) ∨ ((∃ t p, e = .iface t p) ∧ numP l = -1)) ∧ Below w.heap.size w w' := by
  have hsz : (⟨l.toArray⟩ : ByteArray).size = l.length := rfl
  cases h : Lib.atoiAll l
  · rename_i v
    refine (show Calls Tryz.prog 98 #[.string ⟨l.toArray⟩] w _ from Any.strconv_Atoi_ok Tryz.laysC172 ⟨l.toArray⟩ (by omega) v h w).mono ?_
    rintro r w' ⟨rfl, hw⟩
    refine ⟨v, .nilIface, rfl, .inl ⟨rfl, by unfold numP; rw [h]⟩, ?_⟩
    rcases hw with rfl | ⟨t, rfl⟩
    · exact Below.refl _ _
    · exact below_bytes w _ t
  · obtain ⟨tp, p, hs⟩ := E.syn
    refine (show Calls Tryz.prog 98 #[.string ⟨l.toArray⟩] w _ from Any.strconv_Atoi_syntax Tryz.laysC172 ⟨l.toArray⟩ (by omega) h (.iface tp p) w hs (.inr ⟨tp, p, rfl⟩)).mono ?_
    rintro r w' ⟨N, rfl, -, -, hb⟩
    exact ⟨_, _, rfl, .inr ⟨⟨_, _, rfl⟩, by unfold numP; rw [h]⟩, hb⟩
  · obtain ⟨tp, p, hs⟩ := E.rng
    refine (show Calls Tryz.prog 98 #[.string ⟨l.toArray⟩] w _ from Any.strconv_Atoi_range Tryz.laysC172 ⟨l.toArray⟩ (by omega) h (.iface tp p) w hs (.inr ⟨tp, p, rfl⟩)).mono ?_
    rintro r w' ⟨N, rfl, -, -, hb⟩
    exact ⟨_, _, rfl, .inr ⟨⟨_, _, rfl⟩, by unfold numP; rw [h]⟩, hb⟩
theorem number_call (l : List UInt8) (hl : l.length ≤ 1000000000) (w : World) (E : Env w) :
    Calls Tryz.prog 73 #[.string ⟨l.toArray⟩] w fun r w' => r = .returned (.int .i64 (numP l)) ∧ Below w.heap.size w w' := by
  have HE := hide E
  clear E
  go_enter Tryz.func73, Tryz.ntmps73
  go_wp2_with fail
  refine (atoi_call l hl w HE.out).mono ?_
  rintro r w' ⟨v, e, rfl, he, hb⟩
  have HB := hide hb
  clear hb
  rcases he with ⟨rfl, rfl⟩ | ⟨⟨t, p, rfl⟩, hn⟩
  · go_wp2
    go_ret
    exact ⟨rfl, HB.out⟩
  · have HN := hide hn
    clear hn
    go_wp2
    go_ret
    exact ⟨by rw [HN.out]; rfl, HB.out⟩
end Go.Proofs.YtoomnijgdpbphaaGreatDoor

namespace Go.Proofs.YtoomnijgdpbphaaGreatDoor
open Go.RowKit
set_option maxRecDepth 100000

theorem dec_length_le (n : Int) (h0 : 0 ≤ n) (h1 : n ≤ 9223372036854775807) : (dec n.toNat).length ≤ 21 := by
  have := Lib.itoa_length_le n (by omega) h1
  rw [Lib.itoa, if_neg (by omega)] at this
  exact this
theorem txt_cat (a b : List UInt8) : (⟨a.toArray⟩ ++ ⟨b.toArray⟩ : ByteArray) = ⟨(a ++ b).toArray⟩ := by
  apply ByteArray.ext
  simp
theorem ret_txt {a b : ByteArray} (h : a = b) : Ending.returned (.string a) = .returned (.string b) := by rw [h]
theorem headF_len (l : Int) (h : l ≤ 20) : (headF l).length ≤ 40 := by
  unfold headF
  split
  · decide
  · have := dec_length_le (l.toNat : Int) (by omega) (by omega)
    rw [Int.toNat_natCast] at this
    simp [tileF]
    omega

set_option maxHeartbeats 1000000 in
theorem name_bad (l i w : Int) (hb : badName l i w) (W : World) :
    Calls Tryz.prog 40 #[.int .i64 l, .int .i64 i, .int .i64 w] W fun r w' => r = .returned (.string ⟨(nameF l i w).toArray⟩) ∧ Below W.heap.size W w' := by
  rw [nameF_bad hb]
  unfold badName at hb
  go_enter Tryz.func40, Tryz.ntmps40
  go_wp2_with fail
  all_goals first | (go_ret; exact ⟨rfl, Below.refl _ _⟩) | (exfalso; omega)

set_option maxHeartbeats 1000000 in
theorem name_any (l i w : Int) (hi : i ≤ 9223372036854775807) (W : World) (E : Env W) :
    Calls Tryz.prog 40 #[.int .i64 l, .int .i64 i, .int .i64 w] W fun r w' => r = .returned (.string ⟨(nameF l i w).toArray⟩) ∧ Below W.heap.size W w' := by
  by_cases hb : badName l i w
  · exact name_bad l i w hb W
  have HN := hide (nameF_good hb)
  have hb' := hb
  unfold badName at hb'
  have n1 : ¬ l < -1 := by omega
  have n2 : ¬ 20 < l := by omega
  have n3 : ¬ i < 0 := by omega
  have n4 : ¬ w < 1 := by omega
  have n5 : ¬ 4 < w := by omega
  have HE := hide E
  have hdi := dec_length_le i (by omega) hi
  have hdw := dec_length_le w (by omega) (by omega)
  clear hb hb' E
  by_cases hl : l = -1
  · subst hl
    have Hh := hide headF_ent
    by_cases hw : w < 4
    · skip
      have Ht : Hid (tailF w = partF ++ dec w.toNat) := by show _ = _; unfold tailF; rw [if_pos hw]
      go_enter Tryz.func40, Tryz.ntmps40
      go_wp2_with fail
      refine (itoa_call i (by omega) hi W HE.out).mono ?_
      rintro r w1 ⟨rfl, hb1⟩
      have HB1 : Hid (Below W.heap.size W w1) := hb1
      clear hb1
      generalize dec i.toNat = di at *
      have b1 : ¬ 9223372036854775807 < 8 + di.length := by omega
      go_wp2_with fail
      refine (itoa_call w (by omega) (by omega) w1 (HE.out.below HB1.out)).mono ?_
      rintro r w2 ⟨rfl, hb2⟩
      have HB2 : Hid (Below W.heap.size W w2) := HB1.out.trans (hb2.mono HB1.out.size)
      clear hb2
      generalize dec w.toNat = dw at *
      have b2 : ¬ 9223372036854775807 < 3 + dw.length := by omega
      have b3 : ¬ 9223372036854775807 < 8 + di.length + (3 + dw.length) := by omega
      go_wp2_with fail
      go_ret
      refine ⟨?_, HB2.out⟩
      rw [HN.out, Hh.out, Ht.out]
      exact ret_txt (by unfold entF partF; apply ByteArray.ext; simp)
    · skip
      have Ht : Hid (tailF w = []) := by show _ = _; unfold tailF; rw [if_neg hw]
      go_enter Tryz.func40, Tryz.ntmps40
      go_wp2_with fail
      refine (itoa_call i (by omega) hi W HE.out).mono ?_
      rintro r w1 ⟨rfl, hb1⟩
      have HB1 : Hid (Below W.heap.size W w1) := hb1
      clear hb1
      generalize dec i.toNat = di at *
      have b1 : ¬ 9223372036854775807 < 8 + di.length := by omega
      go_wp2_with fail
      go_ret
      refine ⟨?_, HB1.out⟩
      rw [HN.out, Hh.out, Ht.out]
      exact ret_txt (by unfold entF; apply ByteArray.ext; simp)
  · have Hh := hide (headF_tile l hl)
    have hdl := dec_length_le l (by omega) (by omega)
    have nl : (l != -1) = true := by rw [bne_iff_ne]; exact hl
    by_cases hw : w < 4
    · skip
      have Ht : Hid (tailF w = partF ++ dec w.toNat) := by show _ = _; unfold tailF; rw [if_pos hw]
      go_enter Tryz.func40, Tryz.ntmps40
      go_wp2_with fail
      refine (itoa_call l (by omega) (by omega) W HE.out).mono ?_
      rintro r w0 ⟨rfl, hb0⟩
      have HB0 := hide hb0
      clear hb0
      generalize dec l.toNat = dl at *
      have b0 : ¬ 9223372036854775807 < 5 + dl.length := by omega
      have b00 : ¬ 9223372036854775807 < 5 + dl.length + 1 := by omega
      go_wp2_with fail
      refine (itoa_call i (by omega) hi w0 (HE.out.below HB0.out)).mono ?_
      rintro r w1 ⟨rfl, hb1⟩
      have HB1 : Hid (Below W.heap.size W w1) := HB0.out.trans (hb1.mono HB0.out.size)
      clear hb1
      generalize dec i.toNat = di at *
      have b1 : ¬ 9223372036854775807 < 5 + dl.length + 1 + di.length := by omega
      go_wp2_with fail
      refine (itoa_call w (by omega) (by omega) w1 (HE.out.below HB1.out)).mono ?_
      rintro r w2 ⟨rfl, hb2⟩
      have HB2 : Hid (Below W.heap.size W w2) := HB1.out.trans (hb2.mono HB1.out.size)
      clear hb2
      generalize dec w.toNat = dw at *
      have b2 : ¬ 9223372036854775807 < 3 + dw.length := by omega
      have b3 : ¬ 9223372036854775807 < 5 + dl.length + 1 + di.length + (3 + dw.length) := by omega
      go_wp2_with fail
      go_ret
      refine ⟨?_, HB2.out⟩
      rw [HN.out, Hh.out, Ht.out]
      exact ret_txt (by unfold tileF partF; apply ByteArray.ext; simp)
    · skip
      have Ht : Hid (tailF w = []) := by show _ = _; unfold tailF; rw [if_neg hw]
      go_enter Tryz.func40, Tryz.ntmps40
      go_wp2_with fail
      refine (itoa_call l (by omega) (by omega) W HE.out).mono ?_
      rintro r w0 ⟨rfl, hb0⟩
      have HB0 := hide hb0
      clear hb0
      generalize dec l.toNat = dl at *
      have b0 : ¬ 9223372036854775807 < 5 + dl.length := by omega
      have b00 : ¬ 9223372036854775807 < 5 + dl.length + 1 := by omega
      go_wp2_with fail
      refine (itoa_call i (by omega) hi w0 (HE.out.below HB0.out)).mono ?_
      rintro r w1 ⟨rfl, hb1⟩
      have HB1 : Hid (Below W.heap.size W w1) := HB0.out.trans (hb1.mono HB0.out.size)
      clear hb1
      generalize dec i.toNat = di at *
      have b1 : ¬ 9223372036854775807 < 5 + dl.length + 1 + di.length := by omega
      go_wp2_with fail
      go_ret
      refine ⟨?_, HB1.out⟩
      rw [HN.out, Hh.out, Ht.out]
      exact ret_txt (by unfold tileF; apply ByteArray.ext; simp)
end Go.Proofs.YtoomnijgdpbphaaGreatDoor
