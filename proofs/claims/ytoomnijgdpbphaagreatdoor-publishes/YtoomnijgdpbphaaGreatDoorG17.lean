import Derived.Test.YtoomnijgdpbphaaGreatDoorG12
import Derived.Test.YtoomnijgdpbphaaGreatDoorG16

namespace Go.Proofs.YtoomnijgdpbphaaGreatDoor
open Go.RowKit
set_option maxRecDepth 100000

set_option maxHeartbeats 1000000 in
theorem refName_bad (l i w : Int) (hb : badName l i w) (W : World) :
    Calls Tryz.prog 58 #[.int .i64 l, .int .i64 i, .int .i64 w] W fun r w' => r = .returned (.string ⟨(nameF l i w).toArray⟩) ∧ Below W.heap.size W w' := by
  rw [nameF_bad hb]
  unfold badName at hb
  go_enter Tryz.func58, Tryz.ntmps58
  go_wp2_with fail
  all_goals first | (go_ret; exact ⟨rfl, Below.refl _ _⟩) | (exfalso; omega)

set_option maxHeartbeats 1000000 in
theorem refName_any (l i w : Int) (hi : i ≤ 9223372036854775807) (W : World) :
    Calls Tryz.prog 58 #[.int .i64 l, .int .i64 i, .int .i64 w] W fun r w' => r = .returned (.string ⟨(nameF l i w).toArray⟩) ∧ Below W.heap.size W w' := by
  by_cases hb : badName l i w
  · exact refName_bad l i w hb W
  have HN := hide (nameF_good hb)
  have hb' := hb
  unfold badName at hb'
  have n1 : ¬ l < -1 := by omega
  have n2 : ¬ 20 < l := by omega
  have n3 : ¬ i < 0 := by omega
  have n4 : ¬ w < 1 := by omega
  have n5 : ¬ 4 < w := by omega
  have hdi := dec_length_le i (by omega) hi
  have hdw := dec_length_le w (by omega) (by omega)
  clear hb hb'
  by_cases hl : l = -1
  · subst hl
    have Hh := hide headF_ent
    by_cases hw : w < 4
    · skip
      have Ht : Hid (tailF w = partF ++ dec w.toNat) := by show _ = _; unfold tailF; rw [if_pos hw]
      go_enter Tryz.func58, Tryz.ntmps58
      go_wp2_with fail
      refine (digits_any i (by omega) hi W).mono ?_
      rintro r w1 ⟨rfl, hb1⟩
      have HB1 : Hid (Below W.heap.size W w1) := hb1
      clear hb1
      generalize dec i.toNat = di at *
      have b1 : ¬ 9223372036854775807 < 8 + di.length := by omega
      go_wp2_with fail
      refine (digits_any w (by omega) (by omega) w1).mono ?_
      rintro r w2 ⟨rfl, hb2⟩
      have HB2 : Hid (Below W.heap.size W w2) := HB1.out.trans (hb2.mono HB1.out.size)
      clear hb2
      generalize dec w.toNat = dw at *
      have b2 : ¬ 9223372036854775807 < 8 + di.length + 3 := by omega
      have b3 : ¬ 9223372036854775807 < 8 + di.length + 3 + dw.length := by omega
      go_wp2_with fail
      go_ret
      refine ⟨?_, HB2.out⟩
      rw [HN.out, Hh.out, Ht.out]
      exact ret_txt (by unfold entF partF; apply ByteArray.ext; simp)
    · skip
      have Ht : Hid (tailF w = []) := by show _ = _; unfold tailF; rw [if_neg hw]
      go_enter Tryz.func58, Tryz.ntmps58
      go_wp2_with fail
      refine (digits_any i (by omega) hi W).mono ?_
      rintro r w1 ⟨rfl, hb1⟩
      have HB1 : Hid (Below W.heap.size W w1) := hb1
      clear hb1
      generalize dec i.toNat = di at *
      have b1 : ¬ 9223372036854775807 < 8 + di.length := by omega
      go_wp2_with fail
      go_ret
      refine ⟨?_, HB1.out⟩
      rw [HN.out, Hh.out, Ht.out]
      exact ret_txt (by unfold entF; apply ByteArray.ext; simp)
  · have Hh := hide (headF_tile l hl)
    have hdl := dec_length_le l (by omega) (by omega)
    have nl : 0 ≤ l := by omega
    by_cases hw : w < 4
    · skip
      have Ht : Hid (tailF w = partF ++ dec w.toNat) := by show _ = _; unfold tailF; rw [if_pos hw]
      go_enter Tryz.func58, Tryz.ntmps58
      go_wp2_with fail
      refine (digits_any l (by omega) (by omega) W).mono ?_
      rintro r w0 ⟨rfl, hb0⟩
      have HB0 := hide hb0
      clear hb0
      generalize dec l.toNat = dl at *
      have b0 : ¬ 9223372036854775807 < 5 + dl.length := by omega
      have b00 : ¬ 9223372036854775807 < 5 + dl.length + 1 := by omega
      go_wp2_with fail
      refine (digits_any i (by omega) hi w0).mono ?_
      rintro r w1 ⟨rfl, hb1⟩
      have HB1 : Hid (Below W.heap.size W w1) := HB0.out.trans (hb1.mono HB0.out.size)
      clear hb1
      generalize dec i.toNat = di at *
      have b1 : ¬ 9223372036854775807 < 5 + dl.length + 1 + di.length := by omega
      go_wp2_with fail
      refine (digits_any w (by omega) (by omega) w1).mono ?_
      rintro r w2 ⟨rfl, hb2⟩
      have HB2 : Hid (Below W.heap.size W w2) := HB1.out.trans (hb2.mono HB1.out.size)
      clear hb2
      generalize dec w.toNat = dw at *
      have b2 : ¬ 9223372036854775807 < 5 + dl.length + 1 + di.length + 3 := by omega
      have b3 : ¬ 9223372036854775807 < 5 + dl.length + 1 + di.length + 3 + dw.length := by omega
      go_wp2_with fail
      go_ret
      refine ⟨?_, HB2.out⟩
      rw [HN.out, Hh.out, Ht.out]
      exact ret_txt (by unfold tileF partF; apply ByteArray.ext; simp)
    · skip
      have Ht : Hid (tailF w = []) := by show _ = _; unfold tailF; rw [if_neg hw]
      go_enter Tryz.func58, Tryz.ntmps58
      go_wp2_with fail
      refine (digits_any l (by omega) (by omega) W).mono ?_
      rintro r w0 ⟨rfl, hb0⟩
      have HB0 := hide hb0
      clear hb0
      generalize dec l.toNat = dl at *
      have b0 : ¬ 9223372036854775807 < 5 + dl.length := by omega
      have b00 : ¬ 9223372036854775807 < 5 + dl.length + 1 := by omega
      go_wp2_with fail
      refine (digits_any i (by omega) hi w0).mono ?_
      rintro r w1 ⟨rfl, hb1⟩
      have HB1 : Hid (Below W.heap.size W w1) := HB0.out.trans (hb1.mono HB0.out.size)
      clear hb1
      generalize dec i.toNat = di at *
      have b1 : ¬ 9223372036854775807 < 5 + dl.length + 1 + di.length := by omega
      go_wp2_with fail
      go_ret
      refine ⟨?_, HB1.out⟩
      rw [HN.out, Hh.out, Ht.out]
      exact ret_txt (by unfold tileF; apply ByteArray.ext; simp)

theorem parseR_eq {p q s2 : List UInt8} {lv ix wd : Int} {ok2 : Bool} (h1 : levelR p = (lv, q, true)) (h2 : restR q = (ix, wd, s2, ok2)) :
    parseR p = if ok2 = true ∧ s2 = [] ∧ nameF lv ix wd = p ∧ p ≠ [] then (lv, ix, wd, true) else (0, 0, 0, false) := by
  unfold parseR
  rw [h1]
  simp only []
  rw [h2]
  simp only [true_and]
theorem parseR_no {p : List UInt8} (h : (levelR p).2.2 = false) : parseR p = (0, 0, 0, false) := by
  unfold parseR
  rw [if_neg]
  intro hc
  rw [h] at hc
  simp at hc

end Go.Proofs.YtoomnijgdpbphaaGreatDoor

namespace Go.Proofs.YtoomnijgdpbphaaGreatDoor
open Go.RowKit
set_option maxRecDepth 100000

theorem tb_list (l : List UInt8) : (tb l).data.toList = l := rfl
set_option maxHeartbeats 1000000 in
/-- tilesref.bundle. -/
theorem refBunAt_any (v : Value) (fs : Fs) (j i : Nat) (w : World) (hn : fs.length ≤ 1000000000) (hl : ∀ f ∈ fs, f.2.length ≤ 1048576) (hj : j ≤ 1000000) (h : Fss w v fs) :
    Calls Tryz.prog 57 #[v, .int .i64 j, .int .i64 i] w fun r w' => Below w.heap.size w w' ∧ ∃ a n cap, r = .returned (.tuple #[.slice a n cap, .bool (bunAt (look fs) j i).isSome]) ∧ ∀ es, bunAt (look fs) j i = some es → es.length = i ∧ Sss w' (.slice a n cap) (es.map tb) := by
  have HF := hide h
  have HL := hide hl
  obtain ⟨a, cap, rfl, hcap, -⟩ := h
  clear hl hcap
  go_enter Tryz.func57, Tryz.ntmps57
  go_wp2_with fail
  refine (refName_any (-1) j i (by omega) w).mono ?_
  rintro r w1 ⟨rfl, hb1⟩
  have HB1 := hide hb1
  have HF1 := hide (HF.out.below hb1)
  have HBU : Hid (bunAt (look fs) j i = match look fs (nameF (-1) j i) with
    | some d => (match unbF d with | some es => if es.length = i then some es else none | none => none)
    | none => none) := rfl
  clear hb1
  generalize nameF (-1) (j : Int) (i : Int) = nm at *
  go_wp2_with fail
  refine (refFind_any _ fs nm w1 hn HF1.out).mono ?_
  rintro r w2 ⟨rfl, rfl⟩
  cases e : ixF fs nm with
  | none =>
    have he : ixI fs nm = -1 := by unfold ixI; rw [e]
    rw [he]
    have HB : Hid (bunAt (look fs) j i = none) := by
      show _ = _
      rw [HBU.out, (ixF_none e).1]
    clear e he
    go_wp2_with fail
    go_ret2
    exact ⟨HB1.out, _, _, _, by rw [HB.out]; rfl, fun es h => by rw [HB.out] at h; simp at h⟩
  | some k =>
    have he : ixI fs nm = k := by unfold ixI; rw [e]
    rw [he]
    obtain ⟨hk, -, hlk, -⟩ := ixF_some e
    obtain ⟨a', cap', he', hcap', hrow⟩ := HF1.out
    simp only [Value.slice.injEq, true_and] at he'
    obtain ⟨rfl, rfl⟩ := he'
    obtain ⟨b, off, rfl, hcs⟩ : ∃ b off, a = some ⟨b, off, none⟩ ∧ ∀ i (h : i < fs.length), w2.cell? ⟨b, off + i * 2, none⟩ = some (txv fs[i].1) ∧ w2.cell? ⟨b, off + i * 2 + 1, none⟩ = some (txv fs[i].2) := by
      rcases hrow with h | h
      · rw [h] at hk; simp at hk
      · exact h
    obtain ⟨-, y1⟩ := hcs k hk
    unfold txv at y1
    have hlen := HL.out _ (List.getElem_mem hk)
    have HLK := hide hlk
    clear hcs hrow e he hlk
    generalize fs[k].2 = x at *
    go_wp2_with fail
    refine (refUnb_any ⟨x.toArray⟩ w2 (by simpa [ByteArray.size] using hlen)).mono ?_
    rintro r w3 ⟨y, rfl, hb3, hs⟩
    obtain ⟨ya, yc, rfl, -⟩ := id hs
    have HB3 := hide (HB1.out.trans (hb3.mono HB1.out.size))
    have HS := hide hs
    have HBU' : Hid (bunAt (look fs) j i = match unbF x with | some es => if es.length = i then some es else none | none => none) := by
      show _ = _
      rw [HBU.out, HLK.out]
    clear hs hb3 y1 HBU
    have hxx : (⟨x.toArray⟩ : ByteArray).data.toList = x := rfl
    rw [hxx] at HS ⊢
    cases hu : unbF x with
    | none =>
      rw [hu] at HBU' HS
      go_wp2_with fail
      go_ret2
      exact ⟨HB3.out, _, _, _, by rw [HBU'.out]; rfl, fun es h => by rw [HBU'.out] at h; simp at h⟩
    | some es =>
      rw [hu] at HBU' HS
      have hsz : (List.map tb ((some es).getD [])).length = es.length := by simp
      rw [hsz] at HS ⊢
      by_cases hw : es.length = i
      · have HBB : Hid (bunAt (look fs) j i = some es) := by
          show _ = _
          rw [HBU'.out]
          simp [hw]
        rw [hw] at HS ⊢
        have HW := hide hw
        clear hw hu hsz
        go_wp2_with fail
        go_ret2
        refine ⟨HB3.out, _, _, _, by rw [HBB.out]; rfl, fun es' h => ?_⟩
        rw [HBB.out] at h
        obtain rfl : es = es' := by simpa using h
        exact ⟨HW.out, HS.out⟩
      · have HBB : Hid (bunAt (look fs) j i = none) := by
          show _ = _
          rw [HBU'.out]
          simp [hw]
        have HWF : Hid (((es.length : Int) == (i : Int)) = false) := by
          show _ = _
          simp only [beq_eq_false_iff_ne, ne_eq]
          omega
        clear hw hu hsz
        go_wp2_with fail
        go_ret2
        exact ⟨HB3.out, _, _, _, by rw [HBB.out]; exact congrArg (fun z => Ending.returned (.tuple #[.slice ya es.length yc, .bool z])) HWF.out, fun es h => by rw [HBB.out] at h; simp at h⟩
end Go.Proofs.YtoomnijgdpbphaaGreatDoor
