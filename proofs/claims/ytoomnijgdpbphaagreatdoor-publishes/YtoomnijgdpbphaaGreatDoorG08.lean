import Derived.Test.YtoomnijgdpbphaaGreatDoorG07
import Derived.Test.YtoomnijgdpbphaaGreatDoorG04
import Derived.Test.YtoomnijgdpbphaaGreatDoorG06

namespace Go.Proofs.YtoomnijgdpbphaaGreatDoor
open Go.RowKit
set_option maxRecDepth 100000

/-- A call's result lies in a block that was made behind all that may have turned. -/
theorem Within.below {B : Nat} {w w1 w2 : World} {T : Nat} (h1 : Below B w w1) (h2 : Within B T w1 w2) : Below B w w2 :=
  ⟨h2.os.trans h1.os, h2.tape.trans h1.tape, h2.output.trans h1.output, by rw [h2.size]; exact h1.size, fun k hk => (h2.block k (.inl hk)).trans (h1.block k hk)⟩

def fewB (ss : List ByteArray) : Bool := decide (ss.length ≤ 4096) && ss.all fun s => decide (s.size ≤ 1048576)
theorem fewB_true {ss : List ByteArray} (h : fewB ss = true) : ss.length ≤ 4096 ∧ ∀ s ∈ ss, s.size ≤ 1048576 := by
  simp [fewB] at h; exact h
theorem fewB_mk {ss : List ByteArray} (h : ss.length ≤ 4096) (h' : ∀ j (hj : j < ss.length), ss[j].size ≤ 1048576) : fewB ss = true := by
  simp only [fewB, Bool.and_eq_true, decide_eq_true_eq, List.all_eq_true]
  refine ⟨h, fun s hs => ?_⟩
  obtain ⟨j, hj, rfl⟩ := List.getElem_of_mem hs
  exact h' j hj
theorem fewB_big {ss : List ByteArray} (h : 4096 < ss.length) : fewB ss = false := by
  simp [fewB]; omega
theorem fewB_long {ss : List ByteArray} (k : Nat) (hk : k < ss.length) (h : 1048576 < ss[k].size) : fewB ss = false := by
  simp only [fewB, Bool.and_eq_false_iff]
  right
  rw [List.all_eq_false]
  exact ⟨ss[k], List.getElem_mem hk, by simp; omega⟩

end Go.Proofs.YtoomnijgdpbphaaGreatDoor

namespace Go.Proofs.YtoomnijgdpbphaaGreatDoor
open Go.RowKit
set_option maxRecDepth 100000

theorem infoByte : (Tryz.prog.info? 5).map (fun i => (i.zero, i.size, i.bytes)) = some (some (.int .u8 0), 1, 1) := by kernel_rfl
/-- Bytes in a block of the call's own. -/
def OB (w : World) (B : Nat) (x : Value) (l : List UInt8) : Prop := w.ownsRow B 5 1 x l.length (l.map bv) ∧ x ≠ .slice none 0 0
theorem OB.form {w : World} {B : Nat} {x : Value} {l : List UInt8} (h : OB w B x l) : ∃ g cap, x = .slice (some ⟨g, 0, none⟩) l.length cap ∧ B ≤ g ∧ g < w.heap.size ∧ ∀ i (hi : i < l.length), w.cell? ⟨g, i, none⟩ = some (bv l[i]) := by
  rcases h.1.2 with h0 | ⟨g, cap, cur, rfl, hB, hg, hn, hm, hs, ht⟩
  · exact absurd h0.1 h.2
  · refine ⟨g, cap, rfl, hB, heap_lt hg, fun i hi => ?_⟩
    rw [cell_of_row _ _ _ _ _ _ hg]
    have e : (l.map bv)[i]? = some (bv l[i]) := by simp [hi]
    rw [← ht, List.getElem?_take, if_pos (by omega)] at e
    simpa using e
theorem OB.conv {w : World} {B : Nat} {x : Value} {l : List UInt8} (h : OB w B x l) : (convert 89 9 x).run Tryz.prog w = .ok (txt l) w := by
  obtain ⟨g, cap, rfl, -, -, hc⟩ := h.form
  refine run_convert_bytes_back w _ _ 5 ⟨g, 0, none⟩ cap l Tryz.underlying89 Tryz.underlying5 Tryz.underlying9 (fun j hj => ?_)
  rw [Addr.add_mid, Nat.zero_add]
  exact hc j hj
theorem OB.below {w w' : World} {B : Nat} {x : Value} {l : List UInt8} (h : OB w B x l) (hb : Below w.heap.size w w') : OB w' B x l := ⟨ownsRow_below h.1 hb, h.2⟩
theorem EB.cells {w : World} {B : Nat} {x : Value} {l : List UInt8} (h : EB w B x l) : ∃ g cap, x = .slice (some ⟨g, 0, none⟩) l.length cap ∧ ∀ i (hi : i < l.length), w.cell? ⟨g, i, none⟩ = some (bv l[i]) := by
  obtain ⟨g, cap, C, fr, rfl, hB, hg, hc, hf⟩ := h
  exact ⟨g, cap, rfl, fun i hi => by rw [cell_of_row _ _ _ _ _ _ hg]; exact hc i hi⟩
theorem EBs.cells {w : World} {B : Nat} {v : Value} {ls : List (List UInt8)} (h : EBs w B v ls) :
    ∃ a cap, v = .slice a ls.length cap ∧ ∀ j (h : j < ls.length), ∃ b, a = some ⟨b, 0, none⟩ ∧ ∃ g c, w.cell? ⟨b, j, none⟩ = some (.slice (some ⟨g, 0, none⟩) ls[j].length c) ∧ ∀ i (hi : i < ls[j].length), w.cell? ⟨g, i, none⟩ = some (bv ls[j][i]) := by
  obtain ⟨xs, ⟨hl, ho⟩, hx⟩ := h
  rcases ho with ⟨rfl, h0⟩ | ⟨g, cap, cur, rfl, hB, hg, hn, hm, hs, ht⟩
  · exact ⟨none, 0, by rw [h0], fun j hj => by omega⟩
  · refine ⟨_, _, rfl, fun i hi => ⟨g, rfl, ?_⟩⟩
    obtain ⟨x, e, hb⟩ := hx i hi
    obtain ⟨g', c, rfl, hc⟩ := hb.cells
    refine ⟨g', c, ?_, hc⟩
    rw [cell_of_row _ _ _ _ _ _ hg]
    rw [← ht, Nat.mul_one] at e
    rw [List.getElem?_take, if_pos hi] at e
    simpa using e

theorem okB_big {ls : List (List UInt8)} (h : 4 < ls.length) : okB ls = false := by
  unfold okB; rw [show decide (ls.length ≤ 4) = false by simp; omega]; simp
theorem okB_none {ls : List (List UInt8)} (h : ls.length = 0) : okB ls = false := by
  unfold okB; rw [h]; rfl
theorem okB_long {ls : List (List UInt8)} (k : Nat) (hk : k < ls.length) (h : 20 < ls[k].length) : okB ls = false := by
  have : ls.all (fun l => decide (l.length ≤ 20)) = false := by
    rw [List.all_eq_false]
    exact ⟨ls[k], List.getElem_mem hk, by simp; omega⟩
  unfold okB; rw [this]; simp
theorem okB_mk {ls : List (List UInt8)} (h1 : 1 ≤ ls.length) (h4 : ls.length ≤ 4) (h : ∀ j (hj : j < ls.length), ls[j].length ≤ 20) : okB ls = true := by
  simp only [okB, Bool.and_eq_true, decide_eq_true_eq, List.all_eq_true]
  refine ⟨h1, h4, fun s hs => ?_⟩
  obtain ⟨j, hj, rfl⟩ := List.getElem_of_mem hs
  exact h j hj

theorem bun_snoc (ls : List (List UInt8)) (k : Nat) (hk : k < ls.length) (h : ls[k].length ≤ 20) :
    (bunL (ls.take (k + 1))).length = (bunL (ls.take k)).length + 1 + ls[k].length ∧ (bunL (ls.take (k + 1))).map bv = (bunL (ls.take k)).map bv ++ [.int .u8 (ls[k].length : Int)] ++ ls[k].map bv := by
  rw [List.take_succ_eq_append_getElem hk, bunL_append, bunL_one, bun1]
  refine ⟨by simp; omega, ?_⟩
  have e : bv (UInt8.ofNat ls[k].length) = .int .u8 (ls[k].length : Int) := by
    unfold bv
    congr 1
    rw [UInt8.toNat_ofNat']
    omega
  rw [List.map_append, List.map_cons, e]
  simp

theorem src_cells {w w2 : World} {g : Nat} {l : List UInt8} (hs : ∀ i (hi : i < l.length), w.cell? ⟨g, i, none⟩ = some (bv l[i])) (hg : 0 < l.length → g < w.heap.size) (hb : Below w.heap.size w w2) (j : Nat) (u : Value) (hj : (l.map bv)[j]? = some u) : w2.cell? ((⟨g, 0, none⟩ : Addr).add j) = some u := by
  have hjl : j < l.length := by simpa using (List.getElem?_eq_some_iff.1 hj).1
  rw [Addr.add_mid, Nat.zero_add, hb.cell (p := ⟨g, j, none⟩) (hg (by omega)), hs j hjl]
  simpa [hjl] using hj
theorem bv_one (l : List UInt8) : ∀ u ∈ l.map bv, u.oneCell' = true := by
  intro u hu
  obtain ⟨t, _, rfl⟩ := List.mem_map.1 hu
  rfl

set_option maxHeartbeats 2000000 in
theorem bundle_any (B : Nat) (v : Value) (ls : List (List UInt8)) (w : World) (hn : ls.length ≤ 1000000) (hl : ∀ l ∈ ls, l.length ≤ maxLen) (h : EBs w B v ls) :
    Calls Tryz.prog 149 #[v] w fun r w' => ∃ x, r = .returned x ∧ Below w.heap.size w w' ∧ (okB ls = true → OB w' w.heap.size x (bunL ls)) ∧ (okB ls = false → x = .slice none 0 0) := by
  obtain ⟨i, hi, hi'⟩ := Option.map_eq_some_iff.1 infoByte
  obtain ⟨hz0, hz1, hz2⟩ : i.zero = some (.int .u8 0) ∧ i.size = 1 ∧ i.bytes = 1 := by simpa using hi'
  clear hi'
  have HI := hide hi
  have HZ := hide (And.intro hz0 (And.intro hz1 hz2))
  clear hi hz0 hz1 hz2
  obtain ⟨a, cap, rfl, hc⟩ := h.cells
  have Hc := hide hc
  have Hl := hide hl
  clear h hc hl
  by_cases hbig : 4 < ls.length
  · have HR := hide (okB_big hbig)
    go_enter Tryz.func149, Tryz.ntmps149
    go_wp2
    go_ret
    exact ⟨_, rfl, Below.refl _ _, fun h => by rw [HR.out] at h; simp at h, fun _ => rfl⟩
  · go_enter Tryz.func149, Tryz.ntmps149
    go_wp2_with fail
    go_loopw [3, 11] (fun t i wr => ∃ k : Nat, k ≤ ls.length ∧ i = .int .i64 k ∧ Below w.heap.size w wr ∧ wr.ownsRow w.heap.size 5 1 t (bunL (ls.take k)).length ((bunL (ls.take k)).map bv) ∧ (k = 0 → t = .slice none 0 0) ∧ (0 < k → t ≠ .slice none 0 0) ∧ ∀ j (hj : j < ls.length), j < k → ls[j].length ≤ 20) (fun _ i _ => ls.length - (intOf i).toNat)
    case atStart => exact ⟨0, Nat.zero_le _, rfl, Below.refl _ _, ⟨rfl, .inl ⟨rfl, rfl⟩⟩, fun _ => rfl, fun h => absurd h (Nat.lt_irrefl _), fun j _ hj => absurd hj (Nat.not_lt_zero _)⟩
    case round =>
      obtain ⟨k, hk, rfl, hbe, hown, hnil, hnn, hall⟩ := hrel
      have HB := hide hbe
      have HO := hide hown
      have HN := hide (And.intro hnil hnn)
      have HA := hide hall
      clear hbe hown hnil hnn hall
      by_cases hlt : k < ls.length
      · obtain ⟨b, rfl, g, c, hx, hcs⟩ := Hc.out k hlt
        have hgl : 0 < ls[k].length → g < w.heap.size := fun h0 => cell_lt (p := ⟨g, 0, none⟩) (hcs 0 h0)
        rw [← HB.out.cell (cell_lt (p := ⟨b, k, none⟩) hx)] at hx
        have HS := hide hcs
        have HG := hide hgl
        have hm := Hl.out ls[k] (List.getElem_mem hlt)
        unfold maxLen at hm
        clear hcs hgl
        by_cases h20 : 20 < ls[k].length
        · have HR := hide (okB_long k hlt h20)
          generalize ls[k] = l at *
          go_wp2
          go_ret
          exact ⟨_, rfl, HB.out, fun h => by rw [HR.out] at h; simp at h, fun _ => rfl⟩
        · have hsn := bun_snoc ls k hlt (by omega)
          have HSN := hide hsn
          have HLL := hide (bunL_len (ls.take k) (fun l hl => by
            obtain ⟨j, hj, rfl⟩ := List.getElem_of_mem hl
            have hj' : j < k := by simp at hj; omega
            rw [List.getElem_take]
            exact HA.out j (by omega) hj'))
          have hlk : (ls.take k).length = k := by rw [List.length_take]; omega
          have HA' : Hid (∀ j (hj : j < ls.length), j < k + 1 → ls[j].length ≤ 20) := fun j hjl hjk => by
            rcases Nat.lt_or_ge j k with h | h
            · exact HA.out j hjl h
            · obtain rfl : j = k := by omega
              omega
          clear hsn HA
          have hwr : IntKind.u8.wrap (ls[k].length : Int) = (ls[k].length : Int) := by
            rw [IntKind.wrap_u8]; omega
          generalize ls[k] = l at *
          generalize bunL (ls.take k) = m at *
          have hml : m.length ≤ 84 := by have := HLL.out; rw [hlk] at this; omega
          have HML := hide hml
          have hl20 : l.length ≤ 20 := by omega
          clear hlk HLL hml hm
          have hsz : Hid (w.heap.size ≤ wr.heap.size) := HB.out.size
          have HO1 : Hid (∀ o, (wr.alloc o).ownsRow w.heap.size 5 1 u3 m.length (m.map bv)) := fun o => ownsRow_below HO.out (below_alloc wr o)
          go_wp2_with (first
            | (at_builtin; refine wpList_append_lies _ rfl _ _ _ rfl w.heap.size 5 i (.int .u8 0) 1 1 Tryz.underlying89 HI.out HZ.out.1 HZ.out.2.1 HZ.out.2.2 rfl (by omega) u3 m.length _ rfl (HO1.out _) ⟨wr.heap.size, 0, none⟩ 1 1 [.int .u8 (l.length : Int)] rfl rfl (World.news_of_block (heap_alloc_last _ _)) (by simp [Value.oneCell']) (by omega) (by have := HML.out; unfold maxLen; omega) (by have := HML.out; omega) (by have := hsz.out; simp; omega) (wr.heap.size + 1) (by simp) ?_; intro g' cap' w2 hown hgrow hat hltg; have HB1 : Hid (Below w.heap.size w w2) := (HB.out.trans ((below_alloc wr _).mono hsz.out)).grown hgrow (by have := hsz.out; simp; omega) (own_base HO.out); have HO2 := hide hown; clear hgrow hat hltg hown)
            | (at_builtin; (refine wpList_append_own _ rfl _ _ _ rfl w.heap.size 5 i (.int .u8 0) 1 1 Tryz.underlying89 HI.out HZ.out.1 HZ.out.2.1 HZ.out.2.2 rfl (by omega) (.slice (some ⟨g', 0, none⟩) (m.length + 1) cap') (m.length + 1) (m.map bv ++ [.int .u8 (l.length : Int)]) rfl HO2.out ⟨g, 0, none⟩ l.length c (l.map bv) rfl (by simp) (fun j u hj => src_cells HS.out HG.out HB1.out j u hj) (bv_one l) (by have := HML.out; unfold maxLen; omega) (by have := HML.out; omega) HB1.out.size ?_; intro v3 w3 hown hgrow hnil; have HB3 : Hid (Below w.heap.size w w3) := HB1.out.grown hgrow (by have := HB1.out.size; omega) (own_base HO2.out); have HO3 := hide hown; have HN3 : Hid (v3 ≠ .slice none 0 0) := (fun e => absurd (hnil.1 e).1 (by simp)); clear hgrow hnil hown)))
          go_roundw
          case rel => exact ⟨k + 1, by omega, by go_num, HB3.out, by rw [HSN.out.1, HSN.out.2]; exact HO3.out, fun h => by omega, fun _ => HN3.out, HA'.out⟩
          case measure => simp [intOf]; omega
      · go_wp2_with fail
        go_ret
        have hk' : ls.length = k := by omega
        refine ⟨_, rfl, HB.out, fun ho => ?_, fun ho => ?_⟩
        · have := HO.out
          rw [List.take_of_length_le (by omega)] at this
          refine ⟨this, HN.out.2 ?_⟩
          rcases Nat.eq_zero_or_pos k with h | h
          · rw [okB_none (by omega)] at ho; simp at ho
          · exact h
        · refine HN.out.1 ?_
          rcases Nat.eq_zero_or_pos k with h | h
          · exact h
          · rw [okB_mk (by omega) (by omega) (fun j hj => HA.out j hj (by omega))] at ho
            simp at ho
end Go.Proofs.YtoomnijgdpbphaaGreatDoor

namespace Go.Proofs.YtoomnijgdpbphaaGreatDoor
open Go.RowKit
set_option maxRecDepth 100000

def bunT (ls : List (List UInt8)) : List UInt8 := if okB ls = true then bunL ls else []
theorem bunT_yes {ls : List (List UInt8)} (h : okB ls = true) : bunT ls = bunL ls := by unfold bunT; rw [if_pos h]
theorem bunT_no {ls : List (List UInt8)} (h : okB ls = false) : bunT ls = [] := by unfold bunT; rw [if_neg (by simp [h])]
theorem bys_max (ss : List ByteArray) (hl : ∀ s ∈ ss, s.size ≤ 1048576) : ∀ l ∈ bys ss, l.length ≤ maxLen := by
  intro l h
  obtain ⟨s, hs, rfl⟩ := List.mem_map.1 h
  have := hl s hs
  rw [Array.length_toList]
  unfold maxLen
  exact Nat.le_trans this (by decide)

set_option maxHeartbeats 2000000 in
theorem refBundle_any (v : Value) (ss : List ByteArray) (w : World) (hn : ss.length ≤ 2000000) (hl : ∀ s ∈ ss, s.size ≤ 1048576) (h : Sss w v ss) :
    Calls Tryz.prog 62 #[v] w fun r w' => r = .returned (.tuple #[txt (bunT (bys ss)), .bool (okB (bys ss))]) ∧ Below w.heap.size w w' := by
  obtain ⟨a, cap, rfl, hcap, h'⟩ := h
  have Hc : Hid (ss.length = 0 ∨ ∃ b off, a = some ⟨b, off, none⟩ ∧ ∀ i (h : i < ss.length), w.cell? ⟨b, off + i, none⟩ = some (.string ss[i])) := by
    rcases h' with h | h
    · exact .inl (by simp [h])
    · exact .inr h
  have Hl := hide hl
  clear h' hl hcap
  have hbl := bys_length ss
  by_cases h0 : ss.length = 0
  · have ho : okB (bys ss) = false := okB_none (by omega)
    rw [bunT_no ho, ho]
    go_enter Tryz.func62, Tryz.ntmps62
    go_wp2
    go_ret2
    exact ⟨rfl, Below.refl _ _⟩
  by_cases h4 : 4 < ss.length
  · have ho : okB (bys ss) = false := okB_big (by omega)
    rw [bunT_no ho, ho]
    go_enter Tryz.func62, Tryz.ntmps62
    go_wp2
    go_ret2
    exact ⟨rfl, Below.refl _ _⟩
  have n0 : ((ss.length : Int) == 0) = false := by rw [beq_eq_false_iff_ne]; omega
  have n4 : ¬ (4 : Int) < (ss.length : Int) := by omega
  go_enter Tryz.func62, Tryz.ntmps62
  go_wp2_with fail
  go_loopw [4, 5] (fun t i wr => ∃ k : Nat, k ≤ ss.length ∧ i = .int .i64 k ∧ Below w.heap.size w wr ∧ t = txt (bunL ((bys ss).take k)) ∧ ∀ j (hj : j < (bys ss).length), j < k → (bys ss)[j].length ≤ 20) (fun _ i _ => ss.length - (intOf i).toNat)
  case atStart => exact ⟨0, Nat.zero_le _, rfl, Below.refl _ _, rfl, fun j _ hj => absurd hj (Nat.not_lt_zero _)⟩
  case round =>
    obtain ⟨k, hk, rfl, hbe, rfl, hall⟩ := hrel
    have HB := hide hbe
    have HA := hide hall
    clear hbe hall
    by_cases hlt : k < ss.length
    · rcases Hc.out with h0' | ⟨b, off, rfl, hcell⟩
      · omega
      have hx := hcell k hlt
      rw [← HB.out.cell (cell_lt (p := ⟨b, off + k, none⟩) hx)] at hx
      have hm := Hl.out ss[k] (List.getElem_mem hlt)
      clear hcell
      have hbk : (bys ss)[k]'(by omega) = ss[k].data.toList := by simp [bys]
      have hbkl : ((bys ss)[k]'(by omega)).length = ss[k].size := by rw [hbk]; simp
      by_cases h20 : 20 < ss[k].size
      · have ho : okB (bys ss) = false := okB_long k (by omega) (by omega)
        have HR := hide ho
        have HR2 := hide (bunT_no ho)
        clear hbk hbkl
        generalize ss[k] = s at *
        go_wp2
        go_ret2
        exact ⟨by rw [HR.out, HR2.out]; rfl, HB.out⟩
      · have HSN : Hid (bunL ((bys ss).take (k + 1)) = bunL ((bys ss).take k) ++ (UInt8.ofNat ss[k].size :: ss[k].data.toList)) := by
          show bunL ((bys ss).take (k + 1)) = _
          rw [List.take_succ_eq_append_getElem (by omega), bunL_append, bunL_one, bun1, hbkl, hbk]
        have HA' : Hid (∀ j (hj : j < (bys ss).length), j < k + 1 → (bys ss)[j].length ≤ 20) := fun j hjl hjk => by
          rcases Nat.lt_or_ge j k with h | h
          · exact HA.out j hjl h
          · obtain rfl : j = k := by omega
            omega
        have HLL := hide (bunL_len ((bys ss).take k) (fun l hl => by
          obtain ⟨j, hj, rfl⟩ := List.getElem_of_mem hl
          have hj' : j < k := by simp at hj; omega
          rw [List.getElem_take]
          exact HA.out j (by omega) hj'))
        have hwr : IntKind.u8.wrap (ss[k].size : Int) = (ss[k].size : Int) := by
          rw [IntKind.wrap_u8]; omega
        clear hbk hbkl HA
        generalize ss[k] = s at *
        generalize bunL ((bys ss).take k) = m at *
        have hcv := conv_row (wr.alloc (.cells #[.int .u8 (s.size : Int)] 5)).drew wr.heap.size 1 1 [UInt8.ofNat s.size] 5 (0, 0) rfl (by show (wr.alloc _).heap[_]? = _; rw [heap_alloc_last]; simp [hv, bv]; omega)
        have hx2 : ∀ o, (wr.alloc o).cell? ⟨b, off + k, none⟩ = some (.string s) := fun o => (cell_old wr o ⟨b, off + k, none⟩ (cell_lt (p := ⟨b, off + k, none⟩) hx)).trans hx
        have hml : m.length ≤ 84 := by have := HLL.out; rw [List.length_take, hbl] at this; omega
        have b1 : ¬ 9223372036854775807 < m.length + 1 := by omega
        have b2 : ¬ 9223372036854775807 < m.length + 1 + s.size := by omega
        unfold txt at hcv ⊢
        go_wp2_with fail
        go_region
        all_goals go_wp2
        all_goals go_roundw
        case rel => exact ⟨k + 1, by omega, by go_num, (HB.out.trans ((below_alloc wr _).mono HB.out.size)).drew, by rw [HSN.out]; congr 1; apply ByteArray.ext; simp, HA'.out⟩
        case measure => simp [intOf]; omega
    · go_wp2_with fail
      go_ret2
      have ho : okB (bys ss) = true := okB_mk (by omega) (by omega) (fun j hj => HA.out j hj (by omega))
      rw [bunT_yes ho, ho, List.take_of_length_le (by omega)]
      exact ⟨rfl, HB.out⟩
end Go.Proofs.YtoomnijgdpbphaaGreatDoor
