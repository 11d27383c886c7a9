import Derived.Test.YtoomnijgdpbphaaGreatDoorG31
import Derived.Test.YtoomnijgdpbphaaGreatDoorG08
import Derived.Deep.RegionHeld3
import Derived.Test.YtoomnijgdpbphaaGreatDoorG19

namespace Go.Proofs.YtoomnijgdpbphaaGreatDoor
open Go.RowKit
set_option maxRecDepth 100000

/-- Entries in memory, from a place on. -/
def CellsAt (w : World) (v : Value) (ls : List (List UInt8)) : Prop := ∃ a cap, v = .slice a ls.length cap ∧ ∀ j (h : j < ls.length), ∃ b off, a = some ⟨b, off, none⟩ ∧ ls.length ≤ cap ∧ ∃ g c, w.cell? ⟨b, off + j, none⟩ = some (.slice (some ⟨g, 0, none⟩) ls[j].length c) ∧ ∀ i (hi : i < ls[j].length), w.cell? ⟨g, i, none⟩ = some (bv ls[j][i])
set_option maxHeartbeats 2000000 in
theorem bundleOff_any (v : Value) (ls : List (List UInt8)) (w : World) (hn : ls.length ≤ 1000000) (hl : ∀ l ∈ ls, l.length ≤ maxLen) (h : CellsAt w v ls) :
    Calls Tryz.prog 149 #[v] w fun r w' => ∃ x, r = .returned x ∧ Below w.heap.size w w' ∧ (okB ls = true → OB w' w.heap.size x (bunL ls)) ∧ (okB ls = false → x = .slice none 0 0) := by
  obtain ⟨i, hi, hi'⟩ := Option.map_eq_some_iff.1 infoByte
  obtain ⟨hz0, hz1, hz2⟩ : i.zero = some (.int .u8 0) ∧ i.size = 1 ∧ i.bytes = 1 := by simpa using hi'
  clear hi'
  have HI := hide hi
  have HZ := hide (And.intro hz0 (And.intro hz1 hz2))
  clear hi hz0 hz1 hz2
  obtain ⟨a, cap, rfl, hc⟩ := h
  have Hc := hide hc
  have Hl := hide hl
  clear hc hl
  by_cases hbig : 4 < ls.length
  · have HR := hide (okB_big hbig)
    go_enter Tryz.func149, Tryz.ntmps149
    go_wp2
    go_ret
    exact ⟨_, rfl, Below.refl _ _, fun h => by rw [HR.out] at h; simp at h, fun _ => rfl⟩
  · go_enter Tryz.func149, Tryz.ntmps149
    go_wp2_with fail
    go_loopw [3, 11] (fun t i wr => ∃ k : Nat, k ≤ ls.length ∧ i = .int .i64 k ∧ Below w.heap.size w wr ∧ wr.ownsRow w.heap.size 5 1 t (bunL (ls.take k)).length ((bunL (ls.take k)).map bv) ∧ (k = 0 → t = .slice none 0 0) ∧ (0 < k → t ≠ .slice none 0 0) ∧ ∀ j (hj : j < ls.length), j < k → ls[j].length ≤ 20) (fun _ i _ => ls.length - (intOf i).toNat)
    case atStart => exact ⟨0, Nat.zero_le _, rfl, Below.refl _ _, ⟨rfl, .inl ⟨rfl, rfl⟩⟩, fun _ => rfl, fun h => absurd h (Nat.lt_irrefl _), fun j _ hj => absurd hj (Nat.not_lt_zero _)⟩
    case round =>
      obtain ⟨k, hk, rfl, hbe, hown, hnil, hnn, hall⟩ := hrel
      have HB := hide hbe
      have HO := hide hown
      have HN := hide (And.intro hnil hnn)
      have HA := hide hall
      clear hbe hown hnil hnn hall
      by_cases hlt : k < ls.length
      · obtain ⟨b, off, rfl, hcp, g, c, hx, hcs⟩ := Hc.out k hlt
        have hgl : 0 < ls[k].length → g < w.heap.size := fun h0 => cell_lt (p := ⟨g, 0, none⟩) (hcs 0 h0)
        rw [← HB.out.cell (cell_lt (p := ⟨b, off + k, none⟩) hx)] at hx
        have HS := hide hcs
        have HG := hide hgl
        have hm := Hl.out ls[k] (List.getElem_mem hlt)
        unfold maxLen at hm
        clear hcs hgl
        by_cases h20 : 20 < ls[k].length
        · have HR := hide (okB_long k hlt h20)
          generalize ls[k] = l at *
          go_wp2
          go_ret
          exact ⟨_, rfl, HB.out, fun h => by rw [HR.out] at h; simp at h, fun _ => rfl⟩
        · have hsn := bun_snoc ls k hlt (by omega)
          have HSN := hide hsn
          have HLL := hide (bunL_len (ls.take k) (fun l hl => by
            obtain ⟨j, hj, rfl⟩ := List.getElem_of_mem hl
            have hj' : j < k := by simp at hj; omega
            rw [List.getElem_take]
            exact HA.out j (by omega) hj'))
          have hlk : (ls.take k).length = k := by rw [List.length_take]; omega
          have HA' : Hid (∀ j (hj : j < ls.length), j < k + 1 → ls[j].length ≤ 20) := fun j hjl hjk => by
            rcases Nat.lt_or_ge j k with h | h
            · exact HA.out j hjl h
            · obtain rfl : j = k := by omega
              omega
          clear hsn HA
          have hwr : IntKind.u8.wrap (ls[k].length : Int) = (ls[k].length : Int) := by
            rw [IntKind.wrap_u8]; omega
          generalize ls[k] = l at *
          generalize bunL (ls.take k) = m at *
          have hml : m.length ≤ 84 := by have := HLL.out; rw [hlk] at this; omega
          have HML := hide hml
          have hl20 : l.length ≤ 20 := by omega
          clear hlk HLL hml hm
          have hsz : Hid (w.heap.size ≤ wr.heap.size) := HB.out.size
          have HO1 : Hid (∀ o, (wr.alloc o).ownsRow w.heap.size 5 1 u3 m.length (m.map bv)) := fun o => ownsRow_below HO.out (below_alloc wr o)
          go_wp2_with (first
            | (at_builtin; refine wpList_append_lies _ rfl _ _ _ rfl w.heap.size 5 i (.int .u8 0) 1 1 Tryz.underlying89 HI.out HZ.out.1 HZ.out.2.1 HZ.out.2.2 rfl (by omega) u3 m.length _ rfl (HO1.out _) ⟨wr.heap.size, 0, none⟩ 1 1 [.int .u8 (l.length : Int)] rfl rfl (World.news_of_block (heap_alloc_last _ _)) (by simp [Value.oneCell']) (by omega) (by have := HML.out; unfold maxLen; omega) (by have := HML.out; omega) (by have := hsz.out; simp; omega) (wr.heap.size + 1) (by simp) ?_; intro g' cap' w2 hown hgrow hat hltg; have HB1 : Hid (Below w.heap.size w w2) := (HB.out.trans ((below_alloc wr _).mono hsz.out)).grown hgrow (by have := hsz.out; simp; omega) (own_base HO.out); have HO2 := hide hown; clear hgrow hat hltg hown)
            | (at_builtin; (refine wpList_append_own _ rfl _ _ _ rfl w.heap.size 5 i (.int .u8 0) 1 1 Tryz.underlying89 HI.out HZ.out.1 HZ.out.2.1 HZ.out.2.2 rfl (by omega) (.slice (some ⟨g', 0, none⟩) (m.length + 1) cap') (m.length + 1) (m.map bv ++ [.int .u8 (l.length : Int)]) rfl HO2.out ⟨g, 0, none⟩ l.length c (l.map bv) rfl (by simp) (fun j u hj => src_cells HS.out HG.out HB1.out j u hj) (bv_one l) (by have := HML.out; unfold maxLen; omega) (by have := HML.out; omega) HB1.out.size ?_; intro v3 w3 hown hgrow hnil; have HB3 : Hid (Below w.heap.size w w3) := HB1.out.grown hgrow (by have := HB1.out.size; omega) (own_base HO2.out); have HO3 := hide hown; have HN3 : Hid (v3 ≠ .slice none 0 0) := (fun e => absurd (hnil.1 e).1 (by simp)); clear hgrow hnil hown)))
          go_roundw
          case rel => exact ⟨k + 1, by omega, by go_num, HB3.out, by rw [HSN.out.1, HSN.out.2]; exact HO3.out, fun h => by omega, fun _ => HN3.out, HA'.out⟩
          case measure => simp [intOf]; omega
      · go_wp2_with fail
        go_ret
        have hk' : ls.length = k := by omega
        refine ⟨_, rfl, HB.out, fun ho => ?_, fun ho => ?_⟩
        · have := HO.out
          rw [List.take_of_length_le (by omega)] at this
          refine ⟨this, HN.out.2 ?_⟩
          rcases Nat.eq_zero_or_pos k with h | h
          · rw [okB_none (by omega)] at ho; simp at ho
          · exact h
        · refine HN.out.1 ?_
          rcases Nat.eq_zero_or_pos k with h | h
          · exact h
          · rw [okB_mk (by omega) (by omega) (fun j hj => HA.out j hj (by omega))] at ho
            simp at ho

/-- A piece of the entries. -/
theorem cells_piece {w : World} {B g cap : Nat} {es : List (List UInt8)} (h : OBs w B (.slice (some ⟨g, 0, none⟩) es.length cap) es) (i n : Nat) (hn : i + n ≤ es.length) (a : Option Addr) (c : Nat) (ha : 0 < n → a = some ⟨g, i, none⟩) (hc : n ≤ c) : CellsAt w (.slice a n c) ((es.drop i).take n) := by
  obtain ⟨xs, ho, hx⟩ := h
  have hl : ((es.drop i).take n).length = n := by simp; omega
  refine ⟨a, c, by rw [hl], fun j hj => ?_⟩
  rw [hl] at hj
  obtain ⟨x, e, hob⟩ := hx (i + j) (by omega)
  obtain ⟨gx, cx, rfl, -, -, hcs⟩ := hob.form
  have hce := ho.cells rfl _ _ e
  rw [Addr.add_mid, Nat.zero_add] at hce
  refine ⟨g, i, ha (by omega), by rw [hl]; exact hc, gx, cx, ?_, ?_⟩
  · rw [List.getElem_take, List.getElem_drop]
    exact hce
  · intro q hq
    simp only [List.getElem_take, List.getElem_drop] at hq ⊢
    exact hcs q hq
theorem OB.bq {w : World} {B : Nat} {x : Value} {l : List UInt8} (h : OB w B x l) : Bq w x l := by
  rcases h.1.2 with h0 | ⟨g, cap, cur, rfl, hB, hg, hn, hm, hs, ht⟩
  · exact absurd h0.1 h.2
  · refine ⟨g, cap, cur, (0, 0), rfl, hn, hg, fun i hi => ?_⟩
    have e : (l.map bv)[i]? = some (bv l[i]) := by simp [hi]
    rw [← ht, List.getElem?_take, if_pos (by omega)] at e
    simpa using e

theorem flat_bun (es : List (List UInt8)) (i n : Nat) (h : i + n ≤ es.length) : ((List.range' i n).map (dataF es (-1))).flatten = bunL ((es.drop i).take n) := by
  induction n with
  | zero => simp [bunL]
  | succ n ih =>
    have hi := ih (by omega)
    rw [List.range'_1_concat, List.map_append, List.flatten_append, hi]
    have e : (es.drop i).take (n + 1) = (es.drop i).take n ++ [es[i + n]] := by
      rw [List.take_add_one, List.getElem?_drop, List.getElem?_eq_getElem (by omega)]
      rfl
    rw [e, bunL_append, bunL_one]
    congr 1
    simp [dataF, List.getElem?_eq_getElem (show i + n < es.length by omega)]
theorem okB_piece (es : List (List UInt8)) (i n : Nat) (h : i + n ≤ es.length) (h1 : 1 ≤ n) (h4 : n ≤ 4) (h20 : ∀ e ∈ es, e.length ≤ 20) : okB ((es.drop i).take n) = true := by
  refine okB_mk (by simp; omega) (by simp; omega) (fun j hj => ?_)
  rw [List.getElem_take, List.getElem_drop]
  exact h20 _ (List.getElem_mem _)

set_option maxHeartbeats 1000000 in
theorem fileB_any (O : Nat → Prop) (db lb : Nat) (l : Lg) (w : World) (he : l.es.length ≤ 1000000) (h20 : ∀ e ∈ l.es, e.length ≤ 20) (h : LogAt w O db lb l) (i n : Nat) (hin : i + n ≤ l.es.length) (h1 : 1 ≤ n) (h4 : n ≤ 4) :
    Calls Tryz.prog 130 #[.pointer (some ⟨lb, 0, none⟩), .int .i64 (-1), .int .i64 i, .int .i64 ((i + n : Nat) : Int)] w fun r w' => ∃ v, r = .returned v ∧ Below w.heap.size w w' ∧ Bq w' v (((List.range' i n).map (dataF l.es (-1))).flatten) := by
  obtain ⟨a, cap, hb, hes, -⟩ := lok h
  obtain ⟨-, -, ⟨c2, f2⟩, -⟩ := lall hb
  obtain ⟨g, rfl, -⟩ := obs_block hes (by omega)
  have hcap := obs_cap hes
  have HES := hide hes
  have H20 := hide h20
  have HFL := hide (flat_bun l.es i n hin)
  have HOK := hide (okB_piece l.es i n hin h1 h4 h20)
  clear h hb hes h20 f2
  have hci : ¬ cap = i := by omega
  have hj1 : (i : Int) ≤ ((i + n : Nat) : Int) := by omega
  have hj2 : ((i + n : Nat) : Int) ≤ (cap : Int) := by omega
  go_enter Tryz.func130, Tryz.ntmps130
  go_wp2_with fail
  refine (bundleOff_any (.slice (some ⟨g, i, none⟩) n (cap - i)) ((l.es.drop i).take n) w (by simp; omega) (fun e he' => Nat.le_trans (H20.out e (List.mem_of_mem_drop (List.mem_of_mem_take he'))) (by unfold maxLen; omega)) (cells_piece HES.out i n hin _ _ (fun _ => rfl) (by omega))).mono ?_
  rintro r w1 ⟨x, rfl, hb1, hok, -⟩
  have HB1 := hide hb1
  have HOB := hide (hok HOK.out)
  obtain ⟨gx, cx, nx, rfl⟩ := ob_shape (hok HOK.out)
  clear hb1 hok
  go_wp2_with fail
  go_ret
  exact ⟨_, rfl, HB1.out, by rw [HFL.out]; exact HOB.out.bq⟩

theorem cells8 {w : World} {g : Nat} {a0 a1 a2 a3 a4 a5 a6 a7 : Value} {t : TypeId} {fr : Nat × Nat} (h : w.heap[g]? = some (.cells #[a0, a1, a2, a3, a4, a5, a6, a7] t fr)) :
    w.cell? ⟨g, 0, none⟩ = some a0 ∧ w.cell? ⟨g, 1, none⟩ = some a1 ∧ w.cell? ⟨g, 2, none⟩ = some a2 ∧ w.cell? ⟨g, 3, none⟩ = some a3 ∧ w.cell? ⟨g, 4, none⟩ = some a4 ∧ w.cell? ⟨g, 5, none⟩ = some a5 ∧ w.cell? ⟨g, 6, none⟩ = some a6 ∧ w.cell? ⟨g, 7, none⟩ = some a7 := by
  refine ⟨?_, ?_, ?_, ?_, ?_, ?_, ?_, ?_⟩ <;> rw [cell_of_row _ _ _ _ _ _ h] <;> rfl
theorem eight_set {w : World} {b : Nat} {t : TypeId} {a0 a1 a2 a3 a4 a5 a6 a7 : Value} (v0 v1 v2 v3 v4 v5 v6 v7 : Value) (h : w.heap[b]? = some (.cells #[a0, a1, a2, a3, a4, a5, a6, a7] t (0, 0))) : ((((((((w.setCell ⟨b, 0, none⟩ v0).setCell ⟨b, 1, none⟩ v1).setCell ⟨b, 2, none⟩ v2).setCell ⟨b, 3, none⟩ v3).setCell ⟨b, 4, none⟩ v4).setCell ⟨b, 5, none⟩ v5).setCell ⟨b, 6, none⟩ v6).setCell ⟨b, 7, none⟩ v7).heap[b]? = some (.cells #[v0, v1, v2, v3, v4, v5, v6, v7] t (0, 0)) := by
  have e0 : (w.setCell ⟨b, 0, none⟩ v0).heap[b]? = some (.cells #[v0, a1, a2, a3, a4, a5, a6, a7] t (0, 0)) := dset h 0 v0
  have e1 : ((w.setCell ⟨b, 0, none⟩ v0).setCell ⟨b, 1, none⟩ v1).heap[b]? = some (.cells #[v0, v1, a2, a3, a4, a5, a6, a7] t (0, 0)) := dset e0 1 v1
  have e2 : (((w.setCell ⟨b, 0, none⟩ v0).setCell ⟨b, 1, none⟩ v1).setCell ⟨b, 2, none⟩ v2).heap[b]? = some (.cells #[v0, v1, v2, a3, a4, a5, a6, a7] t (0, 0)) := dset e1 2 v2
  have e3 : ((((w.setCell ⟨b, 0, none⟩ v0).setCell ⟨b, 1, none⟩ v1).setCell ⟨b, 2, none⟩ v2).setCell ⟨b, 3, none⟩ v3).heap[b]? = some (.cells #[v0, v1, v2, v3, a4, a5, a6, a7] t (0, 0)) := dset e2 3 v3
  have e4 : (((((w.setCell ⟨b, 0, none⟩ v0).setCell ⟨b, 1, none⟩ v1).setCell ⟨b, 2, none⟩ v2).setCell ⟨b, 3, none⟩ v3).setCell ⟨b, 4, none⟩ v4).heap[b]? = some (.cells #[v0, v1, v2, v3, v4, a5, a6, a7] t (0, 0)) := dset e3 4 v4
  have e5 : ((((((w.setCell ⟨b, 0, none⟩ v0).setCell ⟨b, 1, none⟩ v1).setCell ⟨b, 2, none⟩ v2).setCell ⟨b, 3, none⟩ v3).setCell ⟨b, 4, none⟩ v4).setCell ⟨b, 5, none⟩ v5).heap[b]? = some (.cells #[v0, v1, v2, v3, v4, v5, a6, a7] t (0, 0)) := dset e4 5 v5
  have e6 : (((((((w.setCell ⟨b, 0, none⟩ v0).setCell ⟨b, 1, none⟩ v1).setCell ⟨b, 2, none⟩ v2).setCell ⟨b, 3, none⟩ v3).setCell ⟨b, 4, none⟩ v4).setCell ⟨b, 5, none⟩ v5).setCell ⟨b, 6, none⟩ v6).heap[b]? = some (.cells #[v0, v1, v2, v3, v4, v5, v6, a7] t (0, 0)) := dset e5 6 v6
  have e7 : ((((((((w.setCell ⟨b, 0, none⟩ v0).setCell ⟨b, 1, none⟩ v1).setCell ⟨b, 2, none⟩ v2).setCell ⟨b, 3, none⟩ v3).setCell ⟨b, 4, none⟩ v4).setCell ⟨b, 5, none⟩ v5).setCell ⟨b, 6, none⟩ v6).setCell ⟨b, 7, none⟩ v7).heap[b]? = some (.cells #[v0, v1, v2, v3, v4, v5, v6, v7] t (0, 0)) := dset e6 7 v7
  exact e7
theorem eight_below {B b : Nat} {a w : World} (h : Below B a w) (hb : B ≤ b) (v0 v1 v2 v3 v4 v5 v6 v7 : Value) : Below B a ((((((((w.setCell ⟨b, 0, none⟩ v0).setCell ⟨b, 1, none⟩ v1).setCell ⟨b, 2, none⟩ v2).setCell ⟨b, 3, none⟩ v3).setCell ⟨b, 4, none⟩ v4).setCell ⟨b, 5, none⟩ v5).setCell ⟨b, 6, none⟩ v6).setCell ⟨b, 7, none⟩ v7) :=
  h|>.setCell (p := ⟨b, 0, none⟩) hb v0|>.setCell (p := ⟨b, 1, none⟩) hb v1|>.setCell (p := ⟨b, 2, none⟩) hb v2|>.setCell (p := ⟨b, 3, none⟩) hb v3|>.setCell (p := ⟨b, 4, none⟩) hb v4|>.setCell (p := ⟨b, 5, none⟩) hb v5|>.setCell (p := ⟨b, 6, none⟩) hb v6|>.setCell (p := ⟨b, 7, none⟩) hb v7
theorem firstOf_int (l : Int) (h1 : 0 ≤ l) (h2 : l ≤ 20) (x : Int) (hx : 0 ≤ x) (P : Nat) (hP : P = 4 ^ l.toNat) (hn : x.toNat * P ≤ 1000000) (w : World) :
    Calls Tryz.prog 150 #[.int .i64 l, .int .i64 x] w fun r w' => r = .returned (.int .i64 ((x.toNat * P : Nat) : Int)) ∧ w' = w := by
  subst hP
  have := firstOf_any l h1 h2 x.toNat hn w
  rw [Int.toNat_of_nonneg hx] at this
  exact this

set_option maxHeartbeats 2000000 in
theorem fileT_any (O : Nat → Prop) (db lb : Nat) (l : Lg) (w : World) (he : l.es.length ≤ 1000000) (h20 : ∀ e ∈ l.es, e.length ≤ 20) (h : LogAt w O db lb l) (L : Nat) (hL : L ≤ 20) (i n : Nat) (hin : (i + n) * 4 ^ L ≤ l.es.length) (h1 : 1 ≤ n) (h4 : n ≤ 4) :
    Calls Tryz.prog 130 #[.pointer (some ⟨lb, 0, none⟩), .int .i64 L, .int .i64 i, .int .i64 ((i + n : Nat) : Int)] w fun r w' => ∃ v, r = .returned v ∧ Below w.heap.size w w' ∧ Bq w' v (((List.range' i n).map (dataF l.es L)).flatten) := by
  obtain ⟨a, cap, hb, hes, -⟩ := lok h
  obtain ⟨-, -, ⟨c2, f2⟩, -⟩ := lall hb
  have hlt := heap_some_lt hb
  obtain ⟨P, hP⟩ : ∃ P, P = 4 ^ L := ⟨_, rfl⟩
  have hP1 : 1 ≤ P := by rw [hP]; exact Nat.pow_pos (by omega)
  rw [← hP] at hin
  have hPm : 1 * P ≤ (i + n) * P := Nat.mul_le_mul_right _ (by omega)
  obtain ⟨g, rfl, -⟩ := obs_block hes (by omega)
  have hcap := obs_cap hes
  have HES := hide hes
  have H20 := hide h20
  have HP := hide hP
  obtain ⟨ti, hti, hti'⟩ := Option.map_eq_some_iff.1 infoByte
  obtain ⟨hz0, hz1, hz2⟩ : ti.zero = some (.int .u8 0) ∧ ti.size = 1 ∧ ti.bytes = 1 := by simpa using hti'
  have HI := hide hti
  have HZ := hide (And.intro hz0 (And.intro hz1 hz2))
  clear h hb hes h20 f2 hP hti hti' hz0 hz1 hz2
  have hneg : ((L : Int) == -1) = false := by rw [beq_eq_false_iff_ne]; omega
  go_enter Tryz.func130, Tryz.ntmps130
  go_wp2_with fail
  go_loopg [9, 10, 11] (n + 1) (fun gg t j _ wr => ∃ k : Nat, k ≤ n ∧ n + 1 - k ≤ gg ∧ j = .int .i64 ((i + k : Nat) : Int) ∧ Below w.heap.size w wr ∧ wr.ownsRow w.heap.size 5 1 t (((List.range' i k).map (dataF l.es L)).flatten).length ((((List.range' i k).map (dataF l.es L)).flatten).map bv) ∧ (((List.range' i k).map (dataF l.es L)).flatten).length = 8 * k ∧ (0 < k → t ≠ .slice none 0 0))
  case atStart => exact ⟨0, Nat.zero_le _, by omega, by simp, Below.refl _ _, ⟨rfl, .inl ⟨rfl, rfl⟩⟩, by simp, fun h => absurd h (Nat.lt_irrefl _)⟩
  case round =>
    obtain ⟨k, hk, hgg, rfl, hbe, hown, hlen, hnn⟩ := hrel
    have HB := hide hbe
    have HO := hide hown
    have HLN := hide hlen
    have HNN := hide hnn
    clear hbe hown hlen hnn
    by_cases hkn : k < n
    · have hlt2 : ((i + k : Nat) : Int) < ((i + n : Nat) : Int) := by omega
      have hmul : (i + k + 1) * P ≤ (i + n) * P := Nat.mul_le_mul_right _ (by omega)
      have hms : (i + k + 1) * P = (i + k) * P + P := by rw [Nat.add_mul, Nat.one_mul]
      obtain ⟨r0, r1, r2, r3, r4, r5, r6, r7, hR⟩ := hv8 (rootF P ((l.es.drop ((i + k) * P)).take P)) (rootF_length _ _)
      have hR' : hv (rootF P ((l.es.drop ((i + k) * P)).take P)) = #[.int .u8 r0.toNat, .int .u8 r1.toNat, .int .u8 r2.toNat, .int .u8 r3.toNat, .int .u8 r4.toNat, .int .u8 r5.toNat, .int .u8 r6.toNat, .int .u8 r7.toNat] := by rw [hR]; rfl
      have HR := hide hR
      have HR' := hide hR'
      have HDT : Hid (dataF l.es L (i + k) = [r0, r1, r2, r3, r4, r5, r6, r7]) := by
        show dataF l.es L (i + k) = _
        unfold dataF
        rw [if_neg (by omega), Int.toNat_natCast, ← HP.out]
        unfold rootT
        rw [show (List.take P (List.drop ((i + k) * P) l.es)).length = P by simp; omega]
        exact hR
      have m2 : wr.cell? ⟨lb, 2, none⟩ = some (.slice (some ⟨g, 0, none⟩) l.es.length cap) := by rw [HB.out.cell (p := ⟨lb, 2, none⟩) hlt]; exact c2
      have HMS := hide hms
      have hci : ¬ cap = (i + k) * P := by omega
      have hq1 : (i + k) * P ≤ (i + k + 1) * P := by omega
      have hq2 : (i + k + 1) * P ≤ cap := by omega
      have hq3 : (i + k + 1) * P ≤ 1000000 := by omega
      have hq4 : (i + k) * P ≤ 1000000 := by omega
      have hq5 : (i + k + 1) * P ≤ l.es.length := by omega
      clear hR hR' hmul hms
      have hf1 : ∀ X, Calls Tryz.prog 150 #[.int .i64 (L : Int), .int .i64 ((i + k : Nat) : Int)] X fun r w' => r = .returned (.int .i64 (((i + k) * P : Nat) : Int)) ∧ w' = X := fun X => by
        have := firstOf_int L (by omega) (by omega) ((i + k : Nat) : Int) (by omega) P (by rw [HP.out]; simp) (by rw [Int.toNat_natCast]; exact hq4) X
        rw [Int.toNat_natCast] at this
        exact this
      have hf2 : ∀ X, Calls Tryz.prog 150 #[.int .i64 (L : Int), .int .i64 (((i + k : Nat) : Int) + 1)] X fun r w' => r = .returned (.int .i64 (((i + k + 1) * P : Nat) : Int)) ∧ w' = X := fun X => by
        have := firstOf_int L (by omega) (by omega) (((i + k : Nat) : Int) + 1) (by omega) P (by rw [HP.out]; simp) (by rw [show (((i + k : Nat) : Int) + 1).toNat = i + k + 1 by omega]; exact hq3) X
        rw [show (((i + k : Nat) : Int) + 1).toNat = i + k + 1 by omega] at this
        exact this
      generalize hA : (i + k) * P = A at *
      generalize hBB : (i + k + 1) * P = A' at *
      generalize hJ : i + k = J at *
      have HA := hide (And.intro hA hBB)
      have HJ := hide hJ
      have HF1 := hide hf1
      have HF2 := hide hf2
      clear hA hBB hJ hf1 hf2
      have hJb : J ≤ 2000000 := by
        have := HJ.out
        have hh : (i + n) * 1 ≤ (i + n) * P := Nat.mul_le_mul_left _ hP1
        omega
      have hd0 : Hid (Below wr.heap.size wr wr.drew) := (Below.refl _ _).drew
      have hd1 : Hid (∀ o, Below wr.heap.size wr (wr.alloc o).drew) := fun o => (below_alloc _ _).drew
      have HRA : Hid (∀ X, Below wr.heap.size wr X → Calls Tryz.prog 42 #[.slice (some ⟨g, A, none⟩) (A' - A) (cap - A)] X fun r w' => r = .returned (.agg #[.int .u8 (r0.toNat : Int), .int .u8 (r1.toNat : Int), .int .u8 (r2.toNat : Int), .int .u8 (r3.toNat : Int), .int .u8 (r4.toNat : Int), .int .u8 (r5.toNat : Int), .int .u8 (r6.toNat : Int), .int .u8 (r7.toNat : Int)]) ∧ Below X.heap.size X w') := fun X hX => by
        have hp := root_any P (.slice (some ⟨g, A, none⟩) (A' - A) (cap - A)) ((l.es.drop A).take P) X (by simp; omega) (by have := HMS.out; simp; omega) (fun e he' => Nat.le_trans (H20.out e (List.mem_of_mem_drop (List.mem_of_mem_take he'))) (by unfold maxLen; omega)) (by
          have hbs := ((HES.out.bss'.below HB.out).below hX).drop A (by omega)
          have h2 := hbs.take (A' - A) (by rw [List.length_drop]; omega)
          rw [show A' - A = P by have := HMS.out; omega] at h2 ⊢
          rw [Nat.zero_add] at h2
          exact h2)
        rw [HR'.out] at hp
        exact hp
      go_wp2_with fail
      go_cut [11] from 23 to 43 (fun s11 wx => ∃ Bh, s11 = .pointer (some ⟨Bh, 0, none⟩) ∧ wx.heap[Bh]? = some (.cells #[.int .u8 (r0.toNat : Int), .int .u8 (r1.toNat : Int), .int .u8 (r2.toNat : Int), .int .u8 (r3.toNat : Int), .int .u8 (r4.toNat : Int), .int .u8 (r5.toNat : Int), .int .u8 (r6.toNat : Int), .int .u8 (r7.toNat : Int)] 93 (0, 0)) ∧ wr.heap.size ≤ Bh ∧ Below wr.heap.size wr wx)
      case first =>
        have hx1 : ¬ lb = wr.heap.size := by have := cell_lt m2; simp only at this; omega
        have hx2 : ¬ wr.heap.size = lb := by omega
        have c6 : IntKind.i64.wrap ((J : Int) + 1) = (J : Int) + 1 := by rw [IntKind.wrap_i64]; omega
        go_region_held3 (fun X => X.cell? ⟨lb, 2, none⟩ = some (.slice (some ⟨g, 0, none⟩) l.es.length cap)) (go_keep) (first
          | (go_at_call_of 150 (Value.int .i64 (J : Int)); refine (HF1.out _).mono ?_; rintro r w' ⟨rfl, rfl⟩)
          | (go_at_call 150; refine (HF2.out _).mono ?_; rintro r w' ⟨rfl, rfl⟩)
          | (go_at_call 42; refine (HRA.out wr.drew hd0.out).mono ?_; rintro r w2 ⟨rfl, hb2⟩; have hbb : Below wr.heap.size wr w2 := hd0.out.trans (hb2.mono hd0.out.size); have q2 : w2.cell? ⟨lb, 2, none⟩ = some (.slice (some ⟨g, 0, none⟩) l.es.length cap) := (by rw [hbb.cell (p := ⟨lb, 2, none⟩) (cell_lt m2)]; exact m2); have HB2 := hide hbb; clear hb2 hbb)
          | (go_at_call 42; refine (HRA.out (wr.alloc (.cells #[.int .u8 0, .int .u8 0, .int .u8 0, .int .u8 0, .int .u8 0, .int .u8 0, .int .u8 0, .int .u8 0] 93)).drew (hd1.out _)).mono ?_; rintro r w2 ⟨rfl, hb2⟩; have hbb : Below wr.heap.size wr w2 := (hd1.out _).trans (hb2.mono (hd1.out _).size); have q2 : w2.cell? ⟨lb, 2, none⟩ = some (.slice (some ⟨g, 0, none⟩) l.es.length cap) := (by rw [hbb.cell (p := ⟨lb, 2, none⟩) (cell_lt m2)]; exact m2); have hnw : w2.heap[wr.heap.size]? = some (.cells #[.int .u8 0, .int .u8 0, .int .u8 0, .int .u8 0, .int .u8 0, .int .u8 0, .int .u8 0, .int .u8 0] 93 (0, 0)) := (by rw [hb2.block _ (by show wr.heap.size < (wr.heap.push _).size; simp)]; exact heap_alloc_last wr _); obtain ⟨x0, x1, x2, x3, x4, x5, x6, x7⟩ := cells8 hnw; have xz := frozen9 hnw; have HNW := hide hnw; have HB2 := hide hbb; clear hb2 hbb hnw))
        all_goals go_wp2_with fail
        all_goals go_meet
        all_goals first
          | (have hN := HNW.out; exact ⟨wr.heap.size, rfl, eight_set (.int .u8 (r0.toNat : Int)) (.int .u8 (r1.toNat : Int)) (.int .u8 (r2.toNat : Int)) (.int .u8 (r3.toNat : Int)) (.int .u8 (r4.toNat : Int)) (.int .u8 (r5.toNat : Int)) (.int .u8 (r6.toNat : Int)) (.int .u8 (r7.toNat : Int)) hN, Nat.le_refl _, eight_below HB2.out (Nat.le_refl _) (.int .u8 (r0.toNat : Int)) (.int .u8 (r1.toNat : Int)) (.int .u8 (r2.toNat : Int)) (.int .u8 (r3.toNat : Int)) (.int .u8 (r4.toNat : Int)) (.int .u8 (r5.toNat : Int)) (.int .u8 (r6.toNat : Int)) (.int .u8 (r7.toNat : Int))⟩)
          | exact ⟨w2.heap.size, rfl, heap_alloc_last _ _, HB2.out.size, HB2.out.alloc HB2.out.size _⟩
      case rest =>
        obtain ⟨Bh, rfl, hB, hB1, hbx⟩ := hcut
        have HBX := hide hbx
        have HBH := hide hB
        have HO1 : Hid (wc.ownsRow w.heap.size 5 1 u9 (((List.range' i k).map (dataF l.es L)).flatten).length ((((List.range' i k).map (dataF l.es L)).flatten).map bv)) := ownsRow_below HO.out hbx
        have hflat : Hid (((List.range' i (k + 1)).map (dataF l.es L)).flatten = ((List.range' i k).map (dataF l.es L)).flatten ++ [r0, r1, r2, r3, r4, r5, r6, r7]) := by
          show _ = _
          rw [List.range'_1_concat, List.map_append, List.flatten_append, List.map_singleton, HJ.out, HDT.out]
          simp
        have hnw : Hid (∀ j u, ([.int .u8 (r0.toNat : Int), .int .u8 (r1.toNat : Int), .int .u8 (r2.toNat : Int), .int .u8 (r3.toNat : Int), .int .u8 (r4.toNat : Int), .int .u8 (r5.toNat : Int), .int .u8 (r6.toNat : Int), .int .u8 (r7.toNat : Int)] : List Value)[j]? = some u → wc.cell? ((⟨Bh, 0, none⟩ : Addr).add j) = some u) := fun j u hj => by
          rw [Addr.add_mid, Nat.zero_add, cell_of_row _ _ _ _ _ _ HBH.out]
          simpa using hj
        have hlk : (((List.range' i k).map (dataF l.es L)).flatten).length ≤ 32 := by have := HLN.out; omega
        have hsz : Hid (w.heap.size ≤ wc.heap.size) := Nat.le_trans HB.out.size hbx.size
        clear hbx hB m2
        generalize hff : ((List.range' i k).map (dataF l.es L)).flatten = ff at *
        clear hff
        go_wp2_with (at_builtin; refine wpList_append_lies _ rfl _ _ _ rfl w.heap.size 5 ti (.int .u8 0) 1 1 Tryz.underlying89 HI.out HZ.out.1 HZ.out.2.1 HZ.out.2.2 rfl (by omega) u9 ff.length (ff.map bv) rfl HO1.out ⟨Bh, 0, none⟩ 8 8 [.int .u8 (r0.toNat : Int), .int .u8 (r1.toNat : Int), .int .u8 (r2.toNat : Int), .int .u8 (r3.toNat : Int), .int .u8 (r4.toNat : Int), .int .u8 (r5.toNat : Int), .int .u8 (r6.toNat : Int), .int .u8 (r7.toNat : Int)] rfl rfl hnw.out (by simp [Value.oneCell']) (by omega) (by unfold maxLen; omega) (by omega) (hsz.out) wc.heap.size rfl ?_; intro g5 cap5 w5 hown hgrow hat hltg; have HOW := hide hown; have HGR := hide hgrow; clear hown hgrow hat hltg)
        go_roundg (gk - 1)
        case rel =>
          have hfl := hflat.out
          refine ⟨k + 1, by omega, by omega, by congr 1; have := HJ.out; omega, ((HB.out.trans (HBX.out.mono HB.out.size)).grown HGR.out hsz.out (own_base HO1.out)), ?_, ?_, fun _ h => by simp at h⟩
          · rw [hfl, List.length_append, List.map_append]
            exact HOW.out
          · rw [hfl, List.length_append, HLN.out]
            simp
            omega
        case measure => omega
    · obtain rfl : k = n := by omega
      go_wp2_with fail
      go_ret
      exact ⟨_, rfl, HB.out, (show OB wr w.heap.size _ _ from ⟨HO.out, HNN.out (by omega)⟩).bq⟩
end Go.Proofs.YtoomnijgdpbphaaGreatDoor

namespace Go.Proofs.YtoomnijgdpbphaaGreatDoor
open Go.RowKit
set_option maxRecDepth 100000

/-- No error, or that of a put at a path. -/
def GotP (o : Option (List UInt8)) (B : Nat) (e : Value) (w : World) : Prop := (o = none ∧ e = .nilIface) ∨ ∃ p, o = some p ∧ GotErr true p B e w
theorem GotP.weaken {o : Option (List UInt8)} {B B' : Nat} {e : Value} {w : World} (h : GotP o B e w) (hB : B' ≤ B) : GotP o B' e w := by
  rcases h with h | ⟨p, h1, h2⟩
  · exact .inl h
  · exact .inr ⟨p, h1, h2.weaken hB⟩
theorem putD_len (d : Dk) (p x : List UInt8) : (putD d p x).fs.length ≤ d.fs.length + 1 := by
  have h := setF_length d.fs p x
  unfold putD
  split
  · split
    · split
      · exact h
      · rw [enterD_fs]; omega
    · show (enterD d).fs.length ≤ _
      rw [enterD_fs]; omega
  · split
    · exact h
    · rw [enterD_fs]; omega
theorem putsD_len : ∀ (t : Fs) (d : Dk), (putsD t d).2.fs.length ≤ d.fs.length + t.length
  | [], d => by simp [putsD]
  | f :: r, d => by
    have h := putD_len d f.1 f.2
    unfold putsD
    split
    · simp; omega
    · have := putsD_len r (putD d f.1 f.2)
      simp; omega
/-- The files of a level, t of them. -/
def levK (es : List (List UInt8)) (l : Int) (j0 c t : Nat) : Fs := (List.range' j0 t).map (fileF es l c)
theorem levK_succ (es : List (List UInt8)) (l : Int) (j0 c t : Nat) : levK es l j0 c (t + 1) = levK es l j0 c t ++ [fileF es l c (j0 + t)] := by
  unfold levK
  rw [List.range'_1_concat, List.map_append]
  rfl
theorem levF_split (es : List (List UInt8)) (l : Int) (j0 c t : Nat) (h : t ≤ (c + 3) / 4 - j0) : levF es l j0 c = levK es l j0 c t ++ (List.range' (j0 + t) ((c + 3) / 4 - j0 - t)).map (fileF es l c) := by
  unfold levF levK
  rw [← List.map_append, List.range'_append_1]
  congr 2
  omega
theorem puts_stop {a b : Fs} {d d' : Dk} {p : List UInt8} (h : putsD a d = (some p, d')) : putsD (a ++ b) d = (some p, d') := by rw [putsD_append, h]
theorem puts_snoc {a : Fs} {f : List UInt8 × List UInt8} {d d' : Dk} (h : putsD a d = (none, d')) : putsD (a ++ [f]) d = if putE d' f.1 f.2 then (some f.1, putD d' f.1 f.2) else (none, putD d' f.1 f.2) := by
  rw [putsD_append, h]
  simp only [putsD]

theorem file_any (O : Nat → Prop) (db lb : Nat) (l : Lg) (w : World) (he : l.es.length ≤ 1000000) (h20 : ∀ e ∈ l.es, e.length ≤ 20) (h : LogAt w O db lb l) (lev : Int) (hl1 : -1 ≤ lev) (hl2 : lev ≤ 20) (i n : Nat) (hin : i + n ≤ cntL lev l.es.length) (h1 : 1 ≤ n) (h4 : n ≤ 4) :
    Calls Tryz.prog 130 #[.pointer (some ⟨lb, 0, none⟩), .int .i64 lev, .int .i64 i, .int .i64 ((i + n : Nat) : Int)] w fun r w' => ∃ v, r = .returned v ∧ Below w.heap.size w w' ∧ Bq w' v (((List.range' i n).map (dataF l.es lev)).flatten) := by
  by_cases e : lev = -1
  · subst e
    exact fileB_any O db lb l w he h20 h i n (by simpa [cntL] using hin) h1 h4
  · obtain ⟨L, rfl⟩ := Int.eq_ofNat_of_zero_le (show 0 ≤ lev by omega)
    refine fileT_any O db lb l w he h20 h L (by omega) i n ?_ h1 h4
    unfold cntL at hin
    rw [Int.toNat_natCast] at hin
    exact (Nat.le_div_iff_mul_le (Nat.pow_pos (by omega))).1 hin

set_option maxHeartbeats 2000000 in
theorem level_any (O : Nat → Prop) (W : World) (hE : Env W) (hOW : ∀ k, O k → W.heap.size ≤ k) (db lb : Nat) (d : Dk) (l : Lg) (w : World) (hn : d.fs.length ≤ 900000000) (he : l.es.length ≤ 1000000) (hput : l.put ≤ l.es.length) (h20 : ∀ e ∈ l.es, e.length ≤ 20) (hlv : l.live = true) (hW : Below W.heap.size W w) (h : DiskAt w O db d) (hL : LogAt w O db lb l) (lev : Int) (hl1 : -1 ≤ lev) (hl2 : lev ≤ 20) :
    Calls Tryz.prog 105 #[.pointer (some ⟨lb, 0, none⟩), .int .i64 lev] w fun r w' => ∃ e, r = .returned e ∧ GotP (putsD (levT l.es l.put lev) d).1 w.heap.size e w' ∧ Turn O dT w w' ∧ DiskAt w' (Ext O w w') db (putsD (levT l.es l.put lev) d).2 := by
  have HD := hide h
  have HLG := hide hL
  have H20 := hide h20
  have HW := hide hW
  have HO := hide hOW
  have hEE := hide hE
  obtain ⟨a, cap, hb, hes, -⟩ := lok hL
  obtain ⟨⟨c0, f0⟩, -, ⟨c2, f2⟩, ⟨c3, f3⟩⟩ := lall hb
  have HB := hide hb
  have hlb := heap_some_lt hb
  have hcl := cntL_le lev l.es.length
  have hcm : cntL lev l.put ≤ cntL lev l.es.length := Nat.div_le_div_right hput
  have HTD : Hid (levT l.es l.put lev = if cntL lev l.es.length = cntL lev l.put then [] else levF l.es lev (cntL lev l.put / 4) (cntL lev l.es.length)) := rfl
  clear h hL h20 hW hOW hE hb hes f0 f2 f3 c0
  go_enter Tryz.func105, Tryz.ntmps105
  go_wp2_with fail
  go_region_held3 (fun X => X.cell? ⟨lb, 2, none⟩ = some (.slice a l.es.length cap) ∧ X.cell? ⟨lb, 3, none⟩ = some (.int .i64 (l.put : Int))) (go_keep) (first
    | (go_at_call 104; refine (countAt_any lev hl1 (by omega) _ _).mono ?_; rintro r w' ⟨rfl, rfl⟩))
  generalize hcc : cntL lev l.es.length = c at *
  generalize hbb : cntL lev l.put = b at *
  have HCC := hide (And.intro hcc hbb)
  clear hcc hbb c2 c3
  by_cases hcb : c = b
  · have HPS : Hid (putsD (levT l.es l.put lev) d = (none, d)) := by show _ = _; rw [HTD.out, if_pos hcb]; rfl
    have q1 : ((c : Int) == (b : Int)) = true := by rw [beq_iff_eq]; omega
    clear hcb
    go_wp2_with fail
    go_ret
    rw [HPS.out]
    exact ⟨_, rfl, .inl ⟨rfl, rfl⟩, (Turn.refl _ _ _).drew, (HD.out.stay (O1 := fun _ => False) (T := []) (Turn.refl _ _ w).drew (by simp) (by simp)).mono (fun _ h => .inl h)⟩
  · have HTD2 : Hid (levT l.es l.put lev = levF l.es lev (b / 4) c) := by show _ = _; rw [HTD.out, if_neg hcb]
    have q1 : ((c : Int) == (b : Int)) = false := by rw [beq_eq_false_iff_ne]; omega
    have hbc : b < c := by omega
    obtain ⟨j0, hj0⟩ : ∃ j0, j0 = b / 4 := ⟨_, rfl⟩
    have HJ0 := hide hj0
    have hj1 : 4 * j0 ≤ b := by omega
    have hj2 : b < 4 * j0 + 4 := by omega
    rw [← hj0] at HTD2
    clear hcb hj0 HTD
    go_wp2_with fail
    go_loopg [7, 8, 9, 10] (c + 1) (fun gg s7 _ _ _ wr => ∃ (t : Nat) (dt : Dk), s7 = .int .i64 ((4 * (j0 + t) : Nat) : Int) ∧ 4 * (j0 + t) < c + 4 ∧ c + 1 - 4 * t ≤ gg ∧ putsD (levK l.es lev j0 c t) d = (none, dt) ∧ Turn O dT w wr ∧ DiskAt wr (Ext O w wr) db dt)
    case atStart => exact ⟨0, d, by congr 1; have := HJ0.out; omega, by omega, by omega, rfl, (Turn.refl _ _ _).drew, (HD.out.stay (O1 := fun _ => False) (T := []) (Turn.refl _ _ w).drew (by simp) (by simp)).mono (fun _ h => .inl h)⟩
    case round =>
      obtain ⟨t, dt, rfl, ht4, hgg, hps, hT, hD⟩ := hrel
      have HPS := hide hps
      have HT := hide hT
      have HDT := hide hD
      have htc : t ≤ (c + 3) / 4 - j0 := by omega
      have HLG1 := hide (HLG.out.stay hT (by decide) (by decide) (by decide))
      have hBW := HW.out.trans (hT.below HO.out HW.out.size)
      have HBW := hide hBW
      have hEw := hEE.out.below hBW
      have hdl : dt.fs.length ≤ 1000000000 := by
        have h1 := putsD_len (levK l.es lev j0 c t) d
        rw [hps] at h1
        have h2 : (levK l.es lev j0 c t).length = t := by unfold levK; simp
        simp only [h2] at h1
        omega
      clear hps hT hD hBW
      obtain ⟨J, hJ⟩ : ∃ J, J = j0 + t := ⟨_, rfl⟩
      rw [← hJ] at ht4 ⊢
      have HJ := hide hJ
      obtain ⟨F, hF⟩ : ∃ F, F = 4 * J := ⟨_, rfl⟩
      rw [← hF] at ht4 ⊢
      have HF := hide hF
      by_cases hlt : F < c
      · have hltI : (F : Int) < (c : Int) := by omega
        obtain ⟨wd, hwd⟩ : ∃ wd, wd = wid c J := ⟨_, rfl⟩
        have hw1 : 1 ≤ wd := by rw [hwd]; unfold wid; omega
        have hw4 : wd ≤ 4 := by rw [hwd]; unfold wid; omega
        have hwc : F + wd ≤ c := by rw [hwd]; unfold wid; omega
        have hmn : min ((F : Int) + 4) (c : Int) = (F : Int) + (wd : Int) := by rw [hwd]; unfold wid; omega
        have HWD := hide hwd
        have hJ4 : J ≤ 1000000 := by omega
        clear hJ hF hwd
        have HXF : Hid (fileF l.es lev c (j0 + t) = (nameF lev J wd, ((List.range' F wd).map (dataF l.es lev)).flatten)) := by
          show _ = _
          rw [← HJ.out]
          unfold fileF fileD
          rw [← HWD.out, ← HF.out]
        go_wp2_with fail
        rw [show ((F : Int) / 4) = (J : Int) by have := HF.out; omega, show ((F : Int) + (wd : Int) - (F : Int)) = (wd : Int) by omega]
        refine (name_any lev J wd (by omega) wr hEw).mono ?_
        rintro r w2 ⟨rfl, hb2⟩
        have hT2 : Turn O dT w w2 := HT.out.then_below hb2
        have HT2 := hide hT2
        have hTe2 : Turn O [] wr w2 := .of_below hb2
        have HL2 := hide (HLG1.out.stay hTe2 (by decide) (by decide) (by decide))
        have HD2 := hide (HDT.out.stay hTe2 (by decide) (by decide))
        have hs2 : Hid (wr.heap.size ≤ w2.heap.size) := hb2.size
        clear hb2 hT2 hTe2 hEw
        go_wp2_with fail
        rw [show ((F : Int) + (wd : Int)) = ((F + wd : Nat) : Int) by omega]
        refine (file_any _ db lb l w2 he H20.out HL2.out lev hl1 hl2 F wd (by rw [HCC.out.1]; exact hwc) hw1 hw4).mono ?_
        rintro r w3 ⟨v, rfl, hb3, hq⟩
        have HQ := hide hq
        obtain ⟨va, vn, vc, rfl⟩ := bq_shape hq
        have hTe3 : Turn O [] w2 w3 := .of_below hb3
        have HT3 : Hid (Turn O dT w w3) := HT2.out.then_below hb3
        have HL3 := hide (HL2.out.stay hTe3 (by decide) (by decide) (by decide))
        have HD3 := hide (HD2.out.stay hTe3 (by decide) (by decide))
        have hs3 : Hid (wr.heap.size ≤ w3.heap.size) := Nat.le_trans hs2.out hb3.size
        have hst3 : w3.cell? ⟨lb, 0, none⟩ = some (stV db true) := by
          obtain ⟨_, _, hb, -⟩ := lok HL3.out
          have := (lall hb).1.1
          rw [hlv] at this
          exact this
        clear hb3 hq hTe3
        generalize hxx : ((List.range' F wd).map (dataF l.es lev)).flatten = xx at *
        go_wp2_with fail
        refine (lput_any (Ext O w wr) db lb dt (nameF lev J wd) xx (.slice va vn vc) w3 hdl HD3.out HQ.out hst3).mono ?_
        rintro r w4 ⟨e, rfl, hge, ht4, hd4⟩
        have HT4 : Hid (Turn O dT w w4) := HT3.out.trans (ht4.mono (fun k hk => by rcases hk with h | h; exact .inl h; exact .inr ⟨h.1, Nat.lt_of_lt_of_le h.2 hs3.out⟩) (fun _ h => h))
        have HD4 : Hid (DiskAt w4 (Ext O w w4) db (putD dt (nameF lev J wd) xx)) := hd4.mono (fun k hk => by
          have hwr := HT.out.size
          have h34 := ht4.size
          have := hs3.out
          rcases hk with (h | h) | h
          · exact .inl h
          · exact .inr (by omega)
          · exact .inr (by omega))
        have HPN := hide (puts_snoc (f := fileF l.es lev c (j0 + t)) HPS.out)
        have HGE := hide (hge.weaken HT3.out.size)
        clear ht4 hd4 hst3 hxx
        rcases gotErr_cases hge with ⟨hbd, rfl⟩ | ⟨hbd, g, rfl⟩
        · have HPK : Hid (putsD (levK l.es lev j0 c (t + 1)) d = (none, putD dt (nameF lev J wd) xx)) := by
            show _ = _
            rw [levK_succ, HPN.out, HXF.out]
            simp only [hbd, Bool.false_eq_true, if_false]
          clear hge hbd
          go_wp2_with fail
          go_roundg (gk - 1)
          case rel => exact ⟨t + 1, putD dt (nameF lev J wd) xx, by congr 1; have := HJ.out; have := HF.out; omega, by have := HJ.out; have := HF.out; omega, by omega, HPK.out, HT4.out, HD4.out⟩
          case measure => have := HJ.out; have := HF.out; omega
        · have HPK : Hid (putsD (levT l.es l.put lev) d = (some (nameF lev J wd), putD dt (nameF lev J wd) xx)) := by
            show _ = _
            rw [HTD2.out, levF_split l.es lev j0 c (t + 1) (by have := HJ.out; have := HF.out; omega)]
            refine puts_stop ?_
            rw [levK_succ, HPN.out, HXF.out]
            simp only [hbd, if_true]
          rw [hbd] at HGE
          clear hge hbd
          go_wp2_with fail
          go_ret
          rw [HPK.out]
          exact ⟨_, rfl, .inr ⟨_, rfl, HGE.out⟩, HT4.out, HD4.out⟩
      · have HPK : Hid (putsD (levT l.es l.put lev) d = (none, dt)) := by
          show _ = _
          rw [HTD2.out, levF_split l.es lev j0 c t htc, show (c + 3) / 4 - j0 - t = 0 by have := HJ.out; have := HF.out; omega]
          simp only [List.range'_zero, List.map_nil, List.append_nil]
          exact HPS.out
        have hltI : ¬ (F : Int) < (c : Int) := by omega
        go_wp2_with fail
        go_ret
        rw [HPK.out]
        exact ⟨_, rfl, .inl ⟨rfl, rfl⟩, HT.out, HDT.out⟩
end Go.Proofs.YtoomnijgdpbphaaGreatDoor
