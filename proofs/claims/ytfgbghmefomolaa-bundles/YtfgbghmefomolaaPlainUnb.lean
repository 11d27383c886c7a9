
import Derived.Test.YtfgbghmefomolaaUnbWalks
namespace Go.Proofs.Ytfgbghmefomolaa
open Go.RowKit
set_option maxRecDepth 100000

theorem rest_conv (w : World) (s : ByteArray) (cap : Nat) (hcap : s.size ≤ cap) : Rest (w.alloc (.cells (bytesRow s cap) 5 ((bytesRow s cap).size, (bytesRow s cap).size + 1))) (.slice (some ⟨w.heap.size, 0, none⟩) s.size cap) s.data.toList := by
  have hl : s.data.toList.length = s.size := by simp
  refine ⟨⟨w.heap.size, 0, none⟩, cap, by rw [hl], by rw [hl]; exact hcap, rfl, fun i hi => ?_⟩
  have hi' : i < s.data.size := by simpa using hi
  show World.cell? _ ⟨w.heap.size, 0 + i, none⟩ = _
  rw [Nat.zero_add, cell_of_row _ _ _ _ _ _ (heap_alloc_last _ _), bytesRow, Array.getElem?_append_left (by simpa using hi'), Array.getElem?_map, Array.getElem?_eq_getElem hi']
  rfl
theorem below_put {B g : Nat} {a w : World} (hg : B ≤ g) (h : Below B a w) (o : Nat) (vs : List Value) : Below B a (w.setCells g o vs) := by
  obtain ⟨r1, r2, r3, r4⟩ := setCells_rest g vs o w
  exact ⟨r1.trans h.os, r2.trans h.tape, r3.trans h.output, by rw [r4]; exact h.size, fun k hk => by rw [setCells_other _ _ _ _ _ (by omega)]; exact h.block k hk⟩
theorem OB.far {w w' : World} {B : Nat} {x : Value} {l : List UInt8} (h : OB w B x l) (hk : ∀ k, B ≤ k → w'.heap[k]? = w.heap[k]?) : OB w' B x l := by
  refine ⟨⟨h.1.1, ?_⟩, h.2⟩
  rcases h.1.2 with h0 | ⟨g, cap, cur, rfl, hB, hg, r⟩
  · exact .inl h0
  · exact .inr ⟨g, cap, cur, rfl, hB, by rw [hk g hB]; exact hg, r⟩
theorem OBs.far {w w' : World} {B : Nat} {v : Value} {ls : List (List UInt8)} (h : OBs w B v ls) (hk : ∀ k, B ≤ k → w'.heap[k]? = w.heap[k]?) : OBs w' B v ls := by
  obtain ⟨xs, ho, hx⟩ := h
  refine ⟨xs, ⟨ho.1, ?_⟩, fun j hj => ?_⟩
  · rcases ho.2 with h0 | ⟨g, cap, cur, rfl, hB, hg, r⟩
    · exact .inl h0
    · exact .inr ⟨g, cap, cur, rfl, hB, by rw [hk g hB]; exact hg, r⟩
  · obtain ⟨x, e, hb⟩ := hx j hj
    exact ⟨x, e, hb.far hk⟩
theorem OBs.at {w : World} {B : Nat} {v : Value} {ls : List (List UInt8)} (h : OBs w B v ls) :
    ∃ a cap, v = .slice a ls.length cap ∧ ∀ j (h : j < ls.length), ∃ b, a = some ⟨b, 0, none⟩ ∧ ∃ x, w.cell? ⟨b, j, none⟩ = some x ∧ OB w B x ls[j] := by
  obtain ⟨xs, ⟨hl, ho⟩, hx⟩ := h
  rcases ho with ⟨rfl, h0⟩ | ⟨g, cap, cur, rfl, hB, hg, hn, hm, hs, ht⟩
  · exact ⟨none, 0, by rw [h0], fun j hj => by omega⟩
  · refine ⟨_, _, rfl, fun i hi => ⟨g, rfl, ?_⟩⟩
    obtain ⟨x, e, hb⟩ := hx i hi
    refine ⟨x, ?_, hb⟩
    rw [cell_of_row _ _ _ _ _ _ hg]
    rw [← ht, Nat.mul_one] at e
    rw [List.getElem?_take, if_pos hi] at e
    simpa using e
theorem unbF_small {d : List UInt8} : ((unbF d).getD []).length ≤ 4 := by
  unfold unbF
  cases unb d with
  | none => simp
  | some ls =>
    by_cases h : okB ls = true
    · simp only [h, if_true, Option.getD_some]
      unfold okB at h
      simp at h
      exact h.2.1
    · simp [h]

set_option maxHeartbeats 1000000 in
theorem plainUnb_any (s : ByteArray) (w : World) :
    Calls Try.prog 20 #[.string s] w fun r w' => ∃ x, r = .returned (.tuple #[x, .bool (unbF s.data.toList).isSome]) ∧ Below w.heap.size w w' ∧ Sss w' x (((unbF s.data.toList).getD []).map tb) := by
  obtain ⟨i, hi, hi'⟩ := Option.map_eq_some_iff.1 infoStr
  obtain ⟨hz0, hz1, hz2⟩ : i.zero = some (.string ⟨#[]⟩) ∧ i.size = 1 ∧ i.bytes = 16 := by simpa using hi'
  clear hi'
  have HI := hide hi
  have HZ := hide (And.intro hz0 (And.intro hz1 hz2))
  clear hi hz0 hz1 hz2
  have hcv := run_bytes_of_string (P := Try.prog) w 9 41 5 s Try.underlying9 Try.underlying41 Try.underlying5
  have hge : s.size ≤ grownCap w s.size 0 5 := grownCap_ge _ _ _ _
  generalize grownCap w s.size 0 5 = cp at *
  have HRC := hide (rest_conv w s cp hge)
  have HTR := hide (there_of_row (n := s.size) (heap_alloc_last w (.cells (bytesRow s cp) 5 ((bytesRow s cp).size, (bytesRow s cp).size + 1))) (by simp [bytesRow]) (.inl (by simp [bytesRow])))
  clear hge
  go_enter Try.func20, Try.ntmps20
  go_wp2_with fail
  clear hcv
  generalize hW0 : (w.alloc (.cells (bytesRow s cp) 5 ((bytesRow s cp).size, (bytesRow s cp).size + 1))) = W0 at *
  have HB0 : Hid (Below w.heap.size w W0) := hW0 ▸ below_alloc w _
  have HS0 : Hid (W0.heap.size = w.heap.size + 1) := by show W0.heap.size = _; rw [← hW0]; simp
  clear hW0
  refine (unb_any _ s.data.toList W0.drew HRC.out).mono ?_
  rintro r w1 ⟨x, rfl, hb1, hobs⟩
  have HB1 : Hid (Below W0.heap.size W0 w1) := Below.trans (Below.refl _ _).drew hb1
  have HTR1 : Hid (w1.there w.heap.size 0 s.size) := fun j hj => by
    rw [HB1.out.cell (p := ⟨w.heap.size, 0 + j, none⟩) (by rw [HS0.out]; exact Nat.lt_succ_self _), HB1.out.frozen (p := ⟨w.heap.size, 0 + j, none⟩) (by rw [HS0.out]; exact Nat.lt_succ_self _)]
    exact HTR.out j hj
  have hcl := fun ty => clear_el (P := Try.prog) w1 41 5 ty (.int .u8 0) Try.underlying41 zeroByte rfl rfl w.heap.size s.size cp HTR1.out
  have HOB : Hid (OBs (w1.setCells w.heap.size 0 (List.replicate s.size (.int .u8 0))) W0.heap.size x ((unbF s.data.toList).getD [])) := OBs.far hobs (fun k hk => by rw [setCells_other _ _ _ _ _ (by have := HS0.out; omega)])
  have HB2 : Hid (Below w.heap.size w (w1.setCells w.heap.size 0 (List.replicate s.size (.int .u8 0)))) := below_put (Nat.le_refl _) (HB0.out.trans (HB1.out.mono HB0.out.size)) _ _
  generalize w1.setCells w.heap.size 0 (List.replicate s.size (.int .u8 0)) = W2 at *
  have HSM := hide (unbF_small (d := s.data.toList))
  generalize hls : (unbF s.data.toList).getD [] = ls at *
  have HLS := hide hls
  clear hobs hb1 hls
  obtain ⟨a, ca, rfl, hat⟩ := HOB.out.at
  have HAT := hide hat
  have hl4 : ls.length ≤ 4 := HSM.out
  clear hat
  go_wp2_with fail
  go_loopw [7, 20] (fun t i wr => ∃ k : Nat, k ≤ ls.length ∧ i = .int .i64 k ∧ Below W2.heap.size W2 wr ∧ wr.ownsRow W2.heap.size 9 1 t k ((ls.take k).map txt)) (fun _ i _ => ls.length - (intOf i).toNat)
  case atStart => exact ⟨0, Nat.zero_le _, rfl, Below.refl _ _, ⟨rfl, .inl ⟨rfl, rfl⟩⟩⟩
  case round =>
    obtain ⟨k, hk, rfl, hbe, hown⟩ := hrel
    have HB := hide hbe
    have HO := hide hown
    clear hbe hown
    by_cases hlt : k < ls.length
    · obtain ⟨b, rfl, y, hy, hob⟩ := HAT.out k hlt
      rw [← HB.out.cell (cell_lt (p := ⟨b, k, none⟩) hy)] at hy
      have hob' := hob.below HB.out
      have hcv := hob'.conv
      obtain ⟨gy, cy, ny, rfl⟩ := ob_shape hob'
      have Hs : Hid ((ls.take (k + 1)).map txt = (ls.take k).map txt ++ [txt ls[k]]) := by
        show _ = _
        rw [List.take_succ_eq_append_getElem hlt, List.map_append]; rfl
      clear hob hob'
      generalize ls[k] = p at *
      unfold txt at hcv
      have hsz : Hid (W2.heap.size ≤ wr.heap.size) := HB.out.size
      have HO1 : Hid (∀ o, (wr.alloc o).ownsRow W2.heap.size 9 1 u7 k ((ls.take k).map txt)) := fun o => ownsRow_below HO.out (below_alloc wr o)
      go_wp2_with (at_builtin; refine wpList_append_lies _ rfl _ _ _ rfl W2.heap.size 9 i (.string ⟨#[]⟩) 1 16 Try.underlying22 HI.out HZ.out.1 HZ.out.2.1 HZ.out.2.2 rfl (by omega) u7 k _ rfl (HO1.out _) ⟨wr.heap.size, 0, none⟩ 1 1 [.string ⟨p.toArray⟩] rfl rfl (World.news_of_block (heap_alloc_last _ _)) (by simp [Value.oneCell']) (by omega) (by unfold maxLen; omega) (by omega) (by have := hsz.out; simp; omega) (wr.heap.size + 1) (by simp) ?_; intro g' cap' w2 hown hgrow hat hltg; have HB3 : Hid (Below W2.heap.size W2 w2) := (HB.out.trans ((below_alloc wr _).mono hsz.out)).grown hgrow (by have := hsz.out; simp; omega) (own_base HO.out); have HO2 := hide hown; clear hgrow hat hltg hown)
      go_roundw
      case rel => exact ⟨k + 1, by omega, by go_num, HB3.out, by rw [Hs.out]; exact HO2.out⟩
      case measure => simp [intOf]; omega
    · go_wp2_with fail
      go_ret2
      refine ⟨_, rfl, HB2.out.trans (HB.out.mono HB2.out.size), ?_⟩
      have := HO.out
      rw [List.take_of_length_le (by omega), show k = ls.length by omega] at this
      rw [HLS.out]
      exact Sss.of_tb this
end Go.Proofs.Ytfgbghmefomolaa
