
import Derived.Test.YtbjpjidliggdhaaDoorFirstAppend
import Derived.Test.YtbjpjidliggdhaaDoorKeepMath
import Derived.Test.YtbjpjidliggdhaaDoorPathLaw
import Derived.Test.YtbjpjidliggdhaaDoorIncWalks
namespace Go.Proofs.YtbjpjidliggdhaaDoor
open Go.RowKit
set_option maxRecDepth 100000

theorem e8_same (l : List UInt8) (h : l.length = 8) : e8 l = l := by
  unfold e8
  rw [List.take_of_length_le (by omega), h]; simp
theorem e8_tx (ps : List (List UInt8)) (h : ∀ p ∈ ps, p.length = 8) : ((ps.map tx).map fun s => e8 s.data.toList) = ps := by
  rw [List.map_map]
  conv => rhs; rw [← List.map_id ps]
  refine List.map_congr_left fun p hp => ?_
  simp only [Function.comp, tx, id]
  exact e8_same p (h p hp)
def fst5 : ByteArray := ⟨#[102, 105, 114, 115, 116]⟩
theorem inc_yes (ls : List (List UInt8)) (k : Nat) (hk : k < ls.length) (hf : ls.length ≤ 4096) : incB 4096 (leafH (ls.getD k [])) (k : Int) (ls.length : Int) (pathF 4096 ls k) (rootF 4096 ls) = true := by
  rw [incB_in (by omega)]
  have := reb_path zero8 4096 ls k (by omega) hf hk
  simp only [Int.toNat_natCast]
  rw [this]
  simp [eqH]
theorem inc_no (ls : List (List UInt8)) (leaf root r : List UInt8) (k : Nat) (hk : k < ls.length) : incB 4096 leaf (k : Int) (ls.length : Int) (pathF 4096 ls k ++ [r]) root = false := by
  rw [incB_in (by omega)]
  simp only [Int.toNat_natCast]
  cases hq : (rebF zero8 4096 leaf k ls.length (pathF 4096 ls k ++ [r])).2 with
  | false => rfl
  | true =>
    have := reb_count zero8 leaf 4096 ls k _ (by omega) hq
    simp at this

/-- A hash as a text. -/
theorem txt_text (l : List UInt8) (h : l.length = 8) : ∃ A : ByteArray, txt l = .string A ∧ A.size = 8 ∧ e8 A.data.toList = l :=
  ⟨tx l, rfl, by simp [tx, ByteArray.size, h], by simp only [tx]; exact e8_same l h⟩
theorem owns_tx {w : World} {B : Nat} {x : Value} {Q : List (List UInt8)} (h : w.ownsRow B 9 1 x Q.length (Q.map txt)) : w.ownsRow B 9 1 x (Q.map tx).length ((Q.map tx).map Value.string) := by
  have e : (Q.map tx).map Value.string = Q.map txt := by simp [tx, txt]
  rw [e, List.length_map]; exact h
theorem sss_cell {w : World} {g off n cap : Nat} {T : List ByteArray} (h : Sss w (.slice (some ⟨g, off, none⟩) n cap) T) (k : Nat) (hk : k < T.length) : w.cell? ⟨g, off + k, none⟩ = some (.string T[k]) := by
  obtain ⟨a, c, e, _, h⟩ := h
  simp only [Value.slice.injEq] at e
  obtain ⟨rfl, -, -⟩ := e
  rcases h with h | ⟨b, o, e, hc⟩
  · simp [h] at hk
  · simp only [Option.some.injEq, Addr.mk.injEq] at e
    obtain ⟨rfl, rfl, -⟩ := e
    exact hc k hk
theorem bys_at (T : List ByteArray) (k : Nat) (hk : k < T.length) : (bys T).getD k [] = T[k].data.toList := by
  simp [bys, List.getD_eq_getElem?_getD, hk]

set_option maxHeartbeats 1000000 in
theorem proves_many (v : Value) (ss : List ByteArray) (other : ByteArray) (w : World) (hn : ss.length ≤ maxLen) (h : Sss w v ss) (hf : 200 < ss.length) :
    Calls Tryd.prog 4 #[v, .string other] w fun r w' => r = .returned (.bool true) ∧ Below w.heap.size w w' := by
  unfold maxLen at hn
  obtain ⟨a, cap, rfl, -, -⟩ := h
  have hf' : (200 : Int) < (ss.length : Int) := by omega
  go_enter Tryd.func4, Tryd.ntmps4
  go_wp2_with fail
  go_ret
  exact ⟨rfl, Below.refl _ _⟩

set_option maxHeartbeats 2000000 in
theorem proves_few (at_ : Nat → Addr) (v : Value) (ss : List ByteArray) (other : ByteArray) (w : World) (hs : Sents w at_) (hl : ∀ s ∈ ss, s.size ≤ maxLen) (ho : other.size ≤ maxLen) (h : Sss w v ss) (hf : ss.length ≤ 200) :
    Calls Tryd.prog 4 #[v, .string other] w fun r w' => r = .returned (.bool true) ∧ Below w.heap.size w w' := by
  have H := hide h
  have HS := hide hs
  have HO := hide ho
  have HL : Hid (∀ s ∈ fst5 :: ss, s.size ≤ maxLen) := by
    intro s hs
    rcases List.mem_cons.1 hs with rfl | hs
    · show 5 ≤ maxLen; unfold maxLen; decide
    · exact hl s hs
  have HLen : Hid ((fst5 :: ss).length = ss.length + 1) := rfl
  have hf6 : Hid (4096 ≤ 1000000) := (by decide : 4096 ≤ 1000000)
  have HF := hide hf
  have hf' : ¬ (200 : Int) < (ss.length : Int) := by omega
  obtain ⟨a, cap, rfl, -, -⟩ := h
  clear hs ho hl
  go_enter Tryd.func4, Tryd.ntmps4
  go_wp2_with (at_builtin; refine wpList_append_first w rfl _ _ rfl fst5 _ ss H.out (Nat.le_trans HF.out (by decide)) rfl rfl ?_; intro g cp w1 hcp hs1 hb1; have HS1 := hide hs1; have HB1 := hide hb1; clear hs1 hb1 hcp)
  generalize hT : fst5 :: ss = T at *
  refine (plainRoot_any 4096 _ T w1 (by rw [HLen.out]; have := HF.out; omega) (by rw [HLen.out]; have := HF.out; omega) HL.out HS1.out).mono ?_
  rintro r w2 ⟨rfl, hb2⟩
  have HB2 := hide (HB1.out.trans (hb2.mono HB1.out.size))
  have HS2 := hide (HS1.out.below hb2)
  clear hb2
  have hbl : Hid ((bys T).length = ss.length + 1) := by rw [bys_length]; exact HLen.out
  obtain ⟨R, hR, hR8, hRe⟩ := txt_text (rootF 4096 (bys T)) (rootF_length _ _)
  have HRe := hide hRe
  rw [hR]
  clear hR hRe hR8
  go_wp2_with fail
  go_loopw [6] (fun i wr => ∃ k : Nat, k ≤ ss.length + 1 ∧ i = .int .i64 k ∧ Below w2.heap.size w2 wr) (fun i _ => ss.length + 1 - (intOf i).toNat)
  case atStart => exact ⟨0, Nat.zero_le _, rfl, Below.refl _ _⟩
  case round =>
    obtain ⟨k, hk, rfl, hbe⟩ := hrel
    have HB := hide hbe
    have HW := hide (HB2.out.trans (hbe.mono HB2.out.size))
    clear hbe
    by_cases hlt : k < ss.length + 1
    · have hki : (k : Int) < (ss.length : Int) + 1 := by omega
      have hkT : Hid (k < T.length) := by rw [HLen.out]; exact hlt
      have HSr := hide (HS2.out.below HB.out)
      go_wp2_with fail
      refine (ppath_in 4096 hf6.out at_ _ T (k : Int) wr (by exact HS.out.below HW.out) (by rw [HLen.out]; have := HF.out; omega) HL.out HSr.out (by omega) (by rw [HLen.out]; omega)).mono ?_
      rintro r w3 ⟨x, rfl, hb3, ho3⟩
      rw [Int.toNat_natCast] at ho3
      have HB3 := hide hb3
      have HO3 := hide (owns_tx ho3)
      have HQ8 := hide (pathF_len8 4096 (bys T) k)
      have HQc : Hid ((pathF 4096 (bys T) k).length ≤ 201) := by
        have h1 := pathF_lt 4096 (bys T) k (by rw [hbl.out]; omega)
        rw [hbl.out] at h1
        have := HF.out
        show _ ≤ _
        omega
      have HI1 := hide (inc_yes (bys T) k (by rw [hbl.out]; exact hlt) (by rw [hbl.out]; have := HF.out; omega))
      have HI2 := hide (fun leaf => inc_no (bys T) leaf (rootF 4096 (bys T)) (rootF 4096 (bys T)) k (by rw [hbl.out]; exact hlt))
      rw [bys_at T k hkT.out] at HI1
      rw [hbl.out] at HI1 HI2
      generalize pathF 4096 (bys T) k = Q at *
      clear hb3 ho3
      have HE3 := hide (told_cell w3 0)
      have hx : ∀ o, (w3.alloc o).cell? ⟨g, k, none⟩ = some (.string T[k]) := fun o => by
        have h1 := sss_cell (HSr.out.below HB3.out) k hkT.out
        rw [Nat.zero_add] at h1
        rw [cell_old _ _ ⟨g, k, none⟩ (cell_lt h1)]; exact h1
      have HLk := hide (HL.out T[k] (List.getElem_mem hkT.out))
      generalize T[k] = s at *
      unfold toldC
      go_wp2_with fail
      refine (plainLeaf_any s _ HLk.out).mono ?_
      obtain ⟨A, hA, hA8, hAe⟩ := txt_text (leafH s.data.toList) (leafH_length _)
      rw [hA]
      rintro r w4 ⟨rfl, hb4⟩
      have HB4 := hide hb4
      have HAe := hide hAe
      clear hb4 hA hAe hx
      go_wp2_with fail
      refine (plainLeaf_any other _ HO.out).mono ?_
      obtain ⟨G, hG, hG8, hGe⟩ := txt_text (leafH other.data.toList) (leafH_length _)
      rw [hG]
      rintro r w5 ⟨rfl, hb5⟩
      have HB5 := hide (HB4.out.trans (hb5.mono HB4.out.size))
      clear hb5 hG hGe
      have HB5' := hide ((below_alloc w3 (.cells #[.int .i64 0, .string ⟨#[]⟩] 25)).trans (HB5.out.mono (by simp)))
      go_wp2_with fail
      refine (plainInc_any 4096 A R (k : Int) ((ss.length : Int) + 1) (by have := HF.out; omega) x (Q.map tx) w5 (by rw [List.length_map]; have := HQc.out; omega) (by rw [List.length_map]; have := HQc.out; omega) (by exact Sss.of_owns (ownsRow_below HO3.out HB5'.out))).mono ?_
      rintro r w6 ⟨hr, hb6⟩
      rw [HAe.out, HRe.out, e8_tx Q HQ8.out, show ((ss.length : Int) + 1) = ((ss.length + 1 : Nat) : Int) by simp, HI1.out] at hr
      subst hr
      have HB6 := hide (HB5.out.trans (hb6.mono HB5.out.size))
      have HB6' := hide (HB5'.out.trans (hb6.mono HB5'.out.size))
      clear hb6
      have E1 := cell_next HE3.out HB6.out
      have HB6w := hide (HB3.out.trans (HB6'.out.mono HB3.out.size))
      go_wp2_with (at_builtin; refine wpList_append_keep _ rfl _ _ rfl wr.heap.size (by have := HB6w.out.size; simp; omega) x (Q.map tx) rfl (ownsRow_below HO3.out (HB6'.out.trans ((below_alloc w6 _).mono HB6'.out.size))) (by rw [List.length_map]; have := HQc.out; omega) w6.heap.size 1 R rfl (by rw [World.cell?_alloc_at _ _ _ _ rfl]; rfl) ?_; intro v' w7 hs7 hx7 hb7 _; have HS7 := hide hs7; have HX7 := hide hx7; have HB7 := hide (HB6w.out.trans (((below_alloc w6 _).mono HB6w.out.size).trans hb7)); clear hs7 hx7 hb7)
      clear E1
      have hlen7 : Hid ((Q.map tx ++ [R]).length ≤ 202) := by
        show _ ≤ _
        rw [List.length_append, List.length_map, List.length_singleton]; have := HQc.out; omega
      refine (plainInc_any 4096 A R (k : Int) ((ss.length : Int) + 1) (by have := HF.out; omega) v' (Q.map tx ++ [R]) w7 (by have := hlen7.out; omega) (by have := hlen7.out; omega) HS7.out).mono ?_
      rintro r w8 ⟨hr, hb8⟩
      rw [HAe.out, HRe.out, List.map_append, e8_tx Q HQ8.out, List.map_singleton, HRe.out, show ((ss.length : Int) + 1) = ((ss.length + 1 : Nat) : Int) by simp, HI2.out] at hr
      subst hr
      have HX8 := hide (HX7.out.below hb8)
      have HB8 := hide (HB7.out.trans (hb8.mono HB7.out.size))
      clear hb8
      go_wp2_with fail
      refine (plainInc_any 4096 A R ((ss.length : Int) + 1) ((ss.length : Int) + 1) (by have := HF.out; omega) x (Q.map tx) w8 (by rw [List.length_map]; have := HQc.out; omega) (by rw [List.length_map]; have := HQc.out; omega) HX8.out).mono ?_
      rintro r w9 ⟨hr, hb9⟩
      rw [incB_out (.inr (Int.le_refl _))] at hr
      subst hr
      have HB9 := hide (HB8.out.trans (hb9.mono HB8.out.size))
      clear hb9
      go_wp2_with fail
      go_roundw
      case rel => exact ⟨k + 1, by omega, by go_num, HB.out.trans (HB9.out.mono HB.out.size)⟩
      case measure => simp [intOf]; omega
    · have hki : ¬ (k : Int) < (ss.length : Int) + 1 := by omega
      go_wp2_with fail
      go_ret
      exact ⟨rfl, HW.out⟩
theorem proves_yes (at_ : Nat → Addr) (v : Value) (ss : List ByteArray) (other : ByteArray) (w : World) (hs : Sents w at_) (hn : ss.length ≤ maxLen) (hl : ∀ s ∈ ss, s.size ≤ maxLen) (ho : other.size ≤ maxLen) (h : Sss w v ss) :
    Calls Tryd.prog 4 #[v, .string other] w fun r w' => r = .returned (.bool true) ∧ Below w.heap.size w w' := by
  by_cases hf : ss.length ≤ 200
  · exact proves_few at_ v ss other w hs hl ho h hf
  · exact proves_many v ss other w hn h (by omega)
end Go.Proofs.YtbjpjidliggdhaaDoor
