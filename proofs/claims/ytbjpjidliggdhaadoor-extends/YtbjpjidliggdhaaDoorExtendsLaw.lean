
import Derived.Test.YtbjpjidliggdhaaDoorProvesLaw
import Derived.Test.YtbjpjidliggdhaaDoorConWalks
namespace Go.Proofs.YtbjpjidliggdhaaDoor
open Go.RowKit
set_option maxRecDepth 100000

theorem con_yes (ls : List (List UInt8)) (m : Nat) (h1 : 1 ≤ m) (h2 : m ≤ ls.length) (hf : ls.length ≤ 4096) : conB 4096 (m : Int) (ls.length : Int) (rootF 4096 (ls.take m)) (rootF 4096 ls) (prtF 4096 m ls true) = true := by
  rw [conB_in (by omega)]
  have := rts_part zero8 (rootF 4096 (ls.take m)) 4096 m ls true h1 h2 hf (fun _ => rfl)
  simp only [Int.toNat_natCast]
  rw [this]
  simp [eqH]
theorem con_no (ls : List (List UInt8)) (a b r : List UInt8) (m : Nat) (h1 : 1 ≤ m) (h2 : m ≤ ls.length) : conB 4096 (m : Int) (ls.length : Int) a b (prtF 4096 m ls true ++ [r]) = false := by
  rw [conB_in (by omega)]
  simp only [Int.toNat_natCast]
  cases hq : (rtsF zero8 a 4096 m ls.length (prtF 4096 m ls true ++ [r]) true).2.2 with
  | false => rfl
  | true =>
    have := rts_count zero8 a 4096 m ls true _ h1 h2 hq
    simp at this

set_option maxHeartbeats 1000000 in
theorem extends_many (v : Value) (ss : List ByteArray) (w : World) (hn : ss.length ≤ maxLen) (h : Sss w v ss) (hf : 100 < ss.length) :
    Calls Tryd.prog 5 #[v] w fun r w' => r = .returned (.bool true) ∧ Below w.heap.size w w' := by
  unfold maxLen at hn
  obtain ⟨a, cap, rfl, -, -⟩ := h
  have hf' : (100 : Int) < (ss.length : Int) := by omega
  go_enter Tryd.func5, Tryd.ntmps5
  go_wp2_with fail
  go_ret
  exact ⟨rfl, Below.refl _ _⟩

set_option maxHeartbeats 2000000 in
theorem extends_few (at_ : Nat → Addr) (v : Value) (ss : List ByteArray) (w : World) (hs : Sents w at_) (hl : ∀ s ∈ ss, s.size ≤ maxLen) (h : Sss w v ss) (hf : ss.length ≤ 100) :
    Calls Tryd.prog 5 #[v] w fun r w' => r = .returned (.bool true) ∧ Below w.heap.size w w' := by
  have H := hide h
  have HS := hide hs
  have HL : Hid (∀ s ∈ fst5 :: ss, s.size ≤ maxLen) := by
    intro s hs
    rcases List.mem_cons.1 hs with rfl | hs
    · show 5 ≤ maxLen; unfold maxLen; decide
    · exact hl s hs
  have HLen : Hid ((fst5 :: ss).length = ss.length + 1) := rfl
  have hf6 : Hid (4096 ≤ 1000000) := (by decide : 4096 ≤ 1000000)
  have HF := hide hf
  have hf' : ¬ (100 : Int) < (ss.length : Int) := by omega
  obtain ⟨a, cap, rfl, -, -⟩ := h
  clear hs hl
  go_enter Tryd.func5, Tryd.ntmps5
  go_wp2_with (at_builtin; refine wpList_append_first w rfl _ _ rfl fst5 _ ss H.out (Nat.le_trans HF.out (by decide)) rfl rfl ?_; intro g cp w1 hcp hs1 hb1; have HS1 := hide hs1; have HB1 := hide hb1; have HCp := hide hcp; clear hs1 hb1 hcp)
  generalize hT : fst5 :: ss = T at *
  refine (plainRoot_any 4096 _ T w1 (by rw [HLen.out]; have := HF.out; omega) (by rw [HLen.out]; have := HF.out; omega) HL.out HS1.out).mono ?_
  rintro r w2 ⟨rfl, hb2⟩
  have HB2 := hide (HB1.out.trans (hb2.mono HB1.out.size))
  have HS2 := hide (HS1.out.below hb2)
  clear hb2
  have hbl : Hid ((bys T).length = ss.length + 1) := by rw [bys_length]; exact HLen.out
  obtain ⟨R, hR, hR8, hRe⟩ := txt_text (rootF 4096 (bys T)) (rootF_length _ _)
  have HRe := hide hRe
  rw [hR]
  clear hR hRe hR8
  go_wp2_with fail
  go_loopw [4] (fun i wr => ∃ k : Nat, 1 ≤ k ∧ k ≤ ss.length + 2 ∧ i = .int .i64 k ∧ Below w2.heap.size w2 wr) (fun i _ => ss.length + 2 - (intOf i).toNat)
  case atStart => exact ⟨1, Nat.le_refl _, by omega, rfl, Below.refl _ _⟩
  case round =>
    obtain ⟨k, hk1, hk, rfl, hbe⟩ := hrel
    have HB := hide hbe
    have HW := hide (HB2.out.trans (hbe.mono HB2.out.size))
    clear hbe
    by_cases hlt : k ≤ ss.length + 1
    · have hki : (k : Int) ≤ (ss.length : Int) + 1 := by omega
      have hkT : Hid (k ≤ T.length) := by rw [HLen.out]; exact hlt
      have HSr := hide (HS2.out.below HB.out)
      go_wp2_with fail
      refine (ppart_in 4096 hf6.out at_ _ T (k : Int) wr (by exact HS.out.below HW.out) (by rw [HLen.out]; have := HF.out; omega) HL.out HSr.out (by omega) (by rw [HLen.out]; omega)).mono ?_
      rintro r w3 ⟨x, rfl, hb3, ho3⟩
      rw [Int.toNat_natCast] at ho3
      have HB3 := hide hb3
      have HO3 := hide (owns_tx ho3)
      have HQ8 := hide (prtF_len8 4096 k (bys T) true)
      have HQc : Hid ((prtF 4096 k (bys T) true).length ≤ 101) := by
        have h1 := prtF_le 4096 k (bys T) true hk1 (by rw [hbl.out]; exact hlt)
        rw [hbl.out] at h1
        have := HF.out
        show _ ≤ _
        omega
      have HI1 := hide (con_yes (bys T) k hk1 (by rw [hbl.out]; exact hlt) (by rw [hbl.out]; have := HF.out; omega))
      have HI2 := hide (fun a b => con_no (bys T) a b (rootF 4096 (bys T)) k hk1 (by rw [hbl.out]; exact hlt))
      rw [← bys_take] at HI1
      rw [hbl.out] at HI1 HI2
      generalize prtF 4096 k (bys T) true = Q at *
      clear hb3 ho3
      have HE3 := hide (told_cell w3 0)
      have c1 : (k : Int) ≤ (cp : Int) := by have := HCp.out; omega
      have c0 : (0 : Int) ≤ (k : Int) := by omega
      have HTk := hide (fun o => ((HSr.out.below HB3.out).below (below_alloc w3 o)).take k hkT.out)
      have HLk : Hid (∀ s ∈ T.take k, s.size ≤ maxLen) := fun s hs => HL.out s (List.mem_of_mem_take hs)
      have HTl : Hid ((T.take k).length ≤ 4096) := by
        have := HF.out
        have := HLen.out
        show _ ≤ _
        simp; omega
      unfold toldC
      go_wp2_with fail
      refine (plainRoot_any 4096 _ (T.take k) _ HTl.out (Nat.le_trans HTl.out hf6.out) HLk.out (by exact HTk.out _)).mono ?_
      obtain ⟨A, hA, hA8, hAe⟩ := txt_text (rootF 4096 (bys (T.take k))) (rootF_length _ _)
      rw [hA]
      rintro r w5 ⟨rfl, hb5⟩
      have HB5 := hide hb5
      have HAe := hide hAe
      clear hb5 hA hAe hA8
      have HB5' := hide ((below_alloc w3 (.cells #[.int .i64 0, .string ⟨#[]⟩] 25)).trans (HB5.out.mono (by simp)))
      go_wp2_with fail
      refine (plainCon_any 4096 A R (k : Int) ((ss.length : Int) + 1) (by have := HF.out; omega) x (Q.map tx) w5 (by rw [List.length_map]; have := HQc.out; omega) (by rw [List.length_map]; have := HQc.out; omega) (by exact Sss.of_owns (ownsRow_below HO3.out HB5'.out))).mono ?_
      rintro r w6 ⟨hr, hb6⟩
      rw [HAe.out, HRe.out, e8_tx Q HQ8.out, show ((ss.length : Int) + 1) = ((ss.length + 1 : Nat) : Int) by simp, HI1.out] at hr
      subst hr
      have HB6 := hide (HB5.out.trans (hb6.mono HB5.out.size))
      have HB6' := hide (HB5'.out.trans (hb6.mono HB5'.out.size))
      clear hb6
      have HE6 := hide (cell_next HE3.out HB6.out)
      have HB6w := hide (HB3.out.trans (HB6'.out.mono HB3.out.size))
      go_wp2_with (at_builtin; refine wpList_append_keep _ rfl _ _ rfl wr.heap.size (by have := HB6w.out.size; simp; omega) x (Q.map tx) rfl (ownsRow_below HO3.out (HB6'.out.trans ((below_alloc w6 _).mono HB6'.out.size))) (by rw [List.length_map]; have := HQc.out; omega) w6.heap.size 1 R rfl (by rw [World.cell?_alloc_at _ _ _ _ rfl]; rfl) ?_; intro v' w7 hs7 hx7 hb7 hfr; have HS7 := hide hs7; have HE7 := hide (hfr ⟨w3.heap.size, 0, none⟩ _ (by exact cell_next HE6.out (below_alloc w6 _)) (own_lt HO3.out (Nat.le_refl _))); have HB7 := hide (HB6w.out.trans (((below_alloc w6 _).mono HB6w.out.size).trans hb7)); clear hs7 hx7 hb7 hfr)
      have hlen7 : Hid ((Q.map tx ++ [R]).length ≤ 202) := by
        show _ ≤ _
        rw [List.length_append, List.length_map, List.length_singleton]; have := HQc.out; omega
      refine (plainCon_any 4096 A R (k : Int) ((ss.length : Int) + 1) (by have := HF.out; omega) v' (Q.map tx ++ [R]) w7 (by have := hlen7.out; omega) (by have := hlen7.out; omega) HS7.out).mono ?_
      rintro r w8 ⟨hr, hb8⟩
      rw [HAe.out, HRe.out, List.map_append, e8_tx Q HQ8.out, List.map_singleton, HRe.out, show ((ss.length : Int) + 1) = ((ss.length + 1 : Nat) : Int) by simp, HI2.out] at hr
      subst hr
      have E8 := cell_next HE7.out hb8
      have HB8 := hide (HB7.out.trans (hb8.mono HB7.out.size))
      clear hb8
      go_wp2_with fail
      go_roundw
      case rel => exact ⟨k + 1, by omega, by omega, by go_num, HB.out.trans (HB8.out.mono HB.out.size)⟩
      case measure => simp [intOf]; omega
    · have hki : ¬ (k : Int) ≤ (ss.length : Int) + 1 := by omega
      go_wp2_with fail
      refine (plainCon_any 4096 R R 0 ((ss.length : Int) + 1) (by have := HF.out; omega) _ [] wr (by simp) (by simp) ⟨none, 0, rfl, Nat.le_refl _, .inl rfl⟩).mono ?_
      rintro r w6 ⟨hr, hb6⟩
      rw [conB_out (.inl (by decide))] at hr
      subst hr
      have HB6 := hide (HW.out.trans (hb6.mono HW.out.size))
      clear hb6
      go_wp2_with fail
      go_ret
      exact ⟨rfl, HB6.out⟩
theorem extends_yes (at_ : Nat → Addr) (v : Value) (ss : List ByteArray) (w : World) (hs : Sents w at_) (hn : ss.length ≤ maxLen) (hl : ∀ s ∈ ss, s.size ≤ maxLen) (h : Sss w v ss) :
    Calls Tryd.prog 5 #[v] w fun r w' => r = .returned (.bool true) ∧ Below w.heap.size w w' := by
  by_cases hf : ss.length ≤ 100
  · exact extends_few at_ v ss w hs hl h hf
  · exact extends_many v ss w hn h (by omega)
end Go.Proofs.YtbjpjidliggdhaaDoor
