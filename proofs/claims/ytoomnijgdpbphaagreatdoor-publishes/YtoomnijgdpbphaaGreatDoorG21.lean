import Derived.Test.YtoomnijgdpbphaaGreatDoorG20
import Derived.Deep.AppendLies
import Derived.Test.YtoomnijgdpbphaaGreatDoorG12

namespace Go.Proofs.YtoomnijgdpbphaaGreatDoor
open Go.RowKit
set_option maxRecDepth 100000

theorem infoByte2 : (Tryz.prog.info? 5).map (fun i => (i.zero, i.size, i.bytes)) = some (some (.int .u8 0), 1, 1) := by kernel_rfl
theorem own_lt {w : World} {g : Nat} {o : Obj} (h : w.heap[g]? = some o) : g < w.heap.size := by
  rcases Nat.lt_or_ge g w.heap.size with h' | h'
  · exact h'
  · simp [Array.getElem?_eq_none h'] at h
theorem owns_below {w w' : World} {B : Nat} {e : TypeId} {s : Nat} {v : Value} {n : Nat} {xs : List Value} (h : w.ownsRow B e s v n xs) (hb : Below w.heap.size w w') : w'.ownsRow B e s v n xs := by
  refine ⟨h.1, ?_⟩
  rcases h.2 with h | ⟨g, cap, cur, e1, e2, e3, r⟩
  · exact .inl h
  · exact .inr ⟨g, cap, cur, e1, e2, by rw [hb.block g (own_lt e3)]; exact e3, r⟩
theorem owns_base {w : World} {B : Nat} {e : TypeId} {s : Nat} {v : Value} {n : Nat} {xs : List Value} (h : w.ownsRow B e s v n xs) : ∀ k, v.ownBlock = some k → B ≤ k := by
  intro k hk
  rcases h.2 with ⟨rfl, _⟩ | ⟨g, cap, cur, rfl, hB, _⟩
  · simp [Value.ownBlock] at hk
  · simp only [Value.ownBlock, Option.some.injEq] at hk
    omega

theorem dig_fin : ∀ q : Fin 16, (⟨#[48, 49, 50, 51, 52, 53, 54, 55, 56, 57, 97, 98, 99, 100, 101, 102]⟩ : ByteArray)[q.val]'(q.isLt) = hexD q.val := by decide +kernel
theorem dig_at (q : Nat) (h : q < 16) : (⟨#[48, 49, 50, 51, 52, 53, 54, 55, 56, 57, 97, 98, 99, 100, 101, 102]⟩ : ByteArray)[q]'h = hexD q := dig_fin ⟨q, h⟩
theorem and15 : ∀ c : Fin 256, bits BinOp.and IntKind.u8 (c.val : Int) 15 = (c.val : Int) % 16 := by decide +kernel
theorem and15_byte (c : UInt8) : bits BinOp.and IntKind.u8 (c.toNat : Int) 15 = (c.toNat : Int) % 16 := and15 ⟨c.toNat, c.toNat_lt⟩

set_option maxHeartbeats 2000000 in
theorem hexadecimal_any (root : List UInt8) (hr : root.length = 8) (w : World) :
    Calls Tryz.prog 99 #[.agg (hv root)] w fun r w' => r = .returned (.string ⟨(hexF root).toArray⟩) ∧ Below w.heap.size w w' := by
  obtain ⟨i, hi, hi'⟩ := Option.map_eq_some_iff.1 infoByte2
  obtain ⟨hz0, hz1, hz2⟩ : i.zero = some (.int .u8 0) ∧ i.size = 1 ∧ i.bytes = 1 := by simpa using hi'
  clear hi'
  have HI := hide hi
  have HZ := hide (And.intro hz0 (And.intro hz1 hz2))
  clear hi hz0 hz1 hz2
  obtain ⟨b0, b1, b2, b3, b4, b5, b6, b7, rfl⟩ := hv8 root hr
  clear hr
  have HV : Hid (hv [b0, b1, b2, b3, b4, b5, b6, b7] = #[.int .u8 b0.toNat, .int .u8 b1.toNat, .int .u8 b2.toNat, .int .u8 b3.toNat, .int .u8 b4.toNat, .int .u8 b5.toNat, .int .u8 b6.toNat, .int .u8 b7.toNat]) := rfl
  rw [HV.out]
  go_enter Tryz.func99, Tryz.ntmps99
  go_wp2_with fail
  go_loopw [3, 7] (fun t i wr => ∃ k : Nat, k ≤ 8 ∧ i = .int .i64 k ∧ Below w.heap.size w wr ∧ wr.ownsRow w.heap.size 5 1 t (2 * k) ((hexF ([b0, b1, b2, b3, b4, b5, b6, b7].take k)).map bv)) (fun _ i _ => 8 - (intOf i).toNat)
  case atStart => exact ⟨0, Nat.zero_le _, rfl, below_alloc w _, ⟨rfl, .inl ⟨rfl, rfl⟩⟩⟩
  case round =>
    obtain ⟨k, hk, rfl, hbe, hown⟩ := hrel
    have HB := hide hbe
    have HO := hide hown
    clear hbe hown
    by_cases hlt : k < 8
    · obtain ⟨c, hc⟩ : ∃ c : UInt8, [b0, b1, b2, b3, b4, b5, b6, b7][k]? = some c := ⟨[b0, b1, b2, b3, b4, b5, b6, b7][k], by simp [hlt]⟩
      have hix : ∀ w0, (Instr.index 93 (.agg #[.int .u8 b0.toNat, .int .u8 b1.toNat, .int .u8 b2.toNat, .int .u8 b3.toNat, .int .u8 b4.toNat, .int .u8 b5.toNat, .int .u8 b6.toNat, .int .u8 b7.toNat]) (.int .i64 k)).run Tryz.prog w0 = .ok (.int .u8 (c.toNat : Int)) w0 := by
        rcases (by omega : k = 0 ∨ k = 1 ∨ k = 2 ∨ k = 3 ∨ k = 4 ∨ k = 5 ∨ k = 6 ∨ k = 7) with rfl | rfl | rfl | rfl | rfl | rfl | rfl | rfl
        · obtain rfl : b0 = c := by simpa using hc
          exact fun w0 => by kernel_rfl
        · obtain rfl : b1 = c := by simpa using hc
          exact fun w0 => by kernel_rfl
        · obtain rfl : b2 = c := by simpa using hc
          exact fun w0 => by kernel_rfl
        · obtain rfl : b3 = c := by simpa using hc
          exact fun w0 => by kernel_rfl
        · obtain rfl : b4 = c := by simpa using hc
          exact fun w0 => by kernel_rfl
        · obtain rfl : b5 = c := by simpa using hc
          exact fun w0 => by kernel_rfl
        · obtain rfl : b6 = c := by simpa using hc
          exact fun w0 => by kernel_rfl
        · obtain rfl : b7 = c := by simpa using hc
          exact fun w0 => by kernel_rfl
      have hcl := c.toNat_lt
      have HS : Hid ((hexF ([b0, b1, b2, b3, b4, b5, b6, b7].take (k + 1))).map bv = (hexF ([b0, b1, b2, b3, b4, b5, b6, b7].take k)).map bv ++ [.int .u8 ((hexD (c.toNat / 16)).toNat : Int), .int .u8 ((hexD (c.toNat % 16)).toNat : Int)]) := by
        show _ = _
        rw [List.take_add_one, hc]
        unfold hexF
        rw [List.map_append, List.flatten_append, List.map_append]
        rfl
      have g1 : 0 ≤ (c.toNat : Int) / 16 ∧ (c.toNat : Int) / 16 < 16 := by omega
      have g2 : 0 ≤ (c.toNat : Int) % 16 ∧ (c.toNat : Int) % 16 < 16 := by omega
      have ha := and15_byte c
      have hd1 := (dig_at ((c.toNat : Int) / 16).toNat (by omega)).trans (congrArg hexD (show ((c.toNat : Int) / 16).toNat = c.toNat / 16 by omega))
      have hd2 := (dig_at ((c.toNat : Int) % 16).toNat (by omega)).trans (congrArg hexD (show ((c.toNat : Int) % 16).toNat = c.toNat % 16 by omega))
      have hsz : Hid (w.heap.size ≤ wr.heap.size) := HB.out.size
      have HO1 : Hid (∀ o, (wr.alloc o).drew.ownsRow w.heap.size 5 1 u3 (2 * k) ((hexF ([b0, b1, b2, b3, b4, b5, b6, b7].take k)).map bv)) := fun o => owns_below HO.out (below_alloc wr o).drew
      go_wp2_with fail
      go_region_law (refine step_append_lies _ (by rfl) _ _ _ (by rfl) w.heap.size 5 i (.int .u8 0) 1 1 Tryz.underlying89 HI.out HZ.out.1 HZ.out.2.1 HZ.out.2.2 rfl (by omega) u3 (2 * k) _ (by rfl) (HO1.out _) ⟨wr.heap.size, 0, none⟩ 2 2 [.int .u8 ((hexD (c.toNat / 16)).toNat : Int), .int .u8 ((hexD (c.toNat % 16)).toNat : Int)] (by rfl) rfl (World.news_of_block (heap_alloc_last _ _)) (by simp [Value.oneCell']) (by omega) (by unfold maxLen; omega) (by omega) (by have := hsz.out; simp; omega) (wr.heap.size + 1) (by simp) ?_; intro g cap' w3 hown hgrow hat hltg)
      all_goals
        have HB3 : Hid (Below w.heap.size w w3) := ((HB.out.trans ((below_alloc wr _).mono HB.out.size)).drew).grown hgrow (by have := hsz.out; simp; omega) (owns_base HO.out)
        have HO3 := hide hown
        clear hgrow hat hltg hown
        go_wp2_with fail
        refine ⟨⟨k + 1, by omega, by go_num, HB3.out, by rw [HS.out]; exact HO3.out⟩, by simp [intOf]; omega⟩
    · obtain rfl : k = 8 := by omega
      have hcv : (convert 89 9 u3).run Tryz.prog wr = .ok (.string ⟨(hexF [b0, b1, b2, b3, b4, b5, b6, b7]).toArray⟩) wr := by
        rcases HO.out.2 with ⟨_, h0⟩ | ⟨g, cap, cur, rfl, hB, hg, hn, hm, hs, ht⟩
        · omega
        · refine run_convert_bytes_back wr _ _ 5 ⟨g, 0, none⟩ cap (hexF [b0, b1, b2, b3, b4, b5, b6, b7]) Tryz.underlying89 Tryz.underlying5 Tryz.underlying9 (fun j hj => ?_)
          rw [Addr.add_mid, Nat.zero_add, cell_of_row _ _ _ _ _ _ hg]
          have e : ((hexF [b0, b1, b2, b3, b4, b5, b6, b7]).map bv)[j]? = some (bv (hexF [b0, b1, b2, b3, b4, b5, b6, b7])[j]) := by simp [hj]
          have ht' : cur.toList.take (2 * 8 * 1) = (hexF [b0, b1, b2, b3, b4, b5, b6, b7]).map bv := ht
          rw [← ht', List.getElem?_take, if_pos (by rw [hexF_len] at hj; simp at hj; omega)] at e
          simpa [bv] using e
      go_wp2_with fail
      go_ret
      exact ⟨rfl, HB.out⟩
end Go.Proofs.YtoomnijgdpbphaaGreatDoor

namespace Go.Proofs.YtoomnijgdpbphaaGreatDoor
open Go.RowKit
set_option maxRecDepth 100000

theorem dig_ext_fin : ∀ q : Fin 16, ((⟨#[48, 49, 50, 51, 52, 53, 54, 55, 56, 57, 97, 98, 99, 100, 101, 102]⟩ : ByteArray).extract q.val (q.val + 1)).data = #[hexD q.val] := by decide +kernel
theorem dig_ext (q : Nat) (h : q < 16) : (⟨#[48, 49, 50, 51, 52, 53, 54, 55, 56, 57, 97, 98, 99, 100, 101, 102]⟩ : ByteArray).extract q (q + 1) = ⟨#[hexD q]⟩ := ByteArray.ext (dig_ext_fin ⟨q, h⟩)

set_option maxHeartbeats 2000000 in
theorem refHex_any (l : List UInt8) (hl : l.length ≤ 1000) (w : World) :
    Calls Tryz.prog 68 #[.string ⟨l.toArray⟩] w fun r w' => r = .returned (.string ⟨(hexF l).toArray⟩) ∧ Below w.heap.size w w' := by
  go_enter Tryz.func68, Tryz.ntmps68
  go_wp2_with fail
  go_loopw [4, 5] (fun t i wr => ∃ k n : Nat, k ≤ l.length ∧ i = .int .i64 k ∧ t = .string ⟨(hexF (l.take k)).toArray⟩ ∧ wr = w.drewN n) (fun _ i _ => l.length - (intOf i).toNat)
  case atStart => exact ⟨0, 0, Nat.zero_le _, rfl, rfl, rfl⟩
  case round =>
    obtain ⟨k, n, hk, rfl, rfl, rfl⟩ := hrel
    by_cases hlt : k < l.length
    · have hix : (⟨l.toArray⟩ : ByteArray)[k]'(by show k < l.toArray.size; simpa using hlt) = l[k] := by show l.toArray[k] = _; simp
      have HS : Hid (hexF (l.take (k + 1)) = hexF (l.take k) ++ [hexD (l[k].toNat / 16), hexD (l[k].toNat % 16)]) := by
        show _ = _
        rw [List.take_succ_eq_append_getElem hlt]
        unfold hexF
        rw [List.map_append, List.flatten_append]
        rfl
      have hln := hexF_len (l.take k)
      have hlk : (l.take k).length = k := by rw [List.length_take]; omega
      rw [hlk] at hln
      have hcl := (l[k]).toNat_lt
      generalize hexF (l.take k) = m at *
      generalize l[k] = c at *
      have g1 : 0 ≤ (c.toNat : Int) / 16 ∧ (c.toNat : Int) / 16 < 16 := by omega
      have g2 : 0 ≤ (c.toNat : Int) % 16 ∧ (c.toNat : Int) % 16 < 16 := by omega
      have d1 := dig_ext (c.toNat / 16) (by omega)
      have d2 := dig_ext (c.toNat % 16) (by omega)
      have b1 : ¬ 9223372036854775807 < m.length + 1 := by omega
      have b2 : ¬ 9223372036854775807 < m.length + 1 + 1 := by omega
      go_wp2_with fail
      go_region
      all_goals go_wp2_with fail
      all_goals exact ⟨⟨k + 1, n + 1, by omega, by go_num, by rw [HS.out]; congr 1; apply ByteArray.ext; simp, rfl⟩, by simp [intOf]; omega⟩
    · go_wp2_with fail
      go_ret
      rw [List.take_of_length_le (by omega)]
      exact ⟨rfl, ⟨rfl, rfl, rfl, Nat.le_refl _, fun _ _ => rfl⟩⟩

set_option maxHeartbeats 1000000 in
theorem unhex_any (c : UInt8) (w : World) :
    Calls Tryz.prog 89 #[.int .u8 (c.toNat : Int)] w fun r w' => ∃ v : Int, r = .returned (.int .i64 v) ∧ w' = w ∧ ((isHex c ∧ v = (nv c : Nat)) ∨ (¬ isHex c ∧ v = -1)) := by
  have hc := c.toNat_lt
  by_cases h1 : 48 ≤ c.toNat ∧ c.toNat ≤ 57
  · have HV : Hid (isHex c ∧ nv c = c.toNat - 48) := by refine ⟨.inl h1, ?_⟩; unfold nv; rw [if_pos h1.2]
    obtain ⟨a1, a2⟩ := h1
    have f1 : (48 : Int) ≤ c.toNat := by omega
    have f2 : (c.toNat : Int) ≤ 57 := by omega
    have e2 : IntKind.u8.wrap ((c.toNat : Int) - 48) = (c.toNat : Int) - 48 := by rw [IntKind.wrap_u8]; omega
    go_enter Tryz.func89, Tryz.ntmps89
    go_wp2_with fail
    go_ret
    exact ⟨_, rfl, rfl, .inl ⟨HV.out.1, by rw [HV.out.2]; omega⟩⟩
  · by_cases h2 : 97 ≤ c.toNat ∧ c.toNat ≤ 102
    · have HV : Hid (isHex c ∧ nv c = c.toNat - 87) := by refine ⟨.inr h2, ?_⟩; unfold nv; rw [if_neg (by omega)]
      obtain ⟨a1, a2⟩ := h2
      have e2 : IntKind.u8.wrap ((c.toNat : Int) - 97) = (c.toNat : Int) - 97 := by rw [IntKind.wrap_u8]; omega
      have f1 : (97 : Int) ≤ c.toNat := by omega
      have f2 : (c.toNat : Int) ≤ 102 := by omega
      have f3 : ¬ (c.toNat : Int) ≤ 57 := by omega
      have f4 : (48 : Int) ≤ c.toNat := by omega
      clear h1
      go_enter Tryz.func89, Tryz.ntmps89
      go_wp2_with fail
      go_ret
      exact ⟨_, rfl, rfl, .inl ⟨HV.out.1, by rw [HV.out.2]; omega⟩⟩
    · have HN : Hid (¬ isHex c) := by show ¬ _; unfold isHex; omega
      go_enter Tryz.func89, Tryz.ntmps89
      go_wp2_with fail
      all_goals first
        | (go_ret; exact ⟨_, rfl, rfl, .inr ⟨HN.out, rfl⟩⟩)
        | (exfalso; omega)
end Go.Proofs.YtoomnijgdpbphaaGreatDoor
