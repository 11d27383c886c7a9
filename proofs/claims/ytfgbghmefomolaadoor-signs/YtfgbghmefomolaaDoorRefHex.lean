
import Derived.Test.YtfgbghmefomolaaDoorHexWalks
import Derived.Test.YtfgbghmefomolaaDoorRefNames
namespace Go.Proofs.YtfgbghmefomolaaDoor
open Go.RowKit
set_option maxRecDepth 100000

theorem dig_ext_fin : ∀ q : Fin 16, ((⟨#[48, 49, 50, 51, 52, 53, 54, 55, 56, 57, 97, 98, 99, 100, 101, 102]⟩ : ByteArray).extract q.val (q.val + 1)).data = #[hexD q.val] := by decide +kernel
theorem dig_ext (q : Nat) (h : q < 16) : (⟨#[48, 49, 50, 51, 52, 53, 54, 55, 56, 57, 97, 98, 99, 100, 101, 102]⟩ : ByteArray).extract q (q + 1) = ⟨#[hexD q]⟩ := ByteArray.ext (dig_ext_fin ⟨q, h⟩)

set_option maxHeartbeats 2000000 in
theorem refHex_any (l : List UInt8) (hl : l.length ≤ 1000) (w : World) :
    Calls Tryd.prog 24 #[.string ⟨l.toArray⟩] w fun r w' => r = .returned (.string ⟨(hexF l).toArray⟩) ∧ Below w.heap.size w w' := by
  go_enter Tryd.func24, Tryd.ntmps24
  go_wp2_with fail
  go_loopw [4, 5] (fun t i wr => ∃ k n : Nat, k ≤ l.length ∧ i = .int .i64 k ∧ t = .string ⟨(hexF (l.take k)).toArray⟩ ∧ wr = w.drewN n) (fun _ i _ => l.length - (intOf i).toNat)
  case atStart => exact ⟨0, 0, Nat.zero_le _, rfl, rfl, rfl⟩
  case round =>
    obtain ⟨k, n, hk, rfl, rfl, rfl⟩ := hrel
    by_cases hlt : k < l.length
    · have hix : (⟨l.toArray⟩ : ByteArray)[k]'(by show k < l.toArray.size; simpa using hlt) = l[k] := by show l.toArray[k] = _; simp
      have HS : Hid (hexF (l.take (k + 1)) = hexF (l.take k) ++ [hexD (l[k].toNat / 16), hexD (l[k].toNat % 16)]) := by
        show _ = _
        rw [List.take_succ_eq_append_getElem hlt]
        unfold hexF
        rw [List.map_append, List.flatten_append]
        rfl
      have hln := hexF_len (l.take k)
      have hlk : (l.take k).length = k := by rw [List.length_take]; omega
      rw [hlk] at hln
      have hcl := (l[k]).toNat_lt
      generalize hexF (l.take k) = m at *
      generalize l[k] = c at *
      have g1 : 0 ≤ (c.toNat : Int) / 16 ∧ (c.toNat : Int) / 16 < 16 := by omega
      have g2 : 0 ≤ (c.toNat : Int) % 16 ∧ (c.toNat : Int) % 16 < 16 := by omega
      have d1 := dig_ext (c.toNat / 16) (by omega)
      have d2 := dig_ext (c.toNat % 16) (by omega)
      have b1 : ¬ 9223372036854775807 < m.length + 1 := by omega
      have b2 : ¬ 9223372036854775807 < m.length + 1 + 1 := by omega
      go_wp2_with fail
      go_region
      all_goals go_wp2_with fail
      all_goals exact ⟨⟨k + 1, n + 1, by omega, by go_num, by rw [HS.out]; congr 1; apply ByteArray.ext; simp, rfl⟩, by simp [intOf]; omega⟩
    · go_wp2_with fail
      go_ret
      rw [List.take_of_length_le (by omega)]
      exact ⟨rfl, ⟨rfl, rfl, rfl, Nat.le_refl _, fun _ _ => rfl⟩⟩

set_option maxHeartbeats 1000000 in
theorem unhex_any (c : UInt8) (w : World) :
    Calls Tryd.prog 27 #[.int .u8 (c.toNat : Int)] w fun r w' => ∃ v : Int, r = .returned (.int .i64 v) ∧ w' = w ∧ ((isHex c ∧ v = (nv c : Nat)) ∨ (¬ isHex c ∧ v = -1)) := by
  have hc := c.toNat_lt
  by_cases h1 : 48 ≤ c.toNat ∧ c.toNat ≤ 57
  · have HV : Hid (isHex c ∧ nv c = c.toNat - 48) := by refine ⟨.inl h1, ?_⟩; unfold nv; rw [if_pos h1.2]
    obtain ⟨a1, a2⟩ := h1
    have f1 : (48 : Int) ≤ c.toNat := by omega
    have f2 : (c.toNat : Int) ≤ 57 := by omega
    have e2 : IntKind.u8.wrap ((c.toNat : Int) - 48) = (c.toNat : Int) - 48 := by rw [IntKind.wrap_u8]; omega
    go_enter Tryd.func27, Tryd.ntmps27
    go_wp2_with fail
    go_ret
    exact ⟨_, rfl, rfl, .inl ⟨HV.out.1, by rw [HV.out.2]; omega⟩⟩
  · by_cases h2 : 97 ≤ c.toNat ∧ c.toNat ≤ 102
    · have HV : Hid (isHex c ∧ nv c = c.toNat - 87) := by refine ⟨.inr h2, ?_⟩; unfold nv; rw [if_neg (by omega)]
      obtain ⟨a1, a2⟩ := h2
      have e2 : IntKind.u8.wrap ((c.toNat : Int) - 97) = (c.toNat : Int) - 97 := by rw [IntKind.wrap_u8]; omega
      have f1 : (97 : Int) ≤ c.toNat := by omega
      have f2 : (c.toNat : Int) ≤ 102 := by omega
      have f3 : ¬ (c.toNat : Int) ≤ 57 := by omega
      have f4 : (48 : Int) ≤ c.toNat := by omega
      clear h1
      go_enter Tryd.func27, Tryd.ntmps27
      go_wp2_with fail
      go_ret
      exact ⟨_, rfl, rfl, .inl ⟨HV.out.1, by rw [HV.out.2]; omega⟩⟩
    · have HN : Hid (¬ isHex c) := by show ¬ _; unfold isHex; omega
      go_enter Tryd.func27, Tryd.ntmps27
      go_wp2_with fail
      all_goals first
        | (go_ret; exact ⟨_, rfl, rfl, .inr ⟨HN.out, rfl⟩⟩)
        | (exfalso; omega)
end Go.Proofs.YtfgbghmefomolaaDoor
