
import Derived.Test.YtfgbghmefomolaaDoorSignMath
import Derived.Test.YtfgbghmefomolaaDoorLibCalls
import Derived.Laws.IdiomStrings
import Derived.Laws.AppendOwn
import Derived.Laws.Closers25
import Derived.Laws.Closers25b
import Derived.BigCall
import Derived.BigGuard
namespace Go.Proofs.YtfgbghmefomolaaDoor
open Go.RowKit
set_option maxRecDepth 100000

theorem or32 : ∀ c : Fin 256, 97 ≤ c.val → c.val ≤ 102 → bits BinOp.or IntKind.u8 (c.val : Int) 32 = (c.val : Int) := by decide +kernel
theorem or32_hex (c : UInt8) (h1 : 97 ≤ c.toNat) (h2 : c.toNat ≤ 102) : bits BinOp.or IntKind.u8 (c.toNat : Int) 32 = (c.toNat : Int) := or32 ⟨c.toNat, by have := c.toNat_lt; omega⟩ h1 h2
/-- The bytes of a text, converted. -/
theorem conv_cells (w : World) (s : ByteArray) (cap : Nat) (k : Nat) (hk : k < s.size) : (w.alloc (.cells (bytesRow s cap) 5 ((bytesRow s cap).size, (bytesRow s cap).size + 1))).cell? ⟨w.heap.size, k, none⟩ = some (bv s[k]) := by
  have hk' : k < s.data.size := hk
  rw [cell_of_row _ _ _ _ _ _ (heap_alloc_last _ _), bytesRow, Array.getElem?_append_left (by simpa using hk'), Array.getElem?_map, Array.getElem?_eq_getElem hk']
  rfl

set_option maxHeartbeats 2000000 in
theorem parse16_good (l : List UInt8) (h1 : 1 ≤ l.length) (h2 : l.length ≤ 16) (hg : ∀ c ∈ l, isHex c) (w : World) :
    Calls Tryd.prog 44 #[.string ⟨l.toArray⟩, .int .i64 16, .int .i64 64] w fun r w' => r = .returned (.tuple #[.int .u64 (hexN 0 l : Nat), .nilIface]) ∧ Below w.heap.size w w' := by
  have HG := hide hg
  obtain ⟨c0, r0, hl0⟩ : ∃ c r, l = c :: r := by
    cases l with
    | nil => simp at h1
    | cons c r => exact ⟨c, r, rfl⟩
  have hne : (l == []) = false := by rw [hl0]; rfl
  have hemp : l.isEmpty = false := by rw [hl0]; rfl
  clear hl0 hg
  have hcv := run_bytes_of_string (P := Tryd.prog) w 9 43 5 ⟨l.toArray⟩ Tryd.underlying9 Tryd.underlying43 Tryd.underlying5
  have HC : Hid (∀ k (hk : k < l.length), (w.alloc (.cells (bytesRow ⟨l.toArray⟩ (grownCap w l.length 0 5)) 5 ((bytesRow ⟨l.toArray⟩ (grownCap w l.length 0 5)).size, (bytesRow ⟨l.toArray⟩ (grownCap w l.length 0 5)).size + 1))).cell? ⟨w.heap.size, k, none⟩ = some (.int .u8 (l[k].toNat : Int))) := fun k hk => by
    rw [conv_cells w ⟨l.toArray⟩ _ k hk]
    rfl
  have HB := hide (below_alloc w (.cells (bytesRow ⟨l.toArray⟩ (grownCap w l.length 0 5)) 5 ((bytesRow ⟨l.toArray⟩ (grownCap w l.length 0 5)).size, (bytesRow ⟨l.toArray⟩ (grownCap w l.length 0 5)).size + 1)))
  have hmx : IntKind.u64.wrap (IntKind.u64.wrap 18446744073709551616 - 1) = 18446744073709551615 := by decide
  go_enter Tryd.func44, Tryd.ntmps44
  go_wp2_with fail
  generalize w.alloc (.cells (bytesRow ⟨l.toArray⟩ (grownCap w l.length 0 5)) 5 ((bytesRow ⟨l.toArray⟩ (grownCap w l.length 0 5)).size, (bytesRow ⟨l.toArray⟩ (grownCap w l.length 0 5)).size + 1)) = W0 at *
  generalize grownCap w l.length 0 5 = cp at *
  clear hcv
  go_loopw [12, 13, 101] (fun t12 t13 i wr => ∃ (k : Nat) (a : Int), k ≤ l.length ∧ i = .int .i64 k ∧ t12 = .bool false ∧ t13 = .int .u64 a ∧ Hid (a = (hexN 0 (l.take k) : Nat)) ∧ wr = W0.drew) (fun _ _ i _ => l.length - (intOf i).toNat)
  case atStart => exact ⟨0, 0, Nat.zero_le _, rfl, rfl, rfl, rfl, rfl⟩
  case round =>
    obtain ⟨k, a, hk, rfl, rfl, rfl, ha, rfl⟩ := hrel
    by_cases hlt : k < l.length
    · have hx := HC.out k hlt
      have hh := HG.out l[k] (List.getElem_mem hlt)
      have hn60 : hexN 0 (l.take k) < 1152921504606846976 := by
        have := hexN_lt (l.take k) (fun c hc => HG.out c (List.mem_of_mem_take hc)) 0 0 (by decide)
        have e : (l.take k).length ≤ 15 := by simp; omega
        have := Nat.lt_of_lt_of_le this (Nat.pow_le_pow_right (n := 16) (by decide) (show 0 + (l.take k).length ≤ 15 by omega))
        exact this
      have hS : hexN 0 (l.take (k + 1)) = hexN 0 (l.take k) * 16 + nv l[k] := by
        rw [List.take_succ_eq_append_getElem hlt, hexN_append]
        rfl
      have ha' := ha.out
      have i0 : 0 ≤ a := by omega
      have i1 : a < 1152921504606846976 := by omega
      generalize l[k] = c at *
      unfold isHex at hh
      rcases hh with ⟨d1, d2⟩ | ⟨d1, d2⟩
      · have HV : Hid (a * 16 + ((c.toNat : Int) - 48) = (hexN 0 (l.take (k + 1)) : Nat)) := by
          show _ = _
          rw [hS]
          unfold nv
          rw [if_pos d2]
          omega
        have e1 : ((c.toNat : Int) == 95) = false := by rw [beq_eq_false_iff_ne]; omega
        clear hn60 hS ha' ha
        go_wp2
        refine ⟨⟨k + 1, a * 16 + ((c.toNat : Int) - 48), by omega, (by first | rfl | go_num), rfl, (by first | rfl | (congr 1; omega)), HV, trivial⟩, by simp [intOf]; omega⟩
      · have HV : Hid (a * 16 + ((c.toNat : Int) - 97 + 10) = (hexN 0 (l.take (k + 1)) : Nat)) := by
          show _ = _
          rw [hS]
          unfold nv
          rw [if_neg (by omega)]
          omega
        have e1 : ((c.toNat : Int) == 95) = false := by rw [beq_eq_false_iff_ne]; omega
        have ho := or32_hex c d1 d2
        clear hn60 hS ha' ha
        go_wp2
        refine ⟨⟨k + 1, a * 16 + ((c.toNat : Int) - 97 + 10), by omega, (by first | rfl | go_num), rfl, (by first | rfl | (congr 1; omega)), HV, trivial⟩, by simp [intOf]; omega⟩
    · have ha' := ha.out
      rw [List.take_of_length_le (by omega)] at ha'
      have HA := hide ha'
      clear ha' ha
      go_wp2_with fail
      go_ret2
      exact ⟨by rw [HA.out]; rfl, HB.out.drew⟩

set_option maxHeartbeats 4000000 in
theorem parse16_any (l : List UInt8) (h2 : l.length ≤ 1000000000) (w : World) :
    Calls Tryd.prog 44 #[.string ⟨l.toArray⟩, .int .i64 16, .int .i64 64] w fun r w' => ∃ v e, r = .returned (.tuple #[.int .u64 v, e]) ∧ 0 ≤ v ∧ v ≤ 18446744073709551615 ∧ (e = .nilIface ∨ e = .iface 75 (.int .i64 1) ∨ e = .iface 75 (.int .i64 2)) ∧ Below w.heap.size w w' := by
  cases l with
  | nil =>
    go_enter Tryd.func44, Tryd.ntmps44
    go_wp2_with fail
    go_ret2
    exact ⟨_, _, rfl, by decide, by decide, .inr (.inr rfl), Below.refl _ _⟩
  | cons c0 r0 =>
    have hcv := run_bytes_of_string (P := Tryd.prog) w 9 43 5 ⟨(c0 :: r0).toArray⟩ Tryd.underlying9 Tryd.underlying43 Tryd.underlying5
    have hne : (c0 :: r0 == []) = false := rfl
    have hemp : (c0 :: r0).isEmpty = false := rfl
    generalize c0 :: r0 = l at *
    have HC : Hid (∀ k (hk : k < l.length), (w.alloc (.cells (bytesRow ⟨l.toArray⟩ (grownCap w l.length 0 5)) 5 ((bytesRow ⟨l.toArray⟩ (grownCap w l.length 0 5)).size, (bytesRow ⟨l.toArray⟩ (grownCap w l.length 0 5)).size + 1))).cell? ⟨w.heap.size, k, none⟩ = some (.int .u8 (l[k].toNat : Int))) := fun k hk => by
      rw [conv_cells w ⟨l.toArray⟩ _ k hk]
      rfl
    have HB := hide (below_alloc w (.cells (bytesRow ⟨l.toArray⟩ (grownCap w l.length 0 5)) 5 ((bytesRow ⟨l.toArray⟩ (grownCap w l.length 0 5)).size, (bytesRow ⟨l.toArray⟩ (grownCap w l.length 0 5)).size + 1)))
    have hmx : IntKind.u64.wrap (IntKind.u64.wrap 18446744073709551616 - 1) = 18446744073709551615 := by decide
    go_enter Tryd.func44, Tryd.ntmps44
    go_wp2_with fail
    generalize w.alloc (.cells (bytesRow ⟨l.toArray⟩ (grownCap w l.length 0 5)) 5 ((bytesRow ⟨l.toArray⟩ (grownCap w l.length 0 5)).size, (bytesRow ⟨l.toArray⟩ (grownCap w l.length 0 5)).size + 1)) = W0 at *
    generalize grownCap w l.length 0 5 = cp at *
    clear hcv
    go_loopw [12, 13, 101] (fun t12 t13 i wr => ∃ (k : Nat) (a : Int), k ≤ l.length ∧ i = .int .i64 k ∧ t12 = .bool false ∧ t13 = .int .u64 a ∧ 0 ≤ a ∧ a ≤ 18446744073709551615 ∧ wr = W0.drew) (fun _ _ i _ => l.length - (intOf i).toNat)
    case atStart => exact ⟨0, 0, Nat.zero_le _, rfl, rfl, rfl, by decide, by decide, rfl⟩
    case round =>
      obtain ⟨k, a, hk, rfl, rfl, rfl, i0, i1, rfl⟩ := hrel
      by_cases hlt : k < l.length
      · have hx := HC.out k hlt
        have hc := (l[k]).toNat_lt
        generalize l[k] = c at *
        have hv0 := bits_lo_u8 .or (c.toNat : Int) 32
        have hv1 := bits_hi_u8 .or (c.toNat : Int) 32
        have hu0 := bits_lo_u8 .or 95 32
        have hu1 := bits_hi_u8 .or 95 32
        go_wp2
        all_goals first
          | (go_ret2; exact ⟨_, _, rfl, by decide, by decide, .inr (.inr rfl), HB.out.drew⟩)
          | (go_ret2; exact ⟨_, _, rfl, by decide, by decide, .inr (.inl rfl), HB.out.drew⟩)
          | (refine ⟨⟨k + 1, _, by omega, (by first | rfl | go_num), rfl, rfl, by omega, by omega, trivial⟩, by simp [intOf]; omega⟩)
      · go_wp2_with fail
        go_ret2
        exact ⟨_, _, rfl, i0, i1, .inl rfl, HB.out.drew⟩
end Go.Proofs.YtfgbghmefomolaaDoor
