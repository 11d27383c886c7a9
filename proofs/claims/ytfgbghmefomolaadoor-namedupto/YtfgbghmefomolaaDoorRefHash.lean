
import Derived.Test.YtfgbghmefomolaaDoorHashWalks
import Derived.Laws.IdiomStrings
namespace Go.Proofs.YtfgbghmefomolaaDoor
open Go.RowKit

/-- A text out of a list of bytes. -/
def txt (l : List UInt8) : Value := .string ⟨l.toArray⟩

/-- 'string(b)' of a row that is known. -/
theorem conv_row (w : World) (g : Nat) (cap n : Nat) (l : List UInt8) (t : TypeId) (fr : Nat × Nat) (hn : l.length = n) (hg : w.heap[g]? = some (.cells (hv l) t fr)) :
    (convert 43 9 (.slice (some ⟨g, 0, none⟩) n cap)).run Tryd.prog w = .ok (txt l) w := by
  subst hn
  refine run_convert_bytes_back w _ _ 5 ⟨g, 0, none⟩ cap l Tryd.underlying43 Tryd.underlying5 Tryd.underlying9 (fun j hj => ?_)
  rw [Addr.add_mid, Nat.zero_add, cell_of_row _ _ _ _ _ _ hg]
  simp [hv, bv, hj]

theorem hv_ref (m : Int) (r0 : 0 ≤ m) (r1 : m ≤ 18446744073709551615) : (#[Value.int IntKind.u8 (m / 256 / 256 / 256 / 256 / 256 / 256 / 256),
                Value.int IntKind.u8 (m / 256 / 256 / 256 / 256 / 256 / 256 % 256),
                Value.int IntKind.u8 (m / 256 / 256 / 256 / 256 / 256 % 256),
                Value.int IntKind.u8 (m / 256 / 256 / 256 / 256 % 256),
                Value.int IntKind.u8 (m / 256 / 256 / 256 % 256), Value.int IntKind.u8 (m / 256 / 256 % 256),
                Value.int IntKind.u8 (m / 256 % 256), Value.int IntKind.u8 (m % 256)] : Array Value) = hv (out8 m) := by
  rw [hv_out8 m r0 r1]
  rw [show m / 256 / 256 / 256 / 256 / 256 / 256 / 256 = m / 72057594037927936 by omega, show m / 256 / 256 / 256 / 256 / 256 / 256 = m / 281474976710656 by omega, show m / 256 / 256 / 256 / 256 / 256 = m / 1099511627776 by omega, show m / 256 / 256 / 256 / 256 = m / 4294967296 by omega, show m / 256 / 256 / 256 = m / 16777216 by omega, show m / 256 / 256 = m / 65536 by omega]

set_option maxRecDepth 100000 in
set_option maxHeartbeats 1000000 in
theorem refHash_any (s : ByteArray) (w : World) (hs : s.size ≤ maxLen) :
    Calls Tryd.prog 25 #[.string s] w fun e w' => e = .returned (txt (hash s.data.toList)) ∧ Below w.heap.size w w' := by
  unfold maxLen at hs
  have hmk : ∀ w, (Instr.makeSlice 43 (.int .i64 8) (.int .i64 8)).run Tryd.prog w = .ok (.slice (some ⟨w.heap.size, 0, none⟩) 8 8) (w.alloc (.cells #[Value.int IntKind.u8 0, Value.int IntKind.u8 0, Value.int IntKind.u8 0, Value.int IntKind.u8 0, Value.int IntKind.u8 0, Value.int IntKind.u8 0, Value.int IntKind.u8 0, Value.int IntKind.u8 0] 5)) := fun _ => by kernel_rfl
  go_enter Tryd.func25, Tryd.ntmps25
  go_wp2_with fail
  go_loop [3, 4] (fun t i => ∃ k : Nat, k ≤ s.size ∧ i = .int .i64 k ∧ t = .int .u64 (fnv fnvStart (s.data.toList.take k))) (fun _ i => s.size - (intOf i).toNat)
  case atStart => exact ⟨0, Nat.zero_le _, rfl, rfl⟩
  case round =>
    obtain ⟨k, hk, rfl, rfl⟩ := hrel
    obtain ⟨r0, r1⟩ := fnv_range fnvStart (s.data.toList.take k) fnvStart_range.1 fnvStart_range.2
    by_cases hlt : k < s.size
    · have HS : Hid (fnv fnvStart (s.data.toList.take (k + 1)) = st (fnv fnvStart (s.data.toList.take k)) (s[k]).toNat) := fnv_take fnvStart s.data.toList k (by simpa using hlt)
      have hb : ((s[k]).toNat : Int) ≤ 255 := by have := (s[k]).toNat_lt; omega
      generalize fnv fnvStart (s.data.toList.take k) = m at *
      go_wp2
      go_round
      case rel => exact ⟨k + 1, by omega, by go_num, by rw [HS.out]; unfold st; rfl⟩
      case measure => simp [intOf]; omega
    · have hkl : s.data.toList.take k = s.data.toList := List.take_of_length_le (by simp; show s.size ≤ k; omega)
      rw [hkl] at r0 r1 ⊢
      have Hh : Hid (hash s.data.toList = out8 (fnv fnvStart s.data.toList)) := rfl
      clear hkl
      generalize fnv fnvStart s.data.toList = m at *
      go_wp2_with fail
      refine wp_loop_rounds 9 ?_
      rw [rounds_succ]
      go_wp2
      rw [rounds_succ]
      go_wp2
      rw [rounds_succ]
      go_wp2
      rw [rounds_succ]
      go_wp2
      rw [rounds_succ]
      go_wp2
      rw [rounds_succ]
      go_wp2
      rw [rounds_succ]
      go_wp2
      rw [rounds_succ]
      go_wp2
      rw [rounds_succ]
      go_wp2
      rw [hv_ref m r0 r1, conv_row _ w.heap.size 8 8 (out8 m) 5 (0, 0) rfl (heap_alloc_last _ _)]
      go_wp2
      go_ret
      exact ⟨by rw [Hh.out]; rfl, (Below.refl _ _).alloc (Nat.le_refl _) _⟩

theorem bytes_append (a b : ByteArray) : (a ++ b).data.toList = a.data.toList ++ b.data.toList := by simp
theorem size_append (a b : ByteArray) : (a ++ b).size = a.size + b.size := by simp

end Go.Proofs.YtfgbghmefomolaaDoor
