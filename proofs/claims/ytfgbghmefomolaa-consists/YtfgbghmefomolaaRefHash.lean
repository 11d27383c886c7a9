
import Derived.Test.YtfgbghmefomolaaHashWalks
import Derived.Laws.IdiomStrings
namespace Go.Proofs.Ytfgbghmefomolaa
open Go.RowKit

/-- A text out of a list of bytes. -/
def txt (l : List UInt8) : Value := .string ⟨l.toArray⟩

/-- 'string(b)' of a row that is known. -/
theorem conv_row (w : World) (g : Nat) (cap n : Nat) (l : List UInt8) (t : TypeId) (fr : Nat × Nat) (hn : l.length = n) (hg : w.heap[g]? = some (.cells (hv l) t fr)) :
    (convert 41 9 (.slice (some ⟨g, 0, none⟩) n cap)).run Try.prog w = .ok (txt l) w := by
  subst hn
  refine run_convert_bytes_back w _ _ 5 ⟨g, 0, none⟩ cap l Try.underlying41 Try.underlying5 Try.underlying9 (fun j hj => ?_)
  rw [Addr.add_mid, Nat.zero_add, cell_of_row _ _ _ _ _ _ hg]
  simp [hv, bv, hj]

theorem hv_ref (m : Int) (r0 : 0 ≤ m) (r1 : m ≤ 18446744073709551615) : (#[Value.int IntKind.u8 (m / 256 / 256 / 256 / 256 / 256 / 256 / 256),
                Value.int IntKind.u8 (m / 256 / 256 / 256 / 256 / 256 / 256 % 256),
                Value.int IntKind.u8 (m / 256 / 256 / 256 / 256 / 256 % 256),
                Value.int IntKind.u8 (m / 256 / 256 / 256 / 256 % 256),
                Value.int IntKind.u8 (m / 256 / 256 / 256 % 256), Value.int IntKind.u8 (m / 256 / 256 % 256),
                Value.int IntKind.u8 (m / 256 % 256), Value.int IntKind.u8 (m % 256)] : Array Value) = hv (out8 m) := by
  rw [hv_out8 m r0 r1]
  rw [show m / 256 / 256 / 256 / 256 / 256 / 256 / 256 = m / 72057594037927936 by omega, show m / 256 / 256 / 256 / 256 / 256 / 256 = m / 281474976710656 by omega, show m / 256 / 256 / 256 / 256 / 256 = m / 1099511627776 by omega, show m / 256 / 256 / 256 / 256 = m / 4294967296 by omega, show m / 256 / 256 / 256 = m / 16777216 by omega, show m / 256 / 256 = m / 65536 by omega]

set_option maxRecDepth 100000 in
set_option maxHeartbeats 1000000 in
theorem refHash_any (s : ByteArray) (w : World) (hs : s.size ≤ maxLen) :
    Calls Try.prog 26 #[.string s] w fun e w' => e = .returned (txt (hash s.data.toList)) ∧ Below w.heap.size w w' := by
  unfold maxLen at hs
  have hmk : ∀ w, (Instr.makeSlice 41 (.int .i64 8) (.int .i64 8)).run Try.prog w = .ok (.slice (some ⟨w.heap.size, 0, none⟩) 8 8) (w.alloc (.cells #[Value.int IntKind.u8 0, Value.int IntKind.u8 0, Value.int IntKind.u8 0, Value.int IntKind.u8 0, Value.int IntKind.u8 0, Value.int IntKind.u8 0, Value.int IntKind.u8 0, Value.int IntKind.u8 0] 5)) := fun _ => by kernel_rfl
  go_enter Try.func26, Try.ntmps26
  go_wp2_with fail
  go_loop [3, 4] (fun t i => ∃ k : Nat, k ≤ s.size ∧ i = .int .i64 k ∧ t = .int .u64 (fnv fnvStart (s.data.toList.take k))) (fun _ i => s.size - (intOf i).toNat)
  case atStart => exact ⟨0, Nat.zero_le _, rfl, rfl⟩
  case round =>
    obtain ⟨k, hk, rfl, rfl⟩ := hrel
    obtain ⟨r0, r1⟩ := fnv_range fnvStart (s.data.toList.take k) fnvStart_range.1 fnvStart_range.2
    by_cases hlt : k < s.size
    · have HS : Hid (fnv fnvStart (s.data.toList.take (k + 1)) = st (fnv fnvStart (s.data.toList.take k)) (s[k]).toNat) := fnv_take fnvStart s.data.toList k (by simpa using hlt)
      have hb : ((s[k]).toNat : Int) ≤ 255 := by have := (s[k]).toNat_lt; omega
      generalize fnv fnvStart (s.data.toList.take k) = m at *
      go_wp2
      go_round
      case rel => exact ⟨k + 1, by omega, by go_num, by rw [HS.out]; unfold st; rfl⟩
      case measure => simp [intOf]; omega
    · have hkl : s.data.toList.take k = s.data.toList := List.take_of_length_le (by simp; show s.size ≤ k; omega)
      rw [hkl] at r0 r1 ⊢
      have Hh : Hid (hash s.data.toList = out8 (fnv fnvStart s.data.toList)) := rfl
      clear hkl
      generalize fnv fnvStart s.data.toList = m at *
      go_wp2_with fail
      refine wp_loop_rounds 9 ?_
      rw [rounds_succ]
      go_wp2
      rw [rounds_succ]
      go_wp2
      rw [rounds_succ]
      go_wp2
      rw [rounds_succ]
      go_wp2
      rw [rounds_succ]
      go_wp2
      rw [rounds_succ]
      go_wp2
      rw [rounds_succ]
      go_wp2
      rw [rounds_succ]
      go_wp2
      rw [rounds_succ]
      go_wp2
      rw [hv_ref m r0 r1, conv_row _ w.heap.size 8 8 (out8 m) 5 (0, 0) rfl (heap_alloc_last _ _)]
      go_wp2
      go_ret
      exact ⟨by rw [Hh.out]; rfl, (Below.refl _ _).alloc (Nat.le_refl _) _⟩

theorem bytes_append (a b : ByteArray) : (a ++ b).data.toList = a.data.toList ++ b.data.toList := by simp
theorem size_append (a b : ByteArray) : (a ++ b).size = a.size + b.size := by simp

set_option maxRecDepth 100000 in
set_option maxHeartbeats 400000 in
theorem refLeaf_any (s : ByteArray) (w : World) (hs : s.size < maxLen) :
    Calls Try.prog 11 #[.string s] w fun e w' => e = .returned (txt (leafH s.data.toList)) ∧ Below w.heap.size w w' := by
  have Hs := hide hs
  have h1 : ¬ 9223372036854775807 < 1 + s.size := by unfold maxLen at hs; omega
  clear hs
  go_enter Try.func11, Try.ntmps11
  go_wp2_with fail
  refine (refHash_any _ w (by rw [size_append]; have := Hs.out; show 1 + s.size ≤ maxLen; omega)).mono ?_
  rintro e w' ⟨hr, hb⟩
  rw [bytes_append] at hr
  have hr' : e = .returned (txt (leafH s.data.toList)) := hr
  subst hr'
  clear hr
  go_wp2_with fail
  go_ret
  exact ⟨rfl, hb⟩

set_option maxRecDepth 100000 in
set_option maxHeartbeats 400000 in
theorem refNode_le (a b : List UInt8) (w : World) (ha : a.length ≤ 8) (hb : b.length ≤ 8) :
    Calls Try.prog 28 #[txt a, txt b] w fun e w' => e = .returned (txt (nodeH a b)) ∧ Below w.heap.size w w' := by
  unfold txt
  have H : Hid (∀ l, Value.string ⟨l.toArray⟩ = txt l) := fun _ => rfl
  go_enter Try.func28, Try.ntmps28
  go_wp2_with fail
  refine (refHash_any _ w (by rw [size_append, size_append]; show 1 + a.toArray.size + b.toArray.size ≤ maxLen; simp [maxLen]; omega)).mono ?_
  rintro e w' ⟨hr, hbe⟩
  rw [bytes_append, bytes_append] at hr
  have hr' : e = .returned (txt (nodeH a b)) := by rw [hr]; simp [nodeH]
  subst hr'
  clear hr
  go_wp2_with fail
  go_ret
  exact ⟨rfl, hbe⟩
theorem refNode_any (a b : List UInt8) (w : World) (ha : a.length = 8) (hb : b.length = 8) :
    Calls Try.prog 28 #[txt a, txt b] w fun e w' => e = .returned (txt (nodeH a b)) ∧ Below w.heap.size w w' :=
  refNode_le a b w (by omega) (by omega)
end Go.Proofs.Ytfgbghmefomolaa
