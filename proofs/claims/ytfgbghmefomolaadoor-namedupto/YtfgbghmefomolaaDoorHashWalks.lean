
import Derived.Test.YtfgbghmefomolaaDoorBase
import Derived.Test.YtfgbghmefomolaaDoorMath
namespace Go.Proofs.YtfgbghmefomolaaDoor
open Go.RowKit

theorem ret_int {k : IntKind} {a b : Int} (h : a = b) : Ending.returned (.int k a) = .returned (.int k b) := by rw [h]

theorem fnv_take (n : Int) (l : List UInt8) (k : Nat) (h : k < l.length) : fnv n (l.take (k + 1)) = st (fnv n (l.take k)) l[k].toNat := by
  rw [List.take_succ_eq_append_getElem h, fnv_snoc]

set_option maxHeartbeats 400000 in
theorem stir_any (n : Int) (v : Value) (l : List UInt8) (w : World) (hlen : l.length ≤ maxLen) (h0 : 0 ≤ n) (h1 : n ≤ 18446744073709551615) (hv : Bs w v l) :
    Calls Tryd.prog 42 #[.int .u64 n, v] w fun e w' => e = .returned (.int .u64 (fnv n l)) ∧ w' = w := by
  unfold maxLen at hlen
  obtain ⟨a, cap, rfl, hv⟩ := hv
  have hv' : l.length = 0 ∨ ∃ b off, a = some ⟨b, off, none⟩ ∧ ∀ i (h : i < l.length), w.cell? ⟨b, off + i, none⟩ = some (bv l[i]) := by
    rcases hv with h | h
    · exact .inl (by simp [h])
    · exact .inr h
  clear hv
  have Hv := hide hv'
  clear hv'
  go_enter Tryd.func42, Tryd.ntmps42
  go_wp2
  go_loop [0, 9] (fun t i => ∃ k : Nat, k ≤ l.length ∧ i = .int .i64 k ∧ t = .int .u64 (fnv n (l.take k))) (fun _ i => l.length - (intOf i).toNat)
  case atStart => exact ⟨0, Nat.zero_le _, rfl, rfl⟩
  case round =>
    obtain ⟨k, hk, rfl, rfl⟩ := hrel
    obtain ⟨r0, r1⟩ := fnv_range n (l.take k) h0 h1
    by_cases hlt : k < l.length
    · rcases Hv.out with h | ⟨b, off, rfl, hc⟩
      · omega
      · have hz : w.cell? ⟨b, off + k, none⟩ = some (.int .u8 (l[k].toNat)) := hc k hlt
        have hb : (l[k].toNat : Int) ≤ 255 := by have := l[k].toNat_lt; omega
        have HS := hide (fnv_take n l k hlt)
        clear hc Hv
        generalize l[k].toNat = z at *
        generalize fnv n (l.take k) = m at *
        go_wp2
        go_round
        case rel => exact ⟨k + 1, by omega, by go_num, by rw [HS.out]; rfl⟩
        case measure => simp [intOf]; omega
    · clear Hv
      go_wp2
      go_ret
      exact ⟨ret_int (by rw [List.take_of_length_le (by omega)]), rfl⟩

set_option maxHeartbeats 400000 in
theorem hf_any (n : Int) (w : World) (h0 : 0 ≤ n) (h1 : n ≤ 18446744073709551615) :
    Calls Tryd.prog 37 #[.int .u64 n] w fun e w' => e = .returned (.agg (hv (out8 n))) ∧ Below w.heap.size w w' := by
  have Hh := hide (hv_out8 n h0 h1)
  go_enter Tryd.func37, Tryd.ntmps37
  go_wp2
  refine wp_loop_rounds 9 ?_
  rw [rounds_succ]
  go_wp2
  rw [rounds_succ]
  go_wp2
  rw [rounds_succ]
  go_wp2
  rw [rounds_succ]
  go_wp2
  rw [rounds_succ]
  go_wp2
  rw [rounds_succ]
  go_wp2
  rw [rounds_succ]
  go_wp2
  rw [rounds_succ]
  go_wp2
  rw [rounds_succ]
  go_wp2
  refine bodyPost_ret (v := .agg #[.int .u8 (n / 72057594037927936), .int .u8 (n / 281474976710656 % 256), .int .u8 (n / 1099511627776 % 256), .int .u8 (n / 4294967296 % 256), .int .u8 (n / 16777216 % 256), .int .u8 (n / 65536 % 256), .int .u8 (n / 256 % 256), .int .u8 (n % 256)]) (by simp [results, Tryd.results37, go_sem]) rfl ⟨by rw [Hh.out], ((Below.refl _ _).alloc (Nat.le_refl _) _).alloc (by simp) _⟩

theorem fnv_flat (n : Int) (ls : List (List UInt8)) (k : Nat) (h : k < ls.length) : fnv n (ls.take (k + 1)).flatten = fnv (fnv n (ls.take k).flatten) ls[k] := by
  rw [List.take_succ_eq_append_getElem h, List.flatten_append, fnv_append]; simp

/-- The eight cells of a value that a callee handed back. -/
theorem agg_out8 (n : Int) (h0 : 0 ≤ n) (h1 : n ≤ 18446744073709551615) : ∃ x0 x1 x2 x3 x4 x5 x6 x7 : Int, hv (out8 n) = #[.int .u8 x0, .int .u8 x1, .int .u8 x2, .int .u8 x3, .int .u8 x4, .int .u8 x5, .int .u8 x6, .int .u8 x7] :=
  ⟨_, _, _, _, _, _, _, _, hv_out8 n h0 h1⟩

set_option maxHeartbeats 1000000 in
theorem hashOf_any (v : Value) (ls : List (List UInt8)) (w : World) (hlen : ls.length ≤ maxLen) (hl : ∀ l ∈ ls, l.length ≤ maxLen) (hv' : Bss w v ls) :
    Calls Tryd.prog 34 #[v] w fun e w' => e = .returned (.agg (hv (hash ls.flatten))) ∧ Below w.heap.size w w' := by
  unfold maxLen at hlen
  have Hb := hide hv'
  have Hl := hide hl
  clear hl
  obtain ⟨a, cap, rfl, hcap, hv''⟩ := hv'
  have hv3 : ls.length = 0 ∨ ∃ b off, a = some ⟨b, off, none⟩ ∧ ∀ i (h : i < ls.length), ∃ x, w.cell? ⟨b, off + i, none⟩ = some x ∧ Bs w x ls[i] := by
    rcases hv'' with h | h
    · exact .inl (by simp [h])
    · exact .inr h
  have Hv := hide hv3
  clear hv'' hv3
  go_enter Tryd.func34, Tryd.ntmps34
  go_wp2
  go_loop [3, 8] (fun t i => ∃ k : Nat, k ≤ ls.length ∧ i = .int .i64 k ∧ t = .int .u64 (fnv fnvStart (ls.take k).flatten)) (fun _ i => ls.length - (intOf i).toNat)
  case atStart => exact ⟨0, Nat.zero_le _, rfl, rfl⟩
  case round =>
    obtain ⟨k, hk, rfl, rfl⟩ := hrel
    obtain ⟨r0, r1⟩ := fnv_range fnvStart (ls.take k).flatten fnvStart_range.1 fnvStart_range.2
    by_cases hlt : k < ls.length
    · rcases Hv.out with h | ⟨b, off, rfl, hc⟩
      · omega
      · obtain ⟨x, hx, hbs⟩ := hc k hlt
        have hz : ∀ o, (w.alloc o).cell? ⟨b, off + k, none⟩ = some x := fun o => by rw [((Below.refl _ _).alloc (Nat.le_refl _) o : Below w.heap.size w (w.alloc o)).cell (cell_lt (p := ⟨b, off + k, none⟩) hx)]; exact hx
        have hbs' : Hid (∀ o, Bs (w.alloc o) x ls[k]) := fun o => hbs.below ((Below.refl _ _).alloc (Nat.le_refl _) o)
        have HS := hide (fnv_flat fnvStart ls k hlt)
        have Hlk := hide (Hl.out ls[k] (List.getElem_mem hlt))
        clear hc Hv hbs hx
        generalize ls[k] = lk at *
        generalize fnv fnvStart (ls.take k).flatten = m at *
        go_wp2_with fail
        refine (stir_any m x lk _ Hlk.out r0 r1 (hbs'.out _)).mono ?_
        rintro e w' ⟨rfl, rfl⟩
        go_wp2_with fail
        go_round
        case rel => exact ⟨k + 1, by omega, by go_num, by rw [HS.out]⟩
        case measure => simp [intOf]; omega
    · have hkl : ls.take k = ls := List.take_of_length_le (by omega)
      have Hk := hide hkl
      clear hkl
      go_wp2_with fail
      refine (hf_any _ _ r0 r1).mono ?_
      rintro e w' ⟨rfl, hb⟩
      have hg : w'.heap[w.heap.size]? = some (.cells #[Value.int IntKind.u8 0, Value.int IntKind.u8 0, Value.int IntKind.u8 0, Value.int IntKind.u8 0, Value.int IntKind.u8 0, Value.int IntKind.u8 0, Value.int IntKind.u8 0, Value.int IntKind.u8 0] 46 (0, 0)) := by
        rw [hb.block _ (by simp)]; exact heap_alloc_last _ _
      have Hg := hide hg
      clear hg
      go_wp2_with (refine wpList_store_row rfl 46 _ _ rfl w.heap.size (hv (out8 (fnv fnvStart (List.take k ls).flatten))) rfl rfl 46 _ Hg.out (by kernel_rfl) rfl (hv_one _) ?_)
      refine bodyPost_ret (v := .agg (hv (out8 (fnv fnvStart (List.take k ls).flatten)))) (results_cell_row Tryd.results34 _ _ w.heap.size 46 _ (0, 0) _ rfl (setRow_heap _ _ _ _ _ _ Hg.out) Tryd.underlying46 rfl (by kernel_rfl)) rfl ⟨?_, ?_⟩
      · rw [Hk.out]; rfl
      · exact below_setRow (((Below.refl _ _).alloc (Nat.le_refl _) _).trans (hb.mono (by simp))) (Nat.le_refl _) _
end Go.Proofs.YtfgbghmefomolaaDoor
