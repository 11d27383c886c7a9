import Derived.Test.YtoomnijgdpbphaaGreatDoorG01
import Derived.BigRegion
import Derived.Deep.RegionWith

namespace Go.Proofs.YtoomnijgdpbphaaGreatDoor
open Go.RowKit

theorem ret_int {k : IntKind} {a b : Int} (h : a = b) : Ending.returned (.int k a) = .returned (.int k b) := by rw [h]

theorem fnv_take (n : Int) (l : List UInt8) (k : Nat) (h : k < l.length) : fnv n (l.take (k + 1)) = st (fnv n (l.take k)) l[k].toNat := by
  rw [List.take_succ_eq_append_getElem h, fnv_snoc]

set_option maxHeartbeats 400000 in
theorem stir_any (n : Int) (v : Value) (l : List UInt8) (w : World) (hlen : l.length ≤ maxLen) (h0 : 0 ≤ n) (h1 : n ≤ 18446744073709551615) (hv : Bs w v l) :
    Calls Tryz.prog 101 #[.int .u64 n, v] w fun e w' => e = .returned (.int .u64 (fnv n l)) ∧ w' = w := by
  unfold maxLen at hlen
  obtain ⟨a, cap, rfl, hv⟩ := hv
  have hv' : l.length = 0 ∨ ∃ b off, a = some ⟨b, off, none⟩ ∧ ∀ i (h : i < l.length), w.cell? ⟨b, off + i, none⟩ = some (bv l[i]) := by
    rcases hv with h | h
    · exact .inl (by simp [h])
    · exact .inr h
  clear hv
  have Hv := hide hv'
  clear hv'
  go_enter Tryz.func101, Tryz.ntmps101
  go_wp2
  go_loop [0, 9] (fun t i => ∃ k : Nat, k ≤ l.length ∧ i = .int .i64 k ∧ t = .int .u64 (fnv n (l.take k))) (fun _ i => l.length - (intOf i).toNat)
  case atStart => exact ⟨0, Nat.zero_le _, rfl, rfl⟩
  case round =>
    obtain ⟨k, hk, rfl, rfl⟩ := hrel
    obtain ⟨r0, r1⟩ := fnv_range n (l.take k) h0 h1
    by_cases hlt : k < l.length
    · rcases Hv.out with h | ⟨b, off, rfl, hc⟩
      · omega
      · have hz : w.cell? ⟨b, off + k, none⟩ = some (.int .u8 (l[k].toNat)) := hc k hlt
        have hb : (l[k].toNat : Int) ≤ 255 := by have := l[k].toNat_lt; omega
        have HS := hide (fnv_take n l k hlt)
        clear hc Hv
        generalize l[k].toNat = z at *
        generalize fnv n (l.take k) = m at *
        go_wp2
        go_round
        case rel => exact ⟨k + 1, by omega, by go_num, by rw [HS.out]; rfl⟩
        case measure => simp [intOf]; omega
    · clear Hv
      go_wp2
      go_ret
      exact ⟨ret_int (by rw [List.take_of_length_le (by omega)]), rfl⟩

set_option maxHeartbeats 400000 in
theorem hf_any (n : Int) (w : World) (h0 : 0 ≤ n) (h1 : n ≤ 18446744073709551615) :
    Calls Tryz.prog 74 #[.int .u64 n] w fun e w' => e = .returned (.agg (hv (out8 n))) ∧ Below w.heap.size w w' := by
  have Hh := hide (hv_out8 n h0 h1)
  go_enter Tryz.func74, Tryz.ntmps74
  go_wp2
  refine wp_loop_rounds 9 ?_
  rw [rounds_succ]
  go_wp2
  rw [rounds_succ]
  go_wp2
  rw [rounds_succ]
  go_wp2
  rw [rounds_succ]
  go_wp2
  rw [rounds_succ]
  go_wp2
  rw [rounds_succ]
  go_wp2
  rw [rounds_succ]
  go_wp2
  rw [rounds_succ]
  go_wp2
  rw [rounds_succ]
  go_wp2
  refine bodyPost_ret (v := .agg #[.int .u8 (n / 72057594037927936), .int .u8 (n / 281474976710656 % 256), .int .u8 (n / 1099511627776 % 256), .int .u8 (n / 4294967296 % 256), .int .u8 (n / 16777216 % 256), .int .u8 (n / 65536 % 256), .int .u8 (n / 256 % 256), .int .u8 (n % 256)]) (by simp [results, Tryz.results74, go_sem]) rfl ⟨by rw [Hh.out], ((Below.refl _ _).alloc (Nat.le_refl _) _).alloc (by simp) _⟩

theorem fnv_flat (n : Int) (ls : List (List UInt8)) (k : Nat) (h : k < ls.length) : fnv n (ls.take (k + 1)).flatten = fnv (fnv n (ls.take k).flatten) ls[k] := by
  rw [List.take_succ_eq_append_getElem h, List.flatten_append, fnv_append]; simp

/-- The eight cells of a value that a callee handed back. -/
theorem agg_out8 (n : Int) (h0 : 0 ≤ n) (h1 : n ≤ 18446744073709551615) : ∃ x0 x1 x2 x3 x4 x5 x6 x7 : Int, hv (out8 n) = #[.int .u8 x0, .int .u8 x1, .int .u8 x2, .int .u8 x3, .int .u8 x4, .int .u8 x5, .int .u8 x6, .int .u8 x7] :=
  ⟨_, _, _, _, _, _, _, _, hv_out8 n h0 h1⟩

set_option maxHeartbeats 1000000 in
theorem hashOf_any (v : Value) (ls : List (List UInt8)) (w : World) (hlen : ls.length ≤ maxLen) (hl : ∀ l ∈ ls, l.length ≤ maxLen) (hv' : Bss w v ls) :
    Calls Tryz.prog 78 #[v] w fun e w' => e = .returned (.agg (hv (hash ls.flatten))) ∧ Below w.heap.size w w' := by
  unfold maxLen at hlen
  have Hb := hide hv'
  have Hl := hide hl
  clear hl
  obtain ⟨a, cap, rfl, hcap, hv''⟩ := hv'
  have hv3 : ls.length = 0 ∨ ∃ b off, a = some ⟨b, off, none⟩ ∧ ∀ i (h : i < ls.length), ∃ x, w.cell? ⟨b, off + i, none⟩ = some x ∧ Bs w x ls[i] := by
    rcases hv'' with h | h
    · exact .inl (by simp [h])
    · exact .inr h
  have Hv := hide hv3
  clear hv'' hv3
  go_enter Tryz.func78, Tryz.ntmps78
  go_wp2
  go_loop [3, 8] (fun t i => ∃ k : Nat, k ≤ ls.length ∧ i = .int .i64 k ∧ t = .int .u64 (fnv fnvStart (ls.take k).flatten)) (fun _ i => ls.length - (intOf i).toNat)
  case atStart => exact ⟨0, Nat.zero_le _, rfl, rfl⟩
  case round =>
    obtain ⟨k, hk, rfl, rfl⟩ := hrel
    obtain ⟨r0, r1⟩ := fnv_range fnvStart (ls.take k).flatten fnvStart_range.1 fnvStart_range.2
    by_cases hlt : k < ls.length
    · rcases Hv.out with h | ⟨b, off, rfl, hc⟩
      · omega
      · obtain ⟨x, hx, hbs⟩ := hc k hlt
        have hz : ∀ o, (w.alloc o).cell? ⟨b, off + k, none⟩ = some x := fun o => by rw [((Below.refl _ _).alloc (Nat.le_refl _) o : Below w.heap.size w (w.alloc o)).cell (cell_lt (p := ⟨b, off + k, none⟩) hx)]; exact hx
        have hbs' : Hid (∀ o, Bs (w.alloc o) x ls[k]) := fun o => hbs.below ((Below.refl _ _).alloc (Nat.le_refl _) o)
        have HS := hide (fnv_flat fnvStart ls k hlt)
        have Hlk := hide (Hl.out ls[k] (List.getElem_mem hlt))
        clear hc Hv hbs hx
        generalize ls[k] = lk at *
        generalize fnv fnvStart (ls.take k).flatten = m at *
        go_wp2_with fail
        refine (stir_any m x lk _ Hlk.out r0 r1 (hbs'.out _)).mono ?_
        rintro e w' ⟨rfl, rfl⟩
        go_wp2_with fail
        go_round
        case rel => exact ⟨k + 1, by omega, by go_num, by rw [HS.out]⟩
        case measure => simp [intOf]; omega
    · have hkl : ls.take k = ls := List.take_of_length_le (by omega)
      have Hk := hide hkl
      clear hkl
      go_wp2_with fail
      refine (hf_any _ _ r0 r1).mono ?_
      rintro e w' ⟨rfl, hb⟩
      have hg : w'.heap[w.heap.size]? = some (.cells #[Value.int IntKind.u8 0, Value.int IntKind.u8 0, Value.int IntKind.u8 0, Value.int IntKind.u8 0, Value.int IntKind.u8 0, Value.int IntKind.u8 0, Value.int IntKind.u8 0, Value.int IntKind.u8 0] 93 (0, 0)) := by
        rw [hb.block _ (by simp)]; exact heap_alloc_last _ _
      have Hg := hide hg
      clear hg
      go_wp2_with (refine wpList_store_row rfl 93 _ _ rfl w.heap.size (hv (out8 (fnv fnvStart (List.take k ls).flatten))) rfl rfl 93 _ Hg.out (by kernel_rfl) rfl (hv_one _) ?_)
      refine bodyPost_ret (v := .agg (hv (out8 (fnv fnvStart (List.take k ls).flatten)))) (results_cell_row Tryz.results78 _ _ w.heap.size 93 _ (0, 0) _ rfl (setRow_heap _ _ _ _ _ _ Hg.out) Tryz.underlying93 rfl (by kernel_rfl)) rfl ⟨?_, ?_⟩
      · rw [Hk.out]; rfl
      · exact below_setRow (((Below.refl _ _).alloc (Nat.le_refl _) _).trans (hb.mono (by simp))) (Nat.le_refl _) _
end Go.Proofs.YtoomnijgdpbphaaGreatDoor

namespace Go.Proofs.YtoomnijgdpbphaaGreatDoor
open Go.RowKit

theorem cell_new (w : World) (c : Array Value) (t : TypeId) (i n : Nat) (hn : n = w.heap.size) : (w.alloc (.cells c t)).cell? ⟨n, i, none⟩ = c[i]? := by
  subst hn
  rw [cell_of_row _ _ _ c t (0, 0) (heap_alloc_last _ _)]
theorem cell_old (w : World) (o : Obj) (p : Addr) (h : p.block < w.heap.size) : (w.alloc o).cell? p = w.cell? p :=
  ((Below.refl _ _).alloc (Nat.le_refl _) o : Below w.heap.size w (w.alloc o)).cell h
theorem size_alloc (w : World) (o : Obj) : (w.alloc o).heap.size = w.heap.size + 1 := by simp
theorem below_alloc (w : World) (o : Obj) : Below w.heap.size w (w.alloc o) := (Below.refl _ _).alloc (Nat.le_refl _) o
theorem below_alloc2 (w : World) (o p : Obj) : Below w.heap.size w ((w.alloc o).alloc p) := (below_alloc w o).trans ((below_alloc _ p).mono (by simp))
theorem below_alloc3 (w : World) (o p q : Obj) : Below w.heap.size w (((w.alloc o).alloc p).alloc q) := (below_alloc2 w o p).trans ((below_alloc _ q).mono (by simp; omega))

/-- A fresh row of bytes. -/
theorem Bs.fresh (w : World) (l : List UInt8) (t : TypeId) (n : Nat) (hn : n = w.heap.size) (cap : Nat) : Bs (w.alloc (.cells (hv l) t)) (.slice (some ⟨n, 0, none⟩) l.length cap) l :=
  ⟨_, _, rfl, .inr ⟨_, _, rfl, fun i h => by rw [cell_new _ _ _ _ _ hn]; simp [hv, h]⟩⟩

theorem leaf_parts (w : World) (o : Obj) (v : Value) (e : List UInt8) (h : Bs w v e) :
    Bss (((w.alloc o).alloc (.cells #[.int .u8 0] 5)).alloc (.cells #[.slice (some ⟨w.heap.size + 1, 0, none⟩) 1 1, v] 89)) (.slice (some ⟨w.heap.size + 1 + 1, 0, none⟩) 2 2) [[0], e] := by
  refine ⟨_, _, rfl, Nat.le_refl _, .inr ⟨_, _, rfl, fun i hi => ?_⟩⟩
  match i, hi with
  | 0, _ =>
    refine ⟨.slice (some ⟨w.heap.size + 1, 0, none⟩) 1 1, by rw [cell_new _ _ _ _ _ (by simp)]; rfl, ?_⟩
    exact (Bs.fresh (w.alloc o) [0] _ _ (by simp) 1).below (below_alloc _ _)
  | 1, _ =>
    refine ⟨v, by rw [cell_new _ _ _ _ _ (by simp)]; rfl, ?_⟩
    exact h.below (below_alloc3 _ _ _ _)

set_option maxHeartbeats 400000 in
theorem leaf_any (v : Value) (e : List UInt8) (w : World) (hlen : e.length ≤ maxLen) (h : Bs w v e) :
    Calls Tryz.prog 79 #[v] w fun r w' => r = .returned (.agg (hv (leafH e))) ∧ Below w.heap.size w w' := by
  have H := hide h
  have Hlen := hide hlen
  clear hlen
  obtain ⟨a, cap, rfl, h'⟩ := h
  clear h'
  go_enter Tryz.func79, Tryz.ntmps79
  go_wp2_with fail
  refine (hashOf_any _ [[0], e] _ (by unfold maxLen; simp) (fun l hl => by simp at hl; rcases hl with rfl | rfl; (simp [maxLen]); exact Hlen.out) (leaf_parts w _ _ e H.out)).mono ?_
  rintro r w' ⟨hr, hb⟩
  rw [show hash [[0], e].flatten = leafH e by simp [leafH]] at hr
  subst hr
  have hg : w'.heap[w.heap.size]? = some (.cells #[Value.int IntKind.u8 0, Value.int IntKind.u8 0, Value.int IntKind.u8 0, Value.int IntKind.u8 0, Value.int IntKind.u8 0, Value.int IntKind.u8 0, Value.int IntKind.u8 0, Value.int IntKind.u8 0] 93 (0, 0)) := by
    rw [hb.block _ (by simp; omega)]
    exact heap_alloc_old (heap_alloc_old (heap_alloc_last _ _))
  have Hg := hide hg
  clear hg
  go_wp2_with (refine wpList_store_row rfl 93 _ _ rfl w.heap.size (hv (leafH e)) rfl rfl 93 _ Hg.out (by kernel_rfl) rfl (hv_one _) ?_)
  refine bodyPost_ret (v := .agg (hv (leafH e))) (results_cell_row Tryz.results79 _ _ w.heap.size 93 _ (0, 0) _ rfl (setRow_heap _ _ _ _ _ _ Hg.out) Tryz.underlying93 rfl (by kernel_rfl)) rfl ⟨?_, ?_⟩
  · rfl
  · exact below_setRow ((below_alloc3 _ _ _ _).trans (hb.mono (by simp; omega))) (Nat.le_refl _) _
end Go.Proofs.YtoomnijgdpbphaaGreatDoor

namespace Go.Proofs.YtoomnijgdpbphaaGreatDoor
open Go.RowKit

theorem node_parts (w : World) (O : Obj) (a b : List UInt8) (ha : a.length = 8) (hb : b.length = 8) :
    Bss (((((w.alloc (.cells (hv a) 93)).alloc (.cells (hv b) 93)).alloc O).alloc (.cells #[.int .u8 1] 5)).alloc
      (.cells #[.slice (some ⟨w.heap.size + 1 + 1 + 1, 0, none⟩) 1 1, .slice (some ⟨w.heap.size, 0, none⟩) 8 8, .slice (some ⟨w.heap.size + 1, 0, none⟩) 8 8] 89)) (.slice (some ⟨w.heap.size + 1 + 1 + 1 + 1, 0, none⟩) 3 3) [[1], a, b] := by
  refine ⟨_, _, rfl, Nat.le_refl _, .inr ⟨_, _, rfl, fun i hi => ?_⟩⟩
  match i, hi with
  | 0, _ =>
    refine ⟨.slice (some ⟨w.heap.size + 1 + 1 + 1, 0, none⟩) 1 1, by rw [cell_new _ _ _ _ _ (by simp)]; rfl, ?_⟩
    exact (Bs.fresh _ [1] _ _ (by simp) 1).below (below_alloc _ _)
  | 1, _ =>
    refine ⟨.slice (some ⟨w.heap.size, 0, none⟩) 8 8, by rw [cell_new _ _ _ _ _ (by simp)]; rfl, ?_⟩
    have h := (Bs.fresh w a 93 _ rfl 8)
    rw [ha] at h
    exact (h.below (below_alloc3 _ _ _ _)).below (below_alloc _ _)
  | 2, _ =>
    refine ⟨.slice (some ⟨w.heap.size + 1, 0, none⟩) 8 8, by rw [cell_new _ _ _ _ _ (by simp)]; rfl, ?_⟩
    have h := (Bs.fresh (w.alloc (.cells (hv a) 93)) b 93 (w.heap.size + 1) (by simp) 8)
    rw [hb] at h
    exact h.below (below_alloc3 _ _ _ _)

theorem agg8 (l : List UInt8) (h : l.length = 8) : ∃ x0 x1 x2 x3 x4 x5 x6 x7 : Int, hv l = #[.int .u8 x0, .int .u8 x1, .int .u8 x2, .int .u8 x3, .int .u8 x4, .int .u8 x5, .int .u8 x6, .int .u8 x7] := by
  obtain ⟨b0, b1, b2, b3, b4, b5, b6, b7, rfl⟩ := hv8 l h
  exact ⟨_, _, _, _, _, _, _, _, rfl⟩

theorem below_set8 {B g : Nat} {a w : World} (h : Below B a w) (hg : B ≤ g) (v0 v1 v2 v3 v4 v5 v6 v7 : Value) :
    Below B a ((((((((w.setCell ⟨g, 0, none⟩ v0).setCell ⟨g, 1, none⟩ v1).setCell ⟨g, 2, none⟩ v2).setCell ⟨g, 3, none⟩ v3).setCell ⟨g, 4, none⟩ v4).setCell ⟨g, 5, none⟩ v5).setCell ⟨g, 6, none⟩ v6).setCell ⟨g, 7, none⟩ v7) :=
  (((((((h.setCell hg _).setCell hg _).setCell hg _).setCell hg _).setCell hg _).setCell hg _).setCell hg _).setCell hg _
/-- Eight cells of a block that is known. -/
theorem zeros8 {w : World} {g : Nat} {t : TypeId} (hg : w.heap[g]? = some (.cells #[Value.int IntKind.u8 0, Value.int IntKind.u8 0, Value.int IntKind.u8 0, Value.int IntKind.u8 0, Value.int IntKind.u8 0, Value.int IntKind.u8 0, Value.int IntKind.u8 0, Value.int IntKind.u8 0] t (0, 0))) :
    (w.cell? ⟨g, 0, none⟩ = some (.int .u8 0) ∧ w.cell? ⟨g, 1, none⟩ = some (.int .u8 0) ∧ w.cell? ⟨g, 2, none⟩ = some (.int .u8 0) ∧ w.cell? ⟨g, 3, none⟩ = some (.int .u8 0) ∧ w.cell? ⟨g, 4, none⟩ = some (.int .u8 0) ∧ w.cell? ⟨g, 5, none⟩ = some (.int .u8 0) ∧ w.cell? ⟨g, 6, none⟩ = some (.int .u8 0) ∧ w.cell? ⟨g, 7, none⟩ = some (.int .u8 0)) ∧ ∀ j, w.frozen? ⟨g, j, none⟩ = false := by
  refine ⟨⟨?_, ?_, ?_, ?_, ?_, ?_, ?_, ?_⟩, fun j => frozen_of_row _ _ _ _ _ hg⟩ <;> (rw [cell_of_row _ _ _ _ _ _ hg]; rfl)

theorem node_call (a b : List UInt8) (w : World) (ha : a.length = 8) (hb : b.length = 8) {xs : Array Value} (hx : hv (nodeH a b) = xs) :
    Calls Tryz.prog 78 #[.slice (some ⟨w.heap.size + 1 + 1 + 1 + 1, 0, none⟩) 3 3] (((((w.alloc (.cells (hv a) 93)).alloc (.cells (hv b) 93)).alloc (.cells #[Value.int IntKind.u8 0, Value.int IntKind.u8 0, Value.int IntKind.u8 0, Value.int IntKind.u8 0, Value.int IntKind.u8 0, Value.int IntKind.u8 0, Value.int IntKind.u8 0, Value.int IntKind.u8 0] 93)).alloc (.cells #[.int .u8 1] 5)).alloc
      (.cells #[.slice (some ⟨w.heap.size + 1 + 1 + 1, 0, none⟩) 1 1, .slice (some ⟨w.heap.size, 0, none⟩) 8 8, .slice (some ⟨w.heap.size + 1, 0, none⟩) 8 8] 89)).drew
      fun e w' => e = .returned (.agg xs) ∧ ((w'.cell? ⟨w.heap.size + 1 + 1, 0, none⟩ = some (.int .u8 0) ∧ w'.cell? ⟨w.heap.size + 1 + 1, 1, none⟩ = some (.int .u8 0) ∧ w'.cell? ⟨w.heap.size + 1 + 1, 2, none⟩ = some (.int .u8 0) ∧ w'.cell? ⟨w.heap.size + 1 + 1, 3, none⟩ = some (.int .u8 0) ∧ w'.cell? ⟨w.heap.size + 1 + 1, 4, none⟩ = some (.int .u8 0) ∧ w'.cell? ⟨w.heap.size + 1 + 1, 5, none⟩ = some (.int .u8 0) ∧ w'.cell? ⟨w.heap.size + 1 + 1, 6, none⟩ = some (.int .u8 0) ∧ w'.cell? ⟨w.heap.size + 1 + 1, 7, none⟩ = some (.int .u8 0)) ∧ ∀ j, w'.frozen? ⟨w.heap.size + 1 + 1, j, none⟩ = false) ∧ Hid (Below w.heap.size w w') := by
  refine (hashOf_any _ [[1], a, b] _ (by unfold maxLen; simp) ?_ (by exact node_parts w _ a b ha hb)).mono ?_
  · intro l hl
    simp at hl
    rcases hl with rfl | rfl | rfl <;> simp [maxLen, *]
  rintro r w' ⟨hr, hbe⟩
  refine ⟨?_, zeros8 (t := 93) ?_, ?_⟩
  · rw [hr, ← hx]; simp [nodeH]
  · rw [hbe.block _ (by simp)]
    exact heap_alloc_old (heap_alloc_old (by rw [show w.heap.size + 1 + 1 = ((w.alloc (.cells (hv a) 93)).alloc (.cells (hv b) 93)).heap.size by simp]; exact heap_alloc_last _ _))
  · refine Below.trans (b := (((((w.alloc (.cells (hv a) 93)).alloc (.cells (hv b) 93)).alloc (.cells #[Value.int IntKind.u8 0, Value.int IntKind.u8 0, Value.int IntKind.u8 0, Value.int IntKind.u8 0, Value.int IntKind.u8 0, Value.int IntKind.u8 0, Value.int IntKind.u8 0, Value.int IntKind.u8 0] 93)).alloc (.cells #[.int .u8 1] 5)).alloc
      (.cells #[.slice (some ⟨w.heap.size + 1 + 1 + 1, 0, none⟩) 1 1, .slice (some ⟨w.heap.size, 0, none⟩) 8 8, .slice (some ⟨w.heap.size + 1, 0, none⟩) 8 8] 89)).drew) ?_ (hbe.mono (by simp; omega))
    exact ((below_alloc3 w _ _ _).trans ((below_alloc2 _ _ _).mono (by simp; omega))).drew

set_option maxHeartbeats 1000000 in
theorem node_any (a b : List UInt8) (w : World) (ha : a.length = 8) (hb : b.length = 8) :
    Calls Tryz.prog 81 #[.agg (hv a), .agg (hv b)] w fun r w' => r = .returned (.agg (hv (nodeH a b))) ∧ Below w.heap.size w w' := by
  obtain ⟨x0, x1, x2, x3, x4, x5, x6, x7, hx⟩ := agg8 (nodeH a b) (nodeH_length a b)
  have Hx := hide hx
  have Ha := hide ha
  have Hb := hide hb
  clear ha hb hx
  go_enter Tryz.func81, Tryz.ntmps81
  go_wp2_with fail
  go_region_with (go_at_call 78; (refine (node_call a b w Ha.out Hb.out Hx.out).mono ?_; rintro e w' ⟨rfl, ⟨⟨c0, c1, c2, c3, c4, c5, c6, c7⟩, hf⟩, HB⟩))
  go_wp2
  refine bodyPost_ret (v := .agg #[.int .u8 x0, .int .u8 x1, .int .u8 x2, .int .u8 x3, .int .u8 x4, .int .u8 x5, .int .u8 x6, .int .u8 x7]) (by simp [results, Tryz.results81, go_sem, c0, c1, c2, c3, c4, c5, c6, c7]) rfl ⟨by rw [Hx.out], ?_⟩
  exact below_set8 HB.out (by omega) _ _ _ _ _ _ _ _
end Go.Proofs.YtoomnijgdpbphaaGreatDoor
