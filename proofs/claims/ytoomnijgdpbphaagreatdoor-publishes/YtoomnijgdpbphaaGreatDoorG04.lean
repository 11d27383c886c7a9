import Derived.Test.YtoomnijgdpbphaaGreatDoorG01
import Derived.Lib.Strings
import Derived.Lib.Slices
import Derived.Lib.Small
import Derived.Lib.Walk
import Derived.Lib.BitFns
import Derived.Test.YtoomnijgdpbphaaGreatDoorG03
import Derived.Test.YtoomnijgdpbphaaGreatDoorG02
import Derived.Shelf.SlicesQ.Load
import Derived.Deep.AppendLies
import Derived.Deep.RegionLaw

namespace Go.Proofs.YtoomnijgdpbphaaGreatDoor
open Go.RowKit

theorem bitLen_log (m : Nat) (h : m ≠ 0) (h' : m < 2 ^ 64) : Lib.bitLen m = m.log2 + 1 := by
  have h1 := Nat.log2_self_le h
  have h2 : m < 2 ^ (m.log2 + 1) := Nat.lt_log2_self
  rw [Lib.bitLen_shift m.log2 m h1 h']
  have e : m / 2 ^ m.log2 = 1 := by
    have hp : 0 < 2 ^ m.log2 := Nat.two_pow_pos _
    rw [Nat.pow_succ] at h2
    exact Nat.div_eq_of_lt_le (by omega) (by omega)
  rw [e]
  rfl

theorem tab_at (q : Int) (h0 : 0 ≤ q) (h1 : q < 256) (hs : q.toNat < Lib.len8tab.size) : ((Lib.len8tab[q.toNat]'hs).toNat : Int) = Lib.bitLen q.toNat := by
  rw [← Lib.len8_of q h0 (by omega)]
  unfold Lib.len8
  rw [getElem?_pos Lib.len8tab q.toNat hs]
  rfl

theorem len_way (c : Nat) (q : Int) (x : Nat) (hc : c ≤ 56) (h0 : 0 ≤ q) (h1 : q < 256) (hs : q.toNat < Lib.len8tab.size) (hx : Lib.bitLen x = c + Lib.bitLen q.toNat) :
    wrap64 (c + wrap64 ((Lib.len8tab[q.toNat]'hs).toNat : Int)) = (Lib.bitLen x : Int) := by
  rw [tab_at q h0 h1 hs, hx]
  have := Lib.bitLen_le8' q h0 (by omega)
  rw [show wrap64 (Lib.bitLen q.toNat : Int) = (Lib.bitLen q.toNat : Int) by unfold wrap64; omega]
  unfold wrap64
  omega

set_option maxHeartbeats 4000000 in
set_option maxRecDepth 100000 in
theorem len64_any (x : Int) (w : World) (h0 : 0 ≤ x) (h1 : x ≤ 18446744073709551615) :
    Calls Tryz.prog 119 #[.int .u64 x] w fun e w' => e = .returned (.int .i64 (Lib.bitLen x.toNat)) ∧ w' = w := by
  have hsz : Lib.len8tab.size = 256 := Lib.len8tab_size
  go_enter Tryz.func119, Tryz.ntmps119
  go_wp2
  all_goals go_ret
  all_goals refine ⟨congrArg Ending.returned (congrArg (Value.int IntKind.i64) ?_), rfl⟩
  · exact len_way 56 _ _ (by omega) (by omega) (by omega) (by omega) (by rw [Lib.bitLen_shift56 x.toNat (by omega) (by omega)]; congr 2; omega)
  · exact len_way 48 _ _ (by omega) (by omega) (by omega) (by omega) (by rw [Lib.bitLen_shift48 x.toNat (by omega) (by omega)]; congr 2; omega)
  · exact len_way 40 _ _ (by omega) (by omega) (by omega) (by omega) (by rw [Lib.bitLen_shift40 x.toNat (by omega) (by omega)]; congr 2; omega)
  · exact len_way 32 _ _ (by omega) (by omega) (by omega) (by omega) (by rw [Lib.bitLen_shift32 x.toNat (by omega) (by omega)]; congr 2; omega)
  · exact len_way 24 _ _ (by omega) (by omega) (by omega) (by omega) (by rw [Lib.bitLen_shift24 x.toNat (by omega) (by omega)]; congr 2; omega)
  · exact len_way 16 _ _ (by omega) (by omega) (by omega) (by omega) (by rw [Lib.bitLen_shift16 x.toNat (by omega) (by omega)]; congr 2; omega)
  · exact len_way 8 _ _ (by omega) (by omega) (by omega) (by omega) (by rw [Lib.bitLen_shift8 x.toNat (by omega) (by omega)]; congr 2; omega)
  · have := len_way 0 x x.toNat (by omega) (by omega) (by omega) (by omega) (by simp)
    simpa using this

set_option maxHeartbeats 400000 in
theorem len_any (x : Int) (w : World) (h0 : 0 ≤ x) (h1 : x ≤ 18446744073709551615) :
    Calls Tryz.prog 102 #[.int .u64 x] w fun e w' => e = .returned (.int .i64 (Lib.bitLen x.toNat)) ∧ w' = w := by
  go_enter Tryz.func102, Tryz.ntmps102
  go_wp2_with fail
  refine (len64_any x w h0 h1).mono ?_
  rintro e w' ⟨rfl, rfl⟩
  go_wp2_with fail
  go_ret
  exact ⟨rfl, rfl⟩

set_option maxHeartbeats 400000 in
theorem split_any (n : Nat) (w : World) (h0 : 2 ≤ n) (h1 : n ≤ 9223372036854775807) :
    Calls Tryz.prog 80 #[.int .i64 n] w fun e w' => e = .returned (.int .i64 (kOf n)) ∧ w' = w := by
  go_enter Tryz.func80, Tryz.ntmps80
  go_wp2_with fail
  refine (len_any ((n : Int) - 1) w (by omega) (by omega)).mono ?_
  rintro e w' ⟨hr, rfl⟩
  have hj : Lib.bitLen ((n : Int) - 1).toNat = (n - 1).log2 + 1 := by
    rw [show ((n : Int) - 1).toNat = n - 1 by omega]
    exact bitLen_log _ (by omega) (by omega)
  have hj62 : (n - 1).log2 ≤ 62 := by
    have := (Nat.log2_lt (n := n - 1) (k := 63) (by omega)).2 (by omega)
    omega
  rw [hj] at hr
  subst hr
  have Hk : Hid (kOf n = 2 ^ (n - 1).log2) := rfl
  clear hj
  generalize (n - 1).log2 = j at *
  go_wp2_with fail
  go_ret
  refine ⟨congrArg Ending.returned (congrArg (Value.int IntKind.i64) ?_), rfl⟩
  have h2 : 2 ^ j ≤ 2 ^ 62 := Nat.pow_le_pow_right (by omega) hj62
  have h3 : ((2 : Int) ^ j) = ((2 ^ j : Nat) : Int) := by simp
  rw [Hk.out]
  show wrap64 ((2 : Int) ^ j) = _
  rw [h3]
  generalize 2 ^ j = p at *
  unfold wrap64
  omega

set_option maxHeartbeats 400000 in
theorem below_any (n : Nat) (w : World) (h0 : 2 ≤ n) (h1 : n ≤ 9223372036854775807) :
    Calls Tryz.prog 65 #[.int .i64 n] w fun e w' => e = .returned (.int .i64 (kOf n)) ∧ w' = w := by
  go_enter Tryz.func65, Tryz.ntmps65
  go_wp2_with fail
  go_loop [3] (fun t => ∃ j : Nat, ∃ k : Nat, k = 2 ^ j ∧ k < n ∧ t = .int .i64 k) (fun t => n - (intOf t).toNat)
  case atStart => exact ⟨0, 1, rfl, by omega, rfl⟩
  case round =>
    obtain ⟨j, k, hk, hlt, rfl⟩ := hrel
    have Hk := hide hk
    have hpos : 1 ≤ k := by rw [hk]; exact Nat.one_le_two_pow
    clear hk
    by_cases hc : 2 * k < n
    · go_wp2
      go_round
      case rel => exact ⟨j + 1, 2 * k, by rw [Hk.out, Nat.pow_succ]; omega, by omega, by go_num⟩
      case measure => simp [intOf]; omega
    · go_wp2
      go_ret
      refine ⟨congrArg Ending.returned (congrArg (Value.int IntKind.i64) (congrArg Int.ofNat ?_)), rfl⟩
      rw [Hk.out]
      exact kOf_eq n j (by rw [← Hk.out]; omega) (by rw [Nat.pow_succ, ← Hk.out]; omega)
end Go.Proofs.YtoomnijgdpbphaaGreatDoor

namespace Go.Proofs.YtoomnijgdpbphaaGreatDoor
open Go.RowKit

set_option maxHeartbeats 1000000 in
/-- No entry. -/
theorem root_none (f : Nat) (v : Value) (ls : List (List UInt8)) (w : World) (h0 : ls.length = 0) (h : Bss w v ls) :
    Calls Tryz.prog 42 #[v] w fun r w' => r = .returned (.agg (hv (rootF f ls))) ∧ Below w.heap.size w w' := by
  obtain ⟨a, cap, rfl, hcap, -⟩ := h
  rw [rootF_nil f ls h0, h0]
  clear hcap
  go_enter Tryz.func42, Tryz.ntmps42
  go_wp2_with fail
  refine (hashOf_any _ [] _ (by simp) (fun l hl => by simp at hl) ⟨none, 0, rfl, Nat.le_refl _, .inl rfl⟩).mono ?_
  rintro r w' ⟨hr, hb⟩
  have hr' : r = .returned (.agg (hv (hash []))) := hr
  clear hr
  subst hr'
  have hg : w'.heap[w.heap.size]? = some (.cells #[Value.int IntKind.u8 0, Value.int IntKind.u8 0, Value.int IntKind.u8 0, Value.int IntKind.u8 0, Value.int IntKind.u8 0, Value.int IntKind.u8 0, Value.int IntKind.u8 0, Value.int IntKind.u8 0] 93 (0, 0)) := by
    rw [hb.block _ (by simp)]; exact heap_alloc_last _ _
  have Hg := hide hg
  clear hg
  go_wp2_with (refine wpList_store_row rfl 93 _ _ rfl w.heap.size (hv (hash [])) rfl rfl 93 _ Hg.out (by kernel_rfl) rfl (hv_one _) ?_)
  refine bodyPost_ret (v := .agg (hv (hash []))) (results_cell_row Tryz.results42 _ _ w.heap.size 93 _ (0, 0) _ rfl (setRow_heap _ _ _ _ _ _ Hg.out) Tryz.underlying93 rfl (by kernel_rfl)) rfl ⟨rfl, ?_⟩
  exact below_setRow ((below_alloc _ _).trans (hb.mono (by simp))) (Nat.le_refl _) _

set_option maxHeartbeats 1000000 in
/-- One entry. -/
theorem root_one (f : Nat) (v : Value) (ls : List (List UInt8)) (w : World) (h1 : ls.length = 1) (hl : ∀ l ∈ ls, l.length ≤ maxLen) (h : Bss w v ls) :
    Calls Tryz.prog 42 #[v] w fun r w' => r = .returned (.agg (hv (rootF (f + 1) ls))) ∧ Below w.heap.size w w' := by
  rw [rootF_one f ls h1]
  obtain ⟨e, rfl⟩ := List.length_eq_one_iff.1 h1
  obtain ⟨a, cap, rfl, hcap, h⟩ := h
  rcases h with h | ⟨b, off, rfl, hc⟩
  · simp at h
  obtain ⟨x, hx, hbs⟩ := hc 0 (by simp)
  have He := hide (hl e (by simp))
  have Hb : Hid (Bs w x e) := hbs
  clear hcap hc hbs hl
  have hz : ∀ o, (w.alloc o).cell? ⟨b, off, none⟩ = some x := fun o => by rw [cell_old _ _ ⟨b, off, none⟩ (cell_lt (p := ⟨b, off + 0, none⟩) hx)]; exact hx
  clear hx
  simp only [List.length_singleton, List.headD_cons] at *
  go_enter Tryz.func42, Tryz.ntmps42
  go_wp2_with fail
  refine (leaf_any x e _ He.out (Hb.out.below (below_alloc _ _))).mono ?_
  rintro r w' ⟨rfl, hb⟩
  have hg : w'.heap[w.heap.size]? = some (.cells #[Value.int IntKind.u8 0, Value.int IntKind.u8 0, Value.int IntKind.u8 0, Value.int IntKind.u8 0, Value.int IntKind.u8 0, Value.int IntKind.u8 0, Value.int IntKind.u8 0, Value.int IntKind.u8 0] 93 (0, 0)) := by
    rw [hb.block _ (by simp)]; exact heap_alloc_last _ _
  have Hg := hide hg
  clear hg
  go_wp2_with (refine wpList_store_row rfl 93 _ _ rfl w.heap.size (hv (leafH e)) rfl rfl 93 _ Hg.out (by kernel_rfl) rfl (hv_one _) ?_)
  refine bodyPost_ret (v := .agg (hv (leafH e))) (results_cell_row Tryz.results42 _ _ w.heap.size 93 _ (0, 0) _ rfl (setRow_heap _ _ _ _ _ _ Hg.out) Tryz.underlying93 rfl (by kernel_rfl)) rfl ⟨rfl, ?_⟩
  exact below_setRow ((below_alloc _ _).trans (hb.mono (by simp))) (Nat.le_refl _) _

/-- A call's own block for its result, untouched; all that was there as it was. -/
def Own (w w1 : World) : Prop := Below w.heap.size w w1 ∧ w1.heap[w.heap.size]? = some (.cells #[Value.int IntKind.u8 0, Value.int IntKind.u8 0, Value.int IntKind.u8 0, Value.int IntKind.u8 0, Value.int IntKind.u8 0, Value.int IntKind.u8 0, Value.int IntKind.u8 0, Value.int IntKind.u8 0] 93 (0, 0))
theorem Own.start (w : World) : Own w (w.alloc (.cells #[Value.int IntKind.u8 0, Value.int IntKind.u8 0, Value.int IntKind.u8 0, Value.int IntKind.u8 0, Value.int IntKind.u8 0, Value.int IntKind.u8 0, Value.int IntKind.u8 0, Value.int IntKind.u8 0] 93)).drew :=
  ⟨(below_alloc _ _).drew, heap_alloc_last _ _⟩
theorem Own.next {w w1 w2 : World} (h : Own w w1) (hb : Below w1.heap.size w1 w2) : Own w w2 := by
  have hs := h.1.size
  have hlt : w.heap.size < w1.heap.size := by
    rcases Nat.lt_or_ge w.heap.size w1.heap.size with h' | h'
    · exact h'
    · have := h.2; simp [Array.getElem?_eq_none h'] at this
  exact ⟨h.1.trans (hb.mono hs), by rw [hb.block _ hlt]; exact h.2⟩

set_option maxHeartbeats 1000000 in
theorem root_more (f : Nat) (b off cap : Nat) (ls : List (List UInt8)) (w : World) (h2 : 2 ≤ ls.length) (hn : ls.length ≤ 1000000) (hcap : ls.length ≤ cap) (hl : ∀ l ∈ ls, l.length ≤ maxLen) (h : Bss w (.slice (some ⟨b, off, none⟩) ls.length cap) ls)
    (ih : ∀ (v : Value) (ls : List (List UInt8)) (w : World), ls.length ≤ f → ls.length ≤ 1000000 → (∀ l ∈ ls, l.length ≤ maxLen) → Bss w v ls → Calls Tryz.prog 42 #[v] w fun r w' => r = .returned (.agg (hv (rootF f ls))) ∧ Below w.heap.size w w') (hf : ls.length ≤ f + 1) :
    Calls Tryz.prog 42 #[.slice (some ⟨b, off, none⟩) ls.length cap] w fun r w' => r = .returned (.agg (hv (rootF (f + 1) ls))) ∧ Below w.heap.size w w' := by
  obtain ⟨k1, k2, k3⟩ := kOf_spec ls.length h2
  rw [rootF_more f ls h2]
  have hk : kOf ls.length ≤ ls.length := by omega
  obtain ⟨x0, x1, x2, x3, x4, x5, x6, x7, hx⟩ := agg8 (nodeH (rootF f (ls.take (kOf ls.length))) (rootF f (ls.drop (kOf ls.length)))) (nodeH_length _ _)
  have Hx := hide hx
  have Hl := hide hl
  have H := hide h
  have IH := hide ih
  have f1 : (ls.take (kOf ls.length)).length ≤ f := by simp; omega
  have f2 : (ls.drop (kOf ls.length)).length ≤ f := by simp; omega
  have f3 : (ls.take (kOf ls.length)).length ≤ 1000000 := by simp; omega
  have f4 : (ls.drop (kOf ls.length)).length ≤ 1000000 := by simp; omega
  have F := hide (And.intro f1 (And.intro f2 (And.intro f3 f4)))
  clear f1 f2 f3 f4
  have n1 : ((ls.length : Int) == 0) = false := beq_eq_false_iff_ne.2 (by omega)
  have n2 : ((ls.length : Int) == 1) = false := beq_eq_false_iff_ne.2 (by omega)
  clear hx hl h ih
  go_enter Tryz.func42, Tryz.ntmps42
  go_wp2_with fail
  refine (split_any ls.length _ h2 (Nat.le_trans hn (by decide))).mono ?_
  rintro e w' ⟨rfl, rfl⟩
  have c1 : (kOf ls.length : Int) ≤ (cap : Int) := by omega
  have c2 : (kOf ls.length : Int) ≤ (ls.length : Int) := by omega
  have c3 : (0 : Int) ≤ (kOf ls.length : Int) := by omega
  go_wp2_with fail
  go_region_with (first
    | (go_at_call_of 42 (Value.slice (some (⟨b, off, none⟩ : Addr)) (kOf ls.length) cap); refine (IH.out _ (ls.take (kOf ls.length)) _ F.out.1 F.out.2.2.1 (fun l hl => Hl.out l (List.mem_of_mem_take hl)) (by exact (H.out.take _ hk).below (Own.start w).1)).mono ?_; rintro e w1 ⟨rfl, hb1⟩; have HO1 : Hid (Own w w1) := (Own.start w).next hb1; clear hb1)
    | (go_at_call_of 42 (Value.slice (some (⟨b, off + kOf ls.length, none⟩ : Addr)) (ls.length - kOf ls.length) (cap - kOf ls.length)); refine (IH.out _ (ls.drop (kOf ls.length)) _ F.out.2.1 F.out.2.2.2 (fun l hl => Hl.out l (List.mem_of_mem_drop hl)) (by exact (H.out.drop _ hk).below HO1.out.1)).mono ?_; rintro e w2 ⟨rfl, hb2⟩; have HO2 : Hid (Own w w2) := HO1.out.next hb2; clear hb2)
    | (go_at_call 81; refine (node_any _ _ _ (rootF_length _ _) (rootF_length _ _)).mono ?_; rintro e w3 ⟨hr, hb3⟩; rw [Hx.out] at hr; subst hr; have HO3 : Hid (Own w w3) := HO2.out.next hb3; clear hb3; obtain ⟨⟨c0, c1, c2, c3, c4, c5, c6, c7⟩, hf⟩ := zeros8 HO3.out.2))
  go_wp2
  refine bodyPost_ret (v := .agg #[.int .u8 x0, .int .u8 x1, .int .u8 x2, .int .u8 x3, .int .u8 x4, .int .u8 x5, .int .u8 x6, .int .u8 x7]) (by simp [results, Tryz.results42, go_sem, c0, c1, c2, c3, c4, c5, c6, c7]) rfl ⟨by rw [Hx.out], ?_⟩
  exact below_set8 HO3.out.1 (Nat.le_refl _) _ _ _ _ _ _ _ _

theorem root_any (f : Nat) : ∀ (v : Value) (ls : List (List UInt8)) (w : World), ls.length ≤ f → ls.length ≤ 1000000 → (∀ l ∈ ls, l.length ≤ maxLen) → Bss w v ls →
    Calls Tryz.prog 42 #[v] w fun r w' => r = .returned (.agg (hv (rootF f ls))) ∧ Below w.heap.size w w' := by
  induction f with
  | zero => exact fun v ls w hf _ _ h => root_none 0 v ls w (by omega) h
  | succ f ih =>
    intro v ls w hf hn hl h
    by_cases h0 : ls.length = 0
    · exact root_none _ v ls w h0 h
    by_cases h1 : ls.length = 1
    · exact root_one f v ls w h1 hl h
    · have h' := h
      obtain ⟨a, cap, rfl, hcap, h⟩ := h
      rcases h with h | ⟨b, off, rfl, -⟩
      · exact absurd (by simp [h]) h0
      · exact root_more f b off cap ls w (by omega) hn hcap hl h' ih hf
end Go.Proofs.YtoomnijgdpbphaaGreatDoor

namespace Go.Proofs.YtoomnijgdpbphaaGreatDoor
open Go.RowKit
set_option maxRecDepth 100000

theorem fcells_at (fs : Fs) : ∀ (j : Nat) (h : j < fs.length), (fcells fs)[j * 2]? = some (txv fs[j].1) ∧ (fcells fs)[j * 2 + 1]? = some (txv fs[j].2) := by
  induction fs with
  | nil => intro j h; simp at h
  | cons f r ih =>
    intro j h
    have e : fcells (f :: r) = txv f.1 :: txv f.2 :: fcells r := by simp [fcells]
    cases j with
    | zero => rw [e]; exact ⟨rfl, rfl⟩
    | succ j =>
      rw [e, show (j + 1) * 2 = j * 2 + 1 + 1 by omega]
      have := ih j (by simpa using h)
      simpa using this
theorem fcells_len (fs : Fs) : (fcells fs).length = fs.length * 2 := by
  induction fs with
  | nil => rfl
  | cons f r ih => simp [fcells] at ih ⊢; omega
theorem fcells_set : ∀ (fs : Fs) (k : Nat) (p x : List UInt8) (hk : k < fs.length), fs[k].1 = p → fcells (fs.set k (p, x)) = (fcells fs).set (k * 2 + 1) (txv x)
  | [], k, _, _, hk, _ => by simp at hk
  | f :: r, 0, p, x, _, e => by
    obtain rfl : f.1 = p := by simpa using e
    simp [fcells]
  | f :: r, k + 1, p, x, hk, e => by
    have h := fcells_set r k p x (by simpa using hk) (by simpa using e)
    rw [List.set_cons_succ, show (k + 1) * 2 + 1 = k * 2 + 1 + 1 + 1 by omega]
    have e1 : ∀ l, fcells (f :: l) = txv f.1 :: txv f.2 :: fcells l := fun l => by simp [fcells]
    rw [e1, e1, h]
    rfl
theorem fcells_append (a b : Fs) : fcells (a ++ b) = fcells a ++ fcells b := by simp [fcells]
/-- The files' cells, where they lie. -/
def FilesIn (w : World) (t : TypeId) (v : Value) (fs : Fs) : Prop := ∃ a cap, v = .slice a fs.length cap ∧ (fs.length = 0 ∨ ∃ g, a = some ⟨g, 0, none⟩ ∧ ∃ cur, w.heap[g]? = some (.cells cur t (0, 0)) ∧ fs.length ≤ cap ∧ cur.size = cap * 2 ∧ ∀ j (h : j < fs.length), cur[j * 2]? = some (txv fs[j].1) ∧ cur[j * 2 + 1]? = some (txv fs[j].2))
theorem files_in {w : World} {t : TypeId} {B : Nat} {v : Value} {fs : Fs} (h : w.ownsRow B t 2 v fs.length (fcells fs)) : FilesIn w t v fs := by
  rcases h.2 with ⟨rfl, h0⟩ | ⟨g, cap, cur, rfl, -, hg, hn, -, hs, ht⟩
  · exact ⟨none, 0, by rw [h0], .inl h0⟩
  · refine ⟨_, _, rfl, .inr ⟨g, rfl, cur, hg, hn, hs, fun j hj => ?_⟩⟩
    have e := fcells_at fs j hj
    rw [← ht, List.getElem?_take, List.getElem?_take, if_pos (by omega), if_pos (by omega)] at e
    simpa using e
theorem FilesIn.below {w w' : World} {t : TypeId} {v : Value} {fs : Fs} (h : FilesIn w t v fs) (hb : Below w.heap.size w w') : FilesIn w' t v fs := by
  obtain ⟨a, cap, e, h | ⟨g, ea, cur, hg, r⟩⟩ := h
  · exact ⟨a, cap, e, .inl h⟩
  · exact ⟨a, cap, e, .inr ⟨g, ea, cur, by rw [hb.block g (heap_some_lt hg)]; exact hg, r⟩⟩
theorem load2 {w : World} {g j : Nat} {a b : Value} (P : Program) (h0 : w.cell? ⟨g, j, none⟩ = some a) (h1 : w.cell? ⟨g, j + 1, none⟩ = some b) : Sem.run P (loadCellsFrom ⟨g, j, none⟩ 0 2 #[]) w = .ok #[a, b] w :=
  run_loadCellsFrom_list P _ _ [a, b] 2 rfl (fun i v hi => by
    rw [Addr.add_lit]
    match i, hi with
    | 0, hi => simp at hi; subst hi; exact h0
    | 1, hi => simp at hi; subst hi; exact h1
    | i + 2, hi => simp at hi)

set_option maxHeartbeats 400000 in
theorem pred_any (q : List UInt8) (B : Nat) (f : List UInt8 × List UInt8) (w : World) (hB : w.cell? ⟨B, 0, none⟩ = some (txv q)) :
    Calls Tryz.prog 53 #[.agg #[txv f.1, txv f.2], .pointer (some ⟨B, 0, none⟩)] w fun r w' => r = .returned (.bool (decide (f.1 = q))) ∧ Below w.heap.size w w' := by
  have hb := cell_lt hB
  unfold txv at *
  have hB' : ∀ o, (w.alloc o).cell? ⟨B, 0, none⟩ = some (.string ⟨q.toArray⟩) := fun o => by rw [cell_old _ _ ⟨_, 0, none⟩ hb]; exact hB
  clear hB
  go_enter Tryz.func53, Tryz.ntmps53
  go_wp2_with fail
  go_ret
  exact ⟨congrArg (fun b => Ending.returned (.bool b)) (by show (f.1 == q) = _; rw [Bool.eq_iff_iff]; simp), (Below.refl _ _).alloc (Nat.le_refl _) _⟩

/-- Where a path stands, as a number. -/
def ixI (fs : Fs) (p : List UInt8) : Int := match ixF fs p with
  | some i => i
  | none => -1

set_option maxHeartbeats 1000000 in
theorem index_any (q : List UInt8) (B : Nat) (v : Value) (fs : Fs) (w : World) (hn : fs.length ≤ 1000000000) (h : FilesIn w 36 v fs) (hB : w.cell? ⟨B, 0, none⟩ = some (txv q)) :
    Calls Tryz.prog 52 #[v, .func (.func 53) #[] #[.pointer (some ⟨B, 0, none⟩)]] w fun r w' => r = .returned (.int .i64 (ixI fs q)) ∧ Below w.heap.size w w' := by
  obtain ⟨a, cap, rfl, hc⟩ := h
  have HC := hide hc
  have HBc := hide hB
  clear hc hB
  have eg : ∀ args w, (callFunc 53 args).run Tryz.prog w = .ok (.enter 53 args) w := enters_of Tryz.func53 (by kernel_rfl) rfl
  go_enter Tryz.func52, Tryz.ntmps52
  go_wp2_with fail
  go_loopw [5, 8] (fun _ i wr => ∃ k : Nat, k ≤ fs.length ∧ i = .int .i64 k ∧ Below w.heap.size w wr ∧ ∀ j (hj : j < fs.length), j < k → fs[j].1 ≠ q) (fun _ i _ => fs.length - (intOf i).toNat)
  case atStart => exact ⟨0, Nat.zero_le _, rfl, Below.refl _ _, fun j _ hj => absurd hj (Nat.not_lt_zero _)⟩
  case round =>
    obtain ⟨k, hk, rfl, hbe, hno⟩ := hrel
    have HBe := hide hbe
    have HN := hide hno
    clear hbe hno
    by_cases hlt : k < fs.length
    · obtain ⟨g, rfl, cur, hg, hcap, hcs, hx⟩ : ∃ g, a = some ⟨g, 0, none⟩ ∧ ∃ cur, w.heap[g]? = some (.cells cur 36 (0, 0)) ∧ fs.length ≤ cap ∧ cur.size = cap * 2 ∧ ∀ j (h : j < fs.length), cur[j * 2]? = some (txv fs[j].1) ∧ cur[j * 2 + 1]? = some (txv fs[j].2) := by
        rcases HC.out with h0 | h0
        · omega
        · exact h0
      have hg' : wr.heap[g]? = some (.cells cur 36 (0, 0)) := by rw [HBe.out.block g (heap_some_lt hg)]; exact hg
      obtain ⟨x0, x1⟩ := hx k hlt
      have y0 : wr.cell? ⟨g, k * 2, none⟩ = some (txv fs[k].1) := by rw [cell_of_row _ _ _ _ _ _ hg']; exact x0
      have y1 : wr.cell? ⟨g, k * 2 + 1, none⟩ = some (txv fs[k].2) := by rw [cell_of_row _ _ _ _ _ _ hg']; exact x1
      unfold txv at y0 y1
      have hcall := pred_any q B fs[k] wr (by rw [HBe.out.cell (p := ⟨B, 0, none⟩) (cell_lt HBc.out)]; exact HBc.out)
      unfold txv at hcall
      clear hg hg' hx hcs x0 x1
      by_cases hq : fs[k].1 = q
      · have HI : Hid (ixF fs q = some k) := ixF_of hlt hq (fun j hj => HN.out j (by omega) hj)
        rw [show decide (fs[k].1 = q) = true by simp [hq]] at hcall
        clear hq
        generalize fs[k] = f at *
        go_wp2_with (go_at_fn 53; refine hcall.mono ?_; rintro e w' ⟨rfl, hb'⟩)
        go_ret
        exact ⟨by unfold ixI; rw [HI.out]; rfl, HBe.out.trans (hb'.mono HBe.out.size)⟩
      · rw [show decide (fs[k].1 = q) = false by simp [hq]] at hcall
        have HN' : Hid (∀ j (hj : j < fs.length), j < k + 1 → fs[j].1 ≠ q) := fun j hjl hjk => by
          rcases Nat.lt_or_ge j k with h | h
          · exact HN.out j hjl h
          · obtain rfl : j = k := by omega
            exact hq
        clear hq HN
        generalize fs[k] = f at *
        go_wp2_with (go_at_fn 53; refine hcall.mono ?_; rintro e w' ⟨rfl, hb'⟩)
        go_roundw
        case rel => exact ⟨k + 1, by omega, by go_num, HBe.out.trans (hb'.mono HBe.out.size), HN'.out⟩
        case measure => simp [intOf]; omega
    · go_wp2_with fail
      go_ret
      refine ⟨?_, HBe.out⟩
      have : ixF fs q = none := ixF_none_of (fun f hf => by
        obtain ⟨j, hj, rfl⟩ := List.getElem_of_mem hf
        exact HN.out j hj (by omega))
      unfold ixI
      rw [this]
      rfl

set_option maxHeartbeats 400000 in
theorem find_any (O : Nat → Prop) (b : Nat) (d : Dk) (q : List UInt8) (w : World) (hn : d.fs.length ≤ 1000000000) (h : DiskAt w O b d) :
    Calls Tryz.prog 22 #[dptr b, txv q] w fun r w' => r = .returned (.int .i64 (ixI d.fs q)) ∧ Below w.heap.size w w' := by
  obtain ⟨fv, hO, hb, hf, hg⟩ := h
  obtain ⟨c0, f0⟩ := (dall hb).1
  have hlt := heap_some_lt hb
  have HF := hide (files_in hf)
  clear hb hf hg
  unfold dptr txv
  have c0' : ∀ o, (w.alloc o).cell? ⟨b, 0, none⟩ = some fv := fun o => by rw [cell_old _ _ ⟨_, 0, none⟩ hlt]; exact c0
  go_enter Tryz.func22, Tryz.ntmps22
  go_wp2_with fail
  refine (index_any q w.heap.size fv d.fs _ hn (HF.out.below (below_alloc _ _)) (by simp [txv])).mono ?_
  rintro e w' ⟨rfl, hb'⟩
  have HB : Hid (Below w.heap.size w w') := (below_alloc w _).trans (hb'.mono (by simp))
  clear hb'
  go_wp2_with fail
  go_ret
  exact ⟨rfl, HB.out⟩

/-- Bytes in memory. -/
def Bq (w : World) (v : Value) (l : List UInt8) : Prop := ∃ g cap C fr, v = .slice (some ⟨g, 0, none⟩) l.length cap ∧ l.length ≤ cap ∧ w.heap[g]? = some (.cells C 5 fr) ∧ ∀ i (hi : i < l.length), C[i]? = some (bv l[i])
theorem Bq.turn {w w' : World} {O : Nat → Prop} {T : List Nat} {v : Value} {l : List UInt8} (h : Bq w v l) (ht : Turn O T w w') (hT : 5 ∉ T) : Bq w' v l := by
  obtain ⟨g, cap, C, fr, e, hl, hg, hc⟩ := h
  exact ⟨g, cap, C, fr, e, hl, ht.keep hg hT, hc⟩
theorem Bq.below {w w' : World} {v : Value} {l : List UInt8} (h : Bq w v l) (hb : Below w.heap.size w w') : Bq w' v l := h.turn (O := fun _ => False) (T := []) (.of_below hb) (by simp)
theorem Bq.conv {w : World} {v : Value} {l : List UInt8} (h : Bq w v l) : (convert 89 9 v).run Tryz.prog w = .ok (.string ⟨l.toArray⟩) w := by
  obtain ⟨g, cap, C, fr, rfl, -, hg, hc⟩ := h
  refine run_convert_bytes_back w _ _ 5 ⟨g, 0, none⟩ cap l Tryz.underlying89 Tryz.underlying5 Tryz.underlying9 (fun j hj => ?_)
  rw [Addr.add_mid, Nat.zero_add, cell_of_row _ _ _ _ _ _ hg]
  exact hc j hj
theorem infoFile : (Tryz.prog.info? 36).map (fun i => (i.zero, i.size, i.bytes)) = some (some (.agg #[.string ⟨#[]⟩, .string ⟨#[]⟩]), 2, 32) := by kernel_rfl

theorem set_end {O : Nat → Prop} {b : Nat} {d : Dk} {p x : List UInt8} {w w1 w3 : World} {fv : Value} {o : Obj} {g cap : Nat} (HT : Turn O [] w w1) (hO : O b) (HG : ∀ g, fv.ownBlock = some g → O g) (HF : w1.ownsRow 0 36 2 fv d.fs.length (fcells d.fs)) (HE : ixF d.fs p = none)
    (HOW : w3.ownsRow 0 36 2 (.slice (some ⟨g, 0, none⟩) (d.fs.length + 1) cap) (d.fs.length + 1) (fcells d.fs ++ [.string ⟨p.toArray⟩, .string ⟨x.toArray⟩])) (HGR : (w1.alloc o).drew.grownBy w3 fv.ownBlock) (HAT : fv.ownBlock = some g ∨ g = w1.heap.size + 1) (HB3 : w3.heap[b]? = some (.cells (dcells fv d) 69 (0, 0))) :
    Ending.returned (.tuple #[]) = .returned (.tuple #[]) ∧ Turn O dT w (w3.setCell ⟨b, 0, none⟩ (.slice (some ⟨g, 0, none⟩) (d.fs.length + 1) cap)) ∧ DiskAt (w3.setCell ⟨b, 0, none⟩ (.slice (some ⟨g, 0, none⟩) (d.fs.length + 1) cap)) (Ext O w (w3.setCell ⟨b, 0, none⟩ (.slice (some ⟨g, 0, none⟩) (d.fs.length + 1) cap))) b { d with fs := setF d.fs p x } := by
  have t0 : Turn O dT w w1 := HT.mono (fun _ h => h) (by simp)
  have t1 : Turn O dT w (w1.alloc o).drew := (t0.alloc o).drew
  have hf1 : (w1.alloc o).drew.ownsRow 0 36 2 fv d.fs.length (fcells d.fs) := World.ownsRow.alloc (w := w1) HF o
  have t2 : Turn O dT w w3 := t1.grown hf1 HGR (fun g' hg' => .inl (HG g' hg')) (by decide)
  have t3 := t2.set (o := 0) (.inl hO) HB3 (by decide) (.slice (some ⟨g, 0, none⟩) (d.fs.length + 1) cap)
  have hset : setF d.fs p x = d.fs ++ [(p, x)] := by unfold setF; rw [HE]
  have hgl : g < w3.heap.size := by
    rcases HOW.2 with ⟨e, -⟩ | ⟨g', cap', cur, e, -, hg, -⟩
    · simp at e
    · simp at e
      rw [e.1]
      exact heap_some_lt hg
  have hs3 : (w3.setCell ⟨b, 0, none⟩ (.slice (some ⟨g, 0, none⟩) (d.fs.length + 1) cap)).heap.size = w3.heap.size := by simp [World.setCell]
  have tb : Turn O dT1 w3 (w3.setCell ⟨b, 0, none⟩ (.slice (some ⟨g, 0, none⟩) (d.fs.length + 1) cap)) := (Turn.refl O dT1 w3).set (.inl hO) HB3 (by decide) _
  refine ⟨rfl, t3, .slice (some ⟨g, 0, none⟩) (d.fs.length + 1) cap, .inl hO, dset HB3 0 _, ?_, fun g' e => ?_⟩
  · show World.ownsRow _ 0 36 2 _ (setF d.fs p x).length (fcells (setF d.fs p x))
    rw [hset, fcells_append, List.length_append]
    exact ownsRow_turn HOW tb (by decide)
  · simp only [Value.ownBlock, Option.some.injEq] at e
    subst e
    rcases HAT with h | h
    · exact .inl (HG _ h)
    · have := t0.size
      exact .inr (by rw [hs3]; omega)

set_option maxHeartbeats 1000000 in
theorem set_any (O : Nat → Prop) (b : Nat) (d : Dk) (p x : List UInt8) (v : Value) (w : World) (hn : d.fs.length ≤ 1000000000) (h : DiskAt w O b d) (hv : Bq w v x) :
    Calls Tryz.prog 186 #[dptr b, txv p, v] w fun r w' => r = .returned (.tuple #[]) ∧ Turn O dT w w' ∧ DiskAt w' (Ext O w w') b { d with fs := setF d.fs p x } := by
  have HD := hide h
  have HV := hide hv
  clear h hv
  unfold dptr txv
  go_enter Tryz.func186, Tryz.ntmps186
  go_wp2_with fail
  refine (find_any O b d p w hn HD.out).mono ?_
  rintro e w1 ⟨rfl, hb1⟩
  have HT : Hid (Turn O [] w w1) := .of_below hb1
  have HD1 := hide (HD.out.stay HT.out (by decide) (by decide))
  have HV1 := hide (HV.out.below hb1)
  clear hb1
  cases e : ixF d.fs p with
  | some k =>
    have he : ixI d.fs p = k := by unfold ixI; rw [e]
    rw [he]
    obtain ⟨hk, hkp, -⟩ := ixF_some e
    obtain ⟨fv, hO, hb, hf, hg⟩ := HD1.out
    obtain ⟨c0, f0⟩ := (dall hb).1
    have hcv := Bq.conv (w := w1.drew) HV1.out
    rcases hf.2 with ⟨rfl, h0⟩ | ⟨g, cap, cur, rfl, -, hgg, hn', hm, hs, ht⟩
    · omega
    have c1 : ∃ u, w1.cell? ⟨g, k * 2 + 1, none⟩ = some u := by
      rw [cell_of_row _ _ _ _ _ _ hgg]
      exact ⟨cur[k * 2 + 1]'(by omega), by simp⟩
    have f1 : w1.frozen? ⟨g, k * 2 + 1, none⟩ = false := by simp [World.frozen?, hgg]
    obtain ⟨u, c1⟩ := c1
    have HG := hide hg
    have HGG := hide hgg
    have HB := hide hb
    have HS := hide (And.intro hs ht)
    have HF := hide hf
    have HE := hide e
    have HK := hide hkp
    clear hg hgg hb hs ht hf e hkp he HV HV1 HD HD1
    go_wp2_with fail
    go_region
    go_end0
    have t1 : Turn O dT w (w1.setCell ⟨g, k * 2 + 1, none⟩ (.string ⟨x.toArray⟩)) := (HT.out.mono (T' := dT) (fun _ h => h) (by simp)).set (.inl (HG.out g rfl)) HGG.out (by decide) _
    have hne : b ≠ g := fun e => by
      have h1 := HB.out
      rw [e, HGG.out] at h1
      simp at h1
    refine ⟨rfl, t1.drew, _, .inl hO, ?_, ?_, fun g' e => .inl (HG.out g' e)⟩
    · show (w1.setCell ⟨g, k * 2 + 1, none⟩ (.string ⟨x.toArray⟩)).heap[b]? = _
      rw [heap_setCell_other _ _ _ _ (by simpa using hne)]
      exact HB.out
    · have hset : setF d.fs p x = d.fs.set k (p, x) := by unfold setF; rw [HE.out]
      have hlen : (setF d.fs p x).length = d.fs.length := by rw [hset, List.length_set]
      show World.ownsRow _ 0 36 2 _ (setF d.fs p x).length (fcells (setF d.fs p x))
      rw [hlen]
      refine ⟨by rw [fcells_len, hlen], .inr ⟨g, cap, _, rfl, Nat.zero_le _, heap_setCell_same w1 g (k * 2 + 1) cur _ _ HGG.out, hn', hm, by rw [Array.size_setIfInBounds]; exact HS.out.1, ?_⟩⟩
      rw [hset, fcells_set d.fs k p x hk HK.out, ← HS.out.2, Array.toList_setIfInBounds, List.take_set]
      rfl
  | none =>
    have he : ixI d.fs p = -1 := by unfold ixI; rw [e]
    rw [he]
    obtain ⟨i, hi, hi'⟩ := Option.map_eq_some_iff.1 infoFile
    obtain ⟨hz0, hz1, hz2⟩ : i.zero = some (.agg #[.string ⟨#[]⟩, .string ⟨#[]⟩]) ∧ i.size = 2 ∧ i.bytes = 32 := by simpa using hi'
    clear hi'
    have HI := hide hi
    have HZ := hide (And.intro hz0 (And.intro hz1 hz2))
    clear hi hz0 hz1 hz2
    obtain ⟨fv, hO, hb, hf, hg⟩ := HD1.out
    obtain ⟨c0, f0⟩ := (dall hb).1
    have hcv := Bq.conv (w := w1.drew) HV1.out
    have HG := hide hg
    have HB := hide hb
    have HF := hide hf
    have HE := hide e
    have HF1 : Hid (∀ o, (w1.alloc o).drew.ownsRow 0 36 2 fv d.fs.length (fcells d.fs)) := fun o => World.ownsRow.alloc (w := w1) hf o
    have HB1 : Hid (∀ o, (w1.alloc o).drew.heap[b]? = some (.cells (dcells fv d) 69 (0, 0))) := fun o => heap_alloc_old (w := w1) hb
    have c0' : ∀ o, (w1.alloc o).cell? ⟨b, 0, none⟩ = some fv := fun o => by rw [cell_old _ _ ⟨_, 0, none⟩ (heap_some_lt hb)]; exact c0
    have HNE : Hid (∀ g, fv.ownBlock = some g → b ≠ g) := fun g hg e => by
      rcases hf.2 with ⟨rfl, -⟩ | ⟨g', cap, cur, rfl, -, hgg, -⟩
      · simp [Value.ownBlock] at hg
      · simp only [Value.ownBlock, Option.some.injEq] at hg
        subst hg
        rw [e, hgg] at hb
        simp at hb
    clear hg hb hf e he HV HV1 HD HD1
    go_wp2_with fail
    go_region_law (refine step_append_lies _ (by rfl) _ _ _ (by rfl) 0 36 i (.agg #[.string ⟨#[]⟩, .string ⟨#[]⟩]) 2 32 Tryz.underlying22 HI.out HZ.out.1 HZ.out.2.1 HZ.out.2.2 rfl (by omega) fv d.fs.length (fcells d.fs) (by rfl) (HF1.out _) ⟨w1.heap.size, 0, none⟩ 1 1 [.string ⟨p.toArray⟩, .string ⟨x.toArray⟩] (by rfl) rfl (World.news_of_block (heap_alloc_last _ _)) (by simp [Value.oneCell']) (by omega) (by unfold maxLen; omega) (by omega) (by omega) (w1.heap.size + 1) (by simp) ?_; intro g cap' w3 hown hgrow hat hltg; have hb3 : w3.heap[b]? = some (.cells (dcells fv d) 69 (0, 0)) := (by rw [hgrow.block b (heap_some_lt (HB1.out _)) (fun e => HNE.out b e.symm rfl)]; exact HB1.out _); obtain ⟨c3, f3⟩ := (dall hb3).1; have HOW := hide hown; have HGR := hide hgrow; have HAT := hide hat; have HB3 := hide hb3; clear hown hgrow hat hb3)
    all_goals go_end0
    all_goals exact set_end HT.out hO HG.out HF.out HE.out HOW.out HGR.out HAT.out HB3.out
end Go.Proofs.YtoomnijgdpbphaaGreatDoor
