
import Derived.Test.YtfgbghmefomolaaNodeWalks
import Derived.Test.YtfgbghmefomolaaNumWalks
namespace Go.Proofs.Ytfgbghmefomolaa
open Go.RowKit

set_option maxHeartbeats 1000000 in
/-- No entry. -/
theorem root_none (f : Nat) (v : Value) (ls : List (List UInt8)) (w : World) (h0 : ls.length = 0) (h : Bss w v ls) :
    Calls Try.prog 24 #[v] w fun r w' => r = .returned (.agg (hv (rootF f ls))) ∧ Below w.heap.size w w' := by
  obtain ⟨a, cap, rfl, hcap, -⟩ := h
  rw [rootF_nil f ls h0, h0]
  clear hcap
  go_enter Try.func24, Try.ntmps24
  go_wp2_with fail
  refine (hashOf_any _ [] _ (by simp) (fun l hl => by simp at hl) ⟨none, 0, rfl, Nat.le_refl _, .inl rfl⟩).mono ?_
  rintro r w' ⟨hr, hb⟩
  have hr' : r = .returned (.agg (hv (hash []))) := hr
  clear hr
  subst hr'
  have hg : w'.heap[w.heap.size]? = some (.cells #[Value.int IntKind.u8 0, Value.int IntKind.u8 0, Value.int IntKind.u8 0, Value.int IntKind.u8 0, Value.int IntKind.u8 0, Value.int IntKind.u8 0, Value.int IntKind.u8 0, Value.int IntKind.u8 0] 38 (0, 0)) := by
    rw [hb.block _ (by simp)]; exact heap_alloc_last _ _
  have Hg := hide hg
  clear hg
  go_wp2_with (refine wpList_store_row rfl 38 _ _ rfl w.heap.size (hv (hash [])) rfl rfl 38 _ Hg.out (by kernel_rfl) rfl (hv_one _) ?_)
  refine bodyPost_ret (v := .agg (hv (hash []))) (results_cell_row Try.results24 _ _ w.heap.size 38 _ (0, 0) _ rfl (setRow_heap _ _ _ _ _ _ Hg.out) Try.underlying38 rfl (by kernel_rfl)) rfl ⟨rfl, ?_⟩
  exact below_setRow ((below_alloc _ _).trans (hb.mono (by simp))) (Nat.le_refl _) _

set_option maxHeartbeats 1000000 in
/-- One entry. -/
theorem root_one (f : Nat) (v : Value) (ls : List (List UInt8)) (w : World) (h1 : ls.length = 1) (hl : ∀ l ∈ ls, l.length ≤ maxLen) (h : Bss w v ls) :
    Calls Try.prog 24 #[v] w fun r w' => r = .returned (.agg (hv (rootF (f + 1) ls))) ∧ Below w.heap.size w w' := by
  rw [rootF_one f ls h1]
  obtain ⟨e, rfl⟩ := List.length_eq_one_iff.1 h1
  obtain ⟨a, cap, rfl, hcap, h⟩ := h
  rcases h with h | ⟨b, off, rfl, hc⟩
  · simp at h
  obtain ⟨x, hx, hbs⟩ := hc 0 (by simp)
  have He := hide (hl e (by simp))
  have Hb : Hid (Bs w x e) := hbs
  clear hcap hc hbs hl
  have hz : ∀ o, (w.alloc o).cell? ⟨b, off, none⟩ = some x := fun o => by rw [cell_old _ _ ⟨b, off, none⟩ (cell_lt (p := ⟨b, off + 0, none⟩) hx)]; exact hx
  clear hx
  simp only [List.length_singleton, List.headD_cons] at *
  go_enter Try.func24, Try.ntmps24
  go_wp2_with fail
  refine (leaf_any x e _ He.out (Hb.out.below (below_alloc _ _))).mono ?_
  rintro r w' ⟨rfl, hb⟩
  have hg : w'.heap[w.heap.size]? = some (.cells #[Value.int IntKind.u8 0, Value.int IntKind.u8 0, Value.int IntKind.u8 0, Value.int IntKind.u8 0, Value.int IntKind.u8 0, Value.int IntKind.u8 0, Value.int IntKind.u8 0, Value.int IntKind.u8 0] 38 (0, 0)) := by
    rw [hb.block _ (by simp)]; exact heap_alloc_last _ _
  have Hg := hide hg
  clear hg
  go_wp2_with (refine wpList_store_row rfl 38 _ _ rfl w.heap.size (hv (leafH e)) rfl rfl 38 _ Hg.out (by kernel_rfl) rfl (hv_one _) ?_)
  refine bodyPost_ret (v := .agg (hv (leafH e))) (results_cell_row Try.results24 _ _ w.heap.size 38 _ (0, 0) _ rfl (setRow_heap _ _ _ _ _ _ Hg.out) Try.underlying38 rfl (by kernel_rfl)) rfl ⟨rfl, ?_⟩
  exact below_setRow ((below_alloc _ _).trans (hb.mono (by simp))) (Nat.le_refl _) _

/-- A call's own block for its result, untouched; all that was there as it was. -/
def Own (w w1 : World) : Prop := Below w.heap.size w w1 ∧ w1.heap[w.heap.size]? = some (.cells #[Value.int IntKind.u8 0, Value.int IntKind.u8 0, Value.int IntKind.u8 0, Value.int IntKind.u8 0, Value.int IntKind.u8 0, Value.int IntKind.u8 0, Value.int IntKind.u8 0, Value.int IntKind.u8 0] 38 (0, 0))
theorem Own.start (w : World) : Own w (w.alloc (.cells #[Value.int IntKind.u8 0, Value.int IntKind.u8 0, Value.int IntKind.u8 0, Value.int IntKind.u8 0, Value.int IntKind.u8 0, Value.int IntKind.u8 0, Value.int IntKind.u8 0, Value.int IntKind.u8 0] 38)).drew :=
  ⟨(below_alloc _ _).drew, heap_alloc_last _ _⟩
theorem Own.next {w w1 w2 : World} (h : Own w w1) (hb : Below w1.heap.size w1 w2) : Own w w2 := by
  have hs := h.1.size
  have hlt : w.heap.size < w1.heap.size := by
    rcases Nat.lt_or_ge w.heap.size w1.heap.size with h' | h'
    · exact h'
    · have := h.2; simp [Array.getElem?_eq_none h'] at this
  exact ⟨h.1.trans (hb.mono hs), by rw [hb.block _ hlt]; exact h.2⟩

set_option maxHeartbeats 1000000 in
theorem root_more (f : Nat) (b off cap : Nat) (ls : List (List UInt8)) (w : World) (h2 : 2 ≤ ls.length) (hn : ls.length ≤ 1000000) (hcap : ls.length ≤ cap) (hl : ∀ l ∈ ls, l.length ≤ maxLen) (h : Bss w (.slice (some ⟨b, off, none⟩) ls.length cap) ls)
    (ih : ∀ (v : Value) (ls : List (List UInt8)) (w : World), ls.length ≤ f → ls.length ≤ 1000000 → (∀ l ∈ ls, l.length ≤ maxLen) → Bss w v ls → Calls Try.prog 24 #[v] w fun r w' => r = .returned (.agg (hv (rootF f ls))) ∧ Below w.heap.size w w') (hf : ls.length ≤ f + 1) :
    Calls Try.prog 24 #[.slice (some ⟨b, off, none⟩) ls.length cap] w fun r w' => r = .returned (.agg (hv (rootF (f + 1) ls))) ∧ Below w.heap.size w w' := by
  obtain ⟨k1, k2, k3⟩ := kOf_spec ls.length h2
  rw [rootF_more f ls h2]
  have hk : kOf ls.length ≤ ls.length := by omega
  obtain ⟨x0, x1, x2, x3, x4, x5, x6, x7, hx⟩ := agg8 (nodeH (rootF f (ls.take (kOf ls.length))) (rootF f (ls.drop (kOf ls.length)))) (nodeH_length _ _)
  have Hx := hide hx
  have Hl := hide hl
  have H := hide h
  have IH := hide ih
  have f1 : (ls.take (kOf ls.length)).length ≤ f := by simp; omega
  have f2 : (ls.drop (kOf ls.length)).length ≤ f := by simp; omega
  have f3 : (ls.take (kOf ls.length)).length ≤ 1000000 := by simp; omega
  have f4 : (ls.drop (kOf ls.length)).length ≤ 1000000 := by simp; omega
  have F := hide (And.intro f1 (And.intro f2 (And.intro f3 f4)))
  clear f1 f2 f3 f4
  have n1 : ((ls.length : Int) == 0) = false := beq_eq_false_iff_ne.2 (by omega)
  have n2 : ((ls.length : Int) == 1) = false := beq_eq_false_iff_ne.2 (by omega)
  clear hx hl h ih
  go_enter Try.func24, Try.ntmps24
  go_wp2_with fail
  refine (split_any ls.length _ h2 (Nat.le_trans hn (by decide))).mono ?_
  rintro e w' ⟨rfl, rfl⟩
  have c1 : (kOf ls.length : Int) ≤ (cap : Int) := by omega
  have c2 : (kOf ls.length : Int) ≤ (ls.length : Int) := by omega
  have c3 : (0 : Int) ≤ (kOf ls.length : Int) := by omega
  go_wp2_with fail
  go_region_with (first
    | (go_at_call_of 24 (Value.slice (some (⟨b, off, none⟩ : Addr)) (kOf ls.length) cap); refine (IH.out _ (ls.take (kOf ls.length)) _ F.out.1 F.out.2.2.1 (fun l hl => Hl.out l (List.mem_of_mem_take hl)) (by exact (H.out.take _ hk).below (Own.start w).1)).mono ?_; rintro e w1 ⟨rfl, hb1⟩; have HO1 : Hid (Own w w1) := (Own.start w).next hb1; clear hb1)
    | (go_at_call_of 24 (Value.slice (some (⟨b, off + kOf ls.length, none⟩ : Addr)) (ls.length - kOf ls.length) (cap - kOf ls.length)); refine (IH.out _ (ls.drop (kOf ls.length)) _ F.out.2.1 F.out.2.2.2 (fun l hl => Hl.out l (List.mem_of_mem_drop hl)) (by exact (H.out.drop _ hk).below HO1.out.1)).mono ?_; rintro e w2 ⟨rfl, hb2⟩; have HO2 : Hid (Own w w2) := HO1.out.next hb2; clear hb2)
    | (go_at_call 40; refine (node_any _ _ _ (rootF_length _ _) (rootF_length _ _)).mono ?_; rintro e w3 ⟨hr, hb3⟩; rw [Hx.out] at hr; subst hr; have HO3 : Hid (Own w w3) := HO2.out.next hb3; clear hb3; obtain ⟨⟨c0, c1, c2, c3, c4, c5, c6, c7⟩, hf⟩ := zeros8 HO3.out.2))
  go_wp2
  refine bodyPost_ret (v := .agg #[.int .u8 x0, .int .u8 x1, .int .u8 x2, .int .u8 x3, .int .u8 x4, .int .u8 x5, .int .u8 x6, .int .u8 x7]) (by simp [results, Try.results24, go_sem, c0, c1, c2, c3, c4, c5, c6, c7]) rfl ⟨by rw [Hx.out], ?_⟩
  exact below_set8 HO3.out.1 (Nat.le_refl _) _ _ _ _ _ _ _ _

theorem root_any (f : Nat) : ∀ (v : Value) (ls : List (List UInt8)) (w : World), ls.length ≤ f → ls.length ≤ 1000000 → (∀ l ∈ ls, l.length ≤ maxLen) → Bss w v ls →
    Calls Try.prog 24 #[v] w fun r w' => r = .returned (.agg (hv (rootF f ls))) ∧ Below w.heap.size w w' := by
  induction f with
  | zero => exact fun v ls w hf _ _ h => root_none 0 v ls w (by omega) h
  | succ f ih =>
    intro v ls w hf hn hl h
    by_cases h0 : ls.length = 0
    · exact root_none _ v ls w h0 h
    by_cases h1 : ls.length = 1
    · exact root_one f v ls w h1 hl h
    · have h' := h
      obtain ⟨a, cap, rfl, hcap, h⟩ := h
      rcases h with h | ⟨b, off, rfl, -⟩
      · exact absurd (by simp [h]) h0
      · exact root_more f b off cap ls w (by omega) hn hcap hl h' ih hf
end Go.Proofs.Ytfgbghmefomolaa
