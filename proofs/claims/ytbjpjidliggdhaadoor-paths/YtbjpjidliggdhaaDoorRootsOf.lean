
import Derived.Test.YtbjpjidliggdhaaDoorSpanWalks
namespace Go.Proofs.YtbjpjidliggdhaaDoor
open Go.RowKit
set_option maxRecDepth 100000

/-- A list of hashes of its own. -/
def OwnHs (B : Nat) (w : World) (x : Value) (ps : List (List UInt8)) : Prop := w.ownsRow B 48 8 x ps.length (flat ps)
def OwnH (w w' : World) (x : Value) (ps : List (List UInt8)) : Prop := OwnHs w.heap.size w' x ps
theorem flat_snoc (ps : List (List UInt8)) (p : List UInt8) : flat (ps ++ [p]) = flat ps ++ (hv p).toList := by simp [flat]

theorem spv_at (ss : List (Nat × Nat)) (i : Nat) (h : i < ss.length) : (spv ss)[i * 2]? = some (.int .i64 (ss[i].1 : Int)) ∧ (spv ss)[i * 2 + 1]? = some (.int .i64 (ss[i].2 : Int)) := by
  induction ss generalizing i with
  | nil => simp at h
  | cons s ss ih =>
    cases i with
    | zero => simp [spv]
    | succ i =>
      have := ih i (by simpa using h)
      have e : spv (s :: ss) = .int .i64 (s.1 : Int) :: .int .i64 (s.2 : Int) :: spv ss := by simp [spv]
      rw [e, show (i + 1) * 2 = i * 2 + 1 + 1 by omega]
      simpa using this
theorem spv_len (ss : List (Nat × Nat)) : (spv ss).length = ss.length * 2 := by
  induction ss with
  | nil => rfl
  | cons s ss ih =>
    have e : spv (s :: ss) = .int .i64 (s.1 : Int) :: .int .i64 (s.2 : Int) :: spv ss := by simp [spv]
    rw [e]; simp [ih]; omega
/-- Spans in memory. -/
def Sps (w : World) (v : Value) (ss : List (Nat × Nat)) : Prop :=
  ∃ a cap, v = .slice a ss.length cap ∧ ss.length ≤ cap ∧ (ss = [] ∨ ∃ b, a = some ⟨b, 0, none⟩ ∧ ∀ i (h : i < ss.length), w.cell? ⟨b, i * 2, none⟩ = some (.int .i64 (ss[i].1 : Int)) ∧ w.cell? ⟨b, i * 2 + 1, none⟩ = some (.int .i64 (ss[i].2 : Int)))
theorem sps_of_own {B : Nat} {w : World} {x : Value} {ss : List (Nat × Nat)} (h : OwnSp B w x ss) : Sps w x ss := by
  obtain ⟨h0, h | ⟨g, cap, cur, rfl, hB, hg, hc, hm, hz, ht⟩⟩ := h
  · obtain ⟨rfl, h1⟩ := h
    have : ss = [] := by
      cases ss with
      | nil => rfl
      | cons s ss => simp at h1
    subst this
    exact ⟨none, 0, rfl, Nat.le_refl _, .inl rfl⟩
  · refine ⟨_, cap, rfl, by omega, ?_⟩
    cases hs : ss with
    | nil => exact .inl rfl
    | cons s r =>
      rw [← hs]
      refine .inr ⟨g, rfl, fun i hi => ?_⟩
      obtain ⟨e1, e2⟩ := spv_at ss i hi
      have hl := spv_len ss
      have key : ∀ j, j < ss.length * 2 → w.cell? ⟨g, j, none⟩ = (spv ss)[j]? := by
        intro j hj
        rw [cell_of_row _ _ _ _ _ _ hg, ← ht]
        simp [hj]
      rw [key _ (by omega), key _ (by omega)]
      exact ⟨e1, e2⟩
theorem Sps.below {w w' : World} {v : Value} {ss : List (Nat × Nat)} (h : Sps w v ss) (hb : Below w.heap.size w w') : Sps w' v ss := by
  obtain ⟨a, cap, rfl, hcap, h⟩ := h
  refine ⟨a, cap, rfl, hcap, ?_⟩
  rcases h with h | ⟨b, rfl, hc⟩
  · exact .inl h
  · refine .inr ⟨b, rfl, fun i hi => ?_⟩
    obtain ⟨h1, h2⟩ := hc i hi
    exact ⟨by rw [hb.cell (p := ⟨b, i * 2, none⟩) (cell_lt (p := ⟨b, i * 2, none⟩) h1)]; exact h1, by rw [hb.cell (p := ⟨b, i * 2 + 1, none⟩) (cell_lt (p := ⟨b, i * 2 + 1, none⟩) h2)]; exact h2⟩

theorem Bss.run {w : World} {b off n cap : Nat} {es : List (List UInt8)} (h : Bss w (.slice (some ⟨b, off, none⟩) n cap) es) (a k : Nat) (hk : a + k ≤ es.length) : Bss w (.slice (some ⟨b, off + a, none⟩) k (cap - a)) (run es (a, k)) := by
  have h1 := h.drop a (by omega)
  have := h1.take k (by simp; omega)
  exact this

set_option maxHeartbeats 8000000 in
theorem rootsOf_some (b off cap : Nat) (es : List (List UInt8)) (v : Value) (ss : List (Nat × Nat)) (w : World) (hcap : es.length ≤ cap) (hn : es.length ≤ 1000000) (hl : ∀ l ∈ es, l.length ≤ maxLen) (h : Bss w (.slice (some ⟨b, off, none⟩) es.length cap) es) (hs : Sps w v ss) (hss : ss.length ≤ 1000000) (hin : ∀ s ∈ ss, s.1 + s.2 ≤ es.length ∧ 1 ≤ s.2) :
    Calls Tryd.prog 30 #[.slice (some ⟨b, off, none⟩) es.length cap, v] w fun r w' => ∃ x, r = .returned x ∧ Below w.heap.size w w' ∧ OwnHs w.heap.size w' x (ss.map fun s => rootT (run es s)) := by
  obtain ⟨t, hi, hi'⟩ := Option.map_eq_some_iff.1 infoHash
  obtain ⟨hz0, hz1, hz2⟩ : t.zero = some (.agg (hv zero8)) ∧ t.size = 8 ∧ t.bytes = 8 := by simpa using hi'
  clear hi'
  have HI := hide hi
  have HZ := hide (And.intro hz0 (And.intro hz1 hz2))
  clear hi hz0 hz1 hz2
  have HL := hide hl
  have H := hide h
  have HS := hide hs
  have HIN := hide hin
  obtain ⟨sa, scap, rfl, hsc, hsr⟩ := hs
  have HSR := hide hsr
  clear hl h hsr hin
  go_enter Tryd.func30, Tryd.ntmps30
  go_wp2_with fail
  go_loopw [5, 10] (fun r i wr => ∃ k : Nat, k ≤ ss.length ∧ i = .int .i64 k ∧ (∃ ra rc, r = .slice ra k rc) ∧ Below w.heap.size w wr ∧ OwnHs w.heap.size wr r ((ss.take k).map fun s => rootT (run es s))) (fun _ i _ => ss.length - (intOf i).toNat)
  case atStart => exact ⟨0, Nat.zero_le _, rfl, ⟨_, _, rfl⟩, Below.refl _ _, ⟨rfl, .inl ⟨rfl, rfl⟩⟩⟩
  case round =>
    obtain ⟨k, hk, rfl, ⟨ra, rc, rfl⟩, hb, ho⟩ := hrel
    have HO := hide ho
    have HB := hide hb
    by_cases hlt : k < ss.length
    · have hse : ∃ sb, sa = some ⟨sb, 0, none⟩ ∧ wr.cell? ⟨sb, k * 2, none⟩ = some (.int .i64 (ss[k].1 : Int)) ∧ wr.cell? ⟨sb, k * 2 + 1, none⟩ = some (.int .i64 (ss[k].2 : Int)) := by
        obtain ⟨a', c', e', -, h'⟩ := HS.out.below hb
        simp only [Value.slice.injEq] at e'
        obtain ⟨rfl, -, rfl⟩ := e'
        rcases h' with h' | ⟨sb, rfl, hc⟩
        · simp [h'] at hlt
        · exact ⟨sb, rfl, (hc k hlt).1, (hc k hlt).2⟩
      obtain ⟨sb, rfl, s0, s1⟩ := hse
      obtain ⟨i1, i2⟩ := HIN.out ss[k] (List.getElem_mem hlt)
      have HBE : Hid (Bss wr (.slice (some ⟨b, off + ss[k].1, none⟩) ss[k].2 (cap - ss[k].1)) (run es ss[k])) := (H.out.below hb).run ss[k].1 ss[k].2 i1
      have HT : Hid ((ss.take (k + 1)).map (fun s => rootT (run es s)) = (ss.take k).map (fun s => rootT (run es s)) ++ [rootT (run es ss[k])]) := by
        show _ = _
        rw [List.take_succ_eq_append_getElem hlt, List.map_append]; rfl
      have HLN : Hid ((run es ss[k]).length = ss[k].2) := run_len es _ _ i1
      have HRL : Hid (∀ l ∈ run es ss[k], l.length ≤ maxLen) := fun l hl => HL.out l (List.mem_of_mem_drop (List.mem_of_mem_take hl))
      have HKL : Hid (((ss.take k).map fun s => rootT (run es s)).length = k) := by show _ = _; simp; omega
      have R0 := rootF_length (run es ss[k]).length (run es ss[k])
      have RT := hide (root_any (run es ss[k]).length)
      obtain ⟨x0, x1, x2, x3, x4, x5, x6, x7, hx⟩ := agg8 (rootT (run es ss[k])) R0
      have HX := hide hx
      have HRR : Hid (rootF (run es ss[k]).length (run es ss[k]) = rootT (run es ss[k])) := rfl
      clear hx R0 ho
      generalize rootT (run es ss[k]) = R at *
      generalize (ss.take k).map (fun s => rootT (run es s)) = P at *
      generalize hrun : run es ss[k] = E at *
      generalize ss[k].1 = fa at *
      generalize ss[k].2 = fn at *
      clear hrun
      have c1 : (0 : Int) ≤ (fa : Int) := by omega
      have c2 : (fa : Int) ≤ (fa : Int) + (fn : Int) := by omega
      have c3 : (fa : Int) + (fn : Int) ≤ (cap : Int) := by omega
      have c5 : ¬ cap = fa := by omega
      have c6 : (0 : Int) ≤ (k : Int) := by omega
      have c7 : (k : Int) < (ss.length : Int) := by omega
      have c8 : (0 : Int) ≤ (fa : Int) + (fn : Int) := by omega
      have EN := hide (fun w : World => end_any fa fn w (by omega))
      have HNN : Hid (((fa : Int) + (fn : Int)).toNat - fa = fn) := by show _ = _; omega
      clear hb
      go_wp2_with fail
      have HB1 : Hid (Below w.heap.size w (wr.alloc (.cells #[.int .i64 (fa : Int), .int .i64 (fn : Int)] 61))) := HB.out.alloc HB.out.size _
      have HO1 : Hid (OwnHs w.heap.size (wr.alloc (.cells #[.int .i64 (fa : Int), .int .i64 (fn : Int)] 61)) (.slice ra k rc) P) := ownsRow_below HO.out (below_alloc _ _)
      have HE1 : Hid (Bss (wr.alloc (.cells #[.int .i64 (fa : Int), .int .i64 (fn : Int)] 61)) (.slice (some ⟨b, off + fa, none⟩) fn (cap - fa)) E) := HBE.out.below (below_alloc _ _)
      have HH1 : Hid ((wr.alloc (.cells #[.int .i64 (fa : Int), .int .i64 (fn : Int)] 61)).heap[wr.heap.size]? = some (.cells #[.int .i64 (fa : Int), .int .i64 (fn : Int)] 61)) := heap_alloc_last _ _
      generalize wr.alloc (.cells #[.int .i64 (fa : Int), .int .i64 (fn : Int)] 61) = W1 at *
      generalize wr.heap.size = B at *
      have HRB : Hid (some B ≠ (Value.slice ra k rc).ownBlock) := by
        show _ ≠ _
        intro e
        obtain ⟨-, h' | ⟨g', cap', cur', e1, -, e3, -⟩⟩ := HO1.out
        · obtain ⟨h', -⟩ := h'
          rw [h'] at e; simp [Value.ownBlock] at e
        · rw [e1] at e
          simp only [Value.ownBlock, Option.some.injEq] at e
          subst e
          rw [HH1.out] at e3
          simp at e3
      have HO1k : Hid (W1.ownsRow w.heap.size 48 8 (.slice ra k rc) k (flat P)) := by
        have := HO1.out
        unfold OwnHs at this
        rw [HKL.out] at this
        exact this
      clear s0 s1 HO HB HBE
      have q0 := blk_cell HH1.out 0 _ rfl
      have q1 := blk_cell HH1.out 1 _ rfl
      have l1 : ¬ B = W1.heap.size := by have := heap_lt HH1.out; omega
      go_region_held3 (fun w' => w'.cell? ⟨B, 0, none⟩ = some (.int .i64 (fa : Int)) ∧ w'.cell? ⟨B, 1, none⟩ = some (.int .i64 (fn : Int))) (go_keep) (first
        | (go_at_call 43; refine (EN.out W1.drew).mono ?_; rintro e w2 ⟨rfl, hb2⟩; have HB2 : Hid (Below W1.heap.size W1 w2) := (show Below W1.heap.size W1 W1.drew from (Below.refl _ _).drew).trans hb2; have hh2 := (HB2.out.block _ (heap_lt HH1.out)).trans HH1.out; have p0 := blk_cell hh2 0 _ rfl; have p1 := blk_cell hh2 1 _ rfl; clear hb2 hh2)
        | (go_at_call 23; rw [HNN.out]; refine (RT.out _ E w2 (Nat.le_refl _) (by have := HLN.out; omega) HRL.out (by exact HE1.out.below HB2.out)).mono ?_; rintro e w3 ⟨hr, hb3⟩; rw [HRR.out, HX.out] at hr; subst hr; have HB3 : Hid (Below W1.heap.size W1 w3) := HB2.out.trans (hb3.mono HB2.out.size); have hh3 := (HB3.out.block _ (heap_lt HH1.out)).trans HH1.out; have p0 := blk_cell hh3 0 _ rfl; have p1 := blk_cell hh3 1 _ rfl; have l3 : ¬ B = w3.heap.size := (by have := heap_lt hh3; omega); clear hb3 hh3)
        | (refine step_append_lies _ (by rfl) _ _ _ (by rfl) w.heap.size 48 t (.agg (hv zero8)) 8 8 Tryd.underlying37 HI.out HZ.out.1 HZ.out.2.1 HZ.out.2.2 rfl (by omega) (.slice ra k rc) k (flat P) (by rfl) (by exact ownsRow_below HO1k.out (HB3.out.trans ((below_alloc _ _).mono HB3.out.size))) ⟨w3.heap.size, 0, none⟩ 1 1 [.int .u8 x0, .int .u8 x1, .int .u8 x2, .int .u8 x3, .int .u8 x4, .int .u8 x5, .int .u8 x6, .int .u8 x7] (by rfl) rfl (World.news_of_block (heap_alloc_last _ _)) (by simp [Value.oneCell']) (by omega) (by unfold maxLen; omega) (by omega) (by have := HB1.out.size; have := HB3.out.size; simp; omega) (w3.heap.size + 1) (by simp) ?_; intro g cap' w4 hown hgrow hat hltg; have HB4 := hide (((HB1.out.trans (HB3.out.mono HB1.out.size)).trans ((below_alloc w3 _).mono (Nat.le_trans HB1.out.size HB3.out.size))).grown hgrow (by have := HB1.out.size; have := HB3.out.size; simp; omega) (own_base HO1.out)); have HO4 := hide hown; have e4 : (w4.cell? ⟨B, 0, none⟩ = some (.int .i64 (fa : Int)) ∧ w4.cell? ⟨B, 1, none⟩ = some (.int .i64 (fn : Int))) := (have hb : w4.heap[B]? = _ := (by rw [hgrow.block B (by have := heap_lt HH1.out; have := HB3.out.size; simp; omega) HRB.out, heap_alloc_old ((HB3.out.block _ (heap_lt HH1.out)).trans HH1.out)]); ⟨blk_cell hb 0 _ rfl, blk_cell hb 1 _ rfl⟩); obtain ⟨z0, z1⟩ := e4; clear hat hltg hown hgrow))
      all_goals
        go_wp2_with fail
        go_roundw
        case rel => exact ⟨k + 1, by omega, by go_num, ⟨_, _, rfl⟩, HB4.out, by rw [HT.out]; unfold OwnHs; rw [flat_snoc, HX.out, List.length_append, List.length_singleton, HKL.out]; exact HO4.out⟩
        case measure => simp [intOf]; omega
    · obtain rfl : k = ss.length := by omega
      go_wp2_with fail
      go_ret
      refine ⟨_, rfl, HB.out, ?_⟩
      have := HO.out
      rw [List.take_of_length_le (Nat.le_refl _)] at this
      exact this
end Go.Proofs.YtbjpjidliggdhaaDoor
