
import Derived.Test.YtfgbghmefomolaaRebWalks
import Derived.Test.YtfgbghmefomolaaRtsMath
import Derived.Test.YtfgbghmefomolaaOrd
namespace Go.Proofs.Ytfgbghmefomolaa
open Go.RowKit
set_option maxRecDepth 100000

theorem results_rows2_tmp {P : Program} {fn : Func} {p q u : Tmp} {ty : TypeId} (h : fn.results = #[.cell p ty, .cell q ty, .tmp u]) (tmps : Array Value) (w : World) (g g' : Nat) (t : TypeId) (cs cs' : Array Value) (d : TypeDesc)
    (hp : tmps.getD p undef = .pointer (some ⟨g, 0, none⟩)) (hg : w.heap[g]? = some (.cells cs t (0, 0))) (hq : tmps.getD q undef = .pointer (some ⟨g', 0, none⟩)) (hg' : w.heap[g']? = some (.cells cs' t (0, 0)))
    (hu : P.underlying ty = some d) (hd : (match d with | .struct _ | .array _ _ => true | _ => false) = true) (hi : (P.info? ty).map (·.size) = some cs.size) (hi' : (P.info? ty).map (·.size) = some cs'.size) (x : Value) (hx : tmps.getD u undef = x) :
    (results fn tmps).run P w = .ok (.tuple #[.agg cs, .agg cs', x]) w := by
  have hp' : tmps[p]?.getD undef = .pointer (some ⟨g, 0, none⟩) := by simpa using hp
  have hq' : tmps[q]?.getD undef = .pointer (some ⟨g', 0, none⟩) := by simpa using hq
  have hx' : tmps[u]?.getD undef = x := by simpa using hx
  simp [results, h, hp', hq', hx', asAddr, run_loadVar_row w g t ty cs (0, 0) d hg hu hd hi, run_loadVar_row w g' t ty cs' (0, 0) d hg' hu hd hi']

/-- A box and two cells for results. -/
def Fq (w : World) (a : List UInt8) (wz : World) (o n : List UInt8) : Prop :=
  Below w.heap.size w wz ∧ wz.heap[w.heap.size]? = some (.cells (hv a) 38 (0, 0)) ∧ wz.heap[w.heap.size + 1]? = some (.cells (hv o) 38 (0, 0)) ∧ wz.heap[w.heap.size + 1 + 1]? = some (.cells (hv n) 38 (0, 0))
theorem Fq.start (w : World) (a : List UInt8) : Fq w a (((w.alloc (.cells (hv a) 38)).alloc (.cells #[Value.int IntKind.u8 0, Value.int IntKind.u8 0, Value.int IntKind.u8 0, Value.int IntKind.u8 0, Value.int IntKind.u8 0, Value.int IntKind.u8 0, Value.int IntKind.u8 0, Value.int IntKind.u8 0] 38)).alloc (.cells #[Value.int IntKind.u8 0, Value.int IntKind.u8 0, Value.int IntKind.u8 0, Value.int IntKind.u8 0, Value.int IntKind.u8 0, Value.int IntKind.u8 0, Value.int IntKind.u8 0, Value.int IntKind.u8 0] 38)) zero8 zero8 := by
  refine ⟨below_alloc3 _ _ _ _, heap_alloc_old (heap_alloc_old (heap_alloc_last _ _)), ?_, ?_⟩
  · refine heap_alloc_old ?_
    rw [show w.heap.size + 1 = (w.alloc (.cells (hv a) 38)).heap.size by simp]
    exact heap_alloc_last _ _
  · rw [show w.heap.size + 1 + 1 = ((w.alloc (.cells (hv a) 38)).alloc (.cells #[Value.int IntKind.u8 0, Value.int IntKind.u8 0, Value.int IntKind.u8 0, Value.int IntKind.u8 0, Value.int IntKind.u8 0, Value.int IntKind.u8 0, Value.int IntKind.u8 0, Value.int IntKind.u8 0] 38)).heap.size by simp]
    exact heap_alloc_last _ _
theorem Fq.next {w wz wy : World} {a o n : List UInt8} (h : Fq w a wz o n) (hb : Below wz.heap.size wz wy) : Fq w a wy o n :=
  ⟨h.1.trans (hb.mono h.1.size), by rw [hb.block _ (heap_lt h.2.1)]; exact h.2.1, by rw [hb.block _ (heap_lt h.2.2.1)]; exact h.2.2.1, by rw [hb.block _ (heap_lt h.2.2.2)]; exact h.2.2.2⟩
theorem Fq.set1 {w wz : World} {a o n : List UInt8} (h : Fq w a wz o n) (o' : List UInt8) : Fq w a (wz.setRow (w.heap.size + 1) (hv o')) o' n :=
  ⟨below_setRow h.1 (Nat.le_succ _) _, by rw [setRow_other _ _ _ _ (by omega)]; exact h.2.1, setRow_heap _ _ _ _ _ _ h.2.2.1, by rw [setRow_other _ _ _ _ (by omega)]; exact h.2.2.2⟩
theorem Fq.set2 {w wz : World} {a o n : List UInt8} (h : Fq w a wz o n) (n' : List UInt8) : Fq w a (wz.setRow (w.heap.size + 1 + 1) (hv n')) o n' :=
  ⟨below_setRow h.1 (by omega) _, by rw [setRow_other _ _ _ _ (by omega)]; exact h.2.1, by rw [setRow_other _ _ _ _ (by omega)]; exact h.2.2.1, setRow_heap _ _ _ _ _ _ h.2.2.2⟩

theorem Fq.drew {w wz : World} {a o n : List UInt8} (h : Fq w a wz o n) : Fq w a wz.drew o n := ⟨h.1.drew, h.2.1, h.2.2.1, h.2.2.2⟩

set_option maxHeartbeats 2000000 in
/-- rebuildSame, the whole. -/
theorem same_whole (a : List UInt8) (ha : a.length = 8) (v : Value) (ps : List (List UInt8)) (w : World) (h : Hss w v ps) :
    Calls Try.prog 48 #[.agg (hv a), v, .bool true] w fun r w' => r = .returned (.tuple #[.agg (hv a), .agg (hv a), .bool (decide (ps.length = 0))]) ∧ Below w.heap.size w w' := by
  obtain ⟨b, cap, rfl, -, -, -⟩ := h
  obtain ⟨x0, x1, x2, x3, x4, x5, x6, x7, hx⟩ := agg8 a ha
  rw [hx]
  have hd : ((ps.length : Int) == 0) = decide (ps.length = 0) := by
    rw [Bool.eq_iff_iff]; simp
  have Hd := hide hd
  clear hd ha hx
  go_enter Try.func48, Try.ntmps48
  go_wp2_with fail
  go_region
  all_goals go_wp2
  all_goals refine bodyPost_ret (v := .tuple #[.agg #[.int .u8 x0, .int .u8 x1, .int .u8 x2, .int .u8 x3, .int .u8 x4, .int .u8 x5, .int .u8 x6, .int .u8 x7], .agg #[.int .u8 x0, .int .u8 x1, .int .u8 x2, .int .u8 x3, .int .u8 x4, .int .u8 x5, .int .u8 x6, .int .u8 x7], .bool ((ps.length : Int) == 0)]) (by simp [results, Try.results48, go_sem]) rfl ⟨by rw [Hd.out], ?_⟩
  all_goals exact (below_alloc3 _ _ _ _).drew

set_option maxHeartbeats 2000000 in
/-- .. a part, of just one hash. -/
theorem same_part (a p : List UInt8) (ha : a.length = 8) (hp : p.length = 8) (b off cap : Nat) (w : World) (hr : w.rangeAt b off (hv p).toList) :
    Calls Try.prog 48 #[.agg (hv a), .slice (some ⟨b, off, none⟩) 1 cap, .bool false] w fun r w' => r = .returned (.tuple #[.agg (hv p), .agg (hv p), .bool true]) ∧ Below w.heap.size w w' := by
  obtain ⟨y0, y1, y2, y3, y4, y5, y6, y7, hy⟩ := agg8 a ha
  obtain ⟨x0, x1, x2, x3, x4, x5, x6, x7, hx⟩ := agg8 p hp
  rw [hx] at hr ⊢
  rw [hy]
  have cc := fun (o1 o2 o3 : Obj) => range8 (rangeAt_below hr (below_alloc3 w o1 o2 o3))
  have c0 := fun o1 o2 o3 => (cc o1 o2 o3).1
  have c1 := fun o1 o2 o3 => (cc o1 o2 o3).2.1
  have c2 := fun o1 o2 o3 => (cc o1 o2 o3).2.2.1
  have c3 := fun o1 o2 o3 => (cc o1 o2 o3).2.2.2.1
  have c4 := fun o1 o2 o3 => (cc o1 o2 o3).2.2.2.2.1
  have c5 := fun o1 o2 o3 => (cc o1 o2 o3).2.2.2.2.2.1
  have c6 := fun o1 o2 o3 => (cc o1 o2 o3).2.2.2.2.2.2.1
  have c7 := fun o1 o2 o3 => (cc o1 o2 o3).2.2.2.2.2.2.2
  have hlt : b < w.heap.size := cell_lt (p := ⟨b, off + 0, none⟩) (hr 0 _ rfl)
  have n1 : b ≠ w.heap.size := by omega
  have n2 : b ≠ w.heap.size + 1 := by omega
  have n3 : b ≠ w.heap.size + 1 + 1 := by omega
  clear hr hx hy ha hp cc
  go_enter Try.func48, Try.ntmps48
  go_wp2_with fail
  go_region
  all_goals go_wp2
  all_goals refine bodyPost_ret (v := .tuple #[.agg #[.int .u8 x0, .int .u8 x1, .int .u8 x2, .int .u8 x3, .int .u8 x4, .int .u8 x5, .int .u8 x6, .int .u8 x7], .agg #[.int .u8 x0, .int .u8 x1, .int .u8 x2, .int .u8 x3, .int .u8 x4, .int .u8 x5, .int .u8 x6, .int .u8 x7], .bool true]) (by simp [results, Try.results48, go_sem]) rfl ⟨rfl, ?_⟩
  all_goals exact (below_alloc3 _ _ _ _).drew

set_option maxHeartbeats 2000000 in
/-- .. of more or fewer: nothing. -/
theorem same_not (a : List UInt8) (ha : a.length = 8) (v : Value) (ps : List (List UInt8)) (w : World) (hn : ps.length ≠ 1) (h : Hss w v ps) :
    Calls Try.prog 48 #[.agg (hv a), v, .bool false] w fun r w' => r = .returned (.tuple #[.agg (hv zero8), .agg (hv zero8), .bool false]) ∧ Below w.heap.size w w' := by
  obtain ⟨b, cap, rfl, -, -, -⟩ := h
  have hs : (hv a).size = 8 := by rw [hv_size, ha]
  have HF := hide (Fq.start w a)
  have n1 : ((ps.length : Int) != 1) = true := by rw [bne_iff_ne]; omega
  clear hn ha
  go_enter Try.func48, Try.ntmps48
  go_wp2_with (first
    | (refine wpList_store_row rfl 38 _ _ rfl (w.heap.size + 1) (hv zero8) rfl rfl 38 _ HF.out.2.2.1 (by kernel_rfl) rfl (hv_one _) ?_)
    | (refine wpList_store_row rfl 38 _ _ rfl (w.heap.size + 1 + 1) (hv zero8) rfl rfl 38 _ (HF.out.set1 zero8).2.2.2 (by kernel_rfl) rfl (hv_one _) ?_))
  refine bodyPost_ret (v := .tuple #[.agg (hv zero8), .agg (hv zero8), .bool false]) (results_rows2_tmp Try.results48 _ _ (w.heap.size + 1) (w.heap.size + 1 + 1) 38 _ _ _ rfl ((HF.out.set1 zero8).set2 zero8).2.2.1 rfl ((HF.out.set1 zero8).set2 zero8).2.2.2 Try.underlying38 rfl (by kernel_rfl) (by kernel_rfl) _ rfl) rfl ⟨rfl, ?_⟩
  exact ((HF.out.set1 zero8).set2 zero8).1
end Go.Proofs.Ytfgbghmefomolaa
