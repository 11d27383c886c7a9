
import Derived.Test.YtfgbghmefomolaaDoorRefHash
import Derived.Test.YtfgbghmefomolaaDoorLeafWalks
import Derived.Lib.BufferWrite
import Derived.Lib.SlBuf
namespace Go.Proofs.YtfgbghmefomolaaDoor
open Go.RowKit
set_option maxRecDepth 100000

/-- The first eight bytes, noughts behind. -/
def e8 (l : List UInt8) : List UInt8 := l.take 8 ++ List.replicate (8 - l.length) 0
theorem e8_length (l : List UInt8) : (e8 l).length = 8 := by simp [e8]; omega
def zero8 : List UInt8 := [0, 0, 0, 0, 0, 0, 0, 0]

theorem e8_cells (l : List UInt8) : ((#[Value.int IntKind.u8 0, Value.int IntKind.u8 0, Value.int IntKind.u8 0, Value.int IntKind.u8 0, Value.int IntKind.u8 0, Value.int IntKind.u8 0, Value.int IntKind.u8 0, Value.int IntKind.u8 0] : Array Value).toList.take 0 ++ (l.take (Nat.min l.length 8)).map bv ++ (#[Value.int IntKind.u8 0, Value.int IntKind.u8 0, Value.int IntKind.u8 0, Value.int IntKind.u8 0, Value.int IntKind.u8 0, Value.int IntKind.u8 0, Value.int IntKind.u8 0, Value.int IntKind.u8 0] : Array Value).toList.drop (0 + Nat.min l.length 8)).toArray = hv (e8 l) := by
  have hz : (#[Value.int IntKind.u8 0, Value.int IntKind.u8 0, Value.int IntKind.u8 0, Value.int IntKind.u8 0, Value.int IntKind.u8 0, Value.int IntKind.u8 0, Value.int IntKind.u8 0, Value.int IntKind.u8 0] : Array Value).toList = List.replicate 8 (bv 0) := rfl
  rw [hz]
  have e1 : l.take (Nat.min l.length 8) = l.take 8 := by
    rcases Nat.le_total l.length 8 with h | h
    · rw [show Nat.min l.length 8 = l.length from Nat.min_eq_left h, List.take_length, List.take_of_length_le h]
    · rw [show Nat.min l.length 8 = 8 from Nat.min_eq_right h]
  have e2 : 8 - (0 + Nat.min l.length 8) = 8 - l.length := by
    have : Nat.min l.length 8 = min l.length 8 := rfl
    omega
  rw [e1, List.drop_replicate, e2]
  simp [hv, e8]

theorem copy8 (w : World) (ty : TypeId) (g dCap : Nat) (s : ByteArray) (t : TypeId) (hg : w.heap[g]? = some (.cells #[Value.int IntKind.u8 0, Value.int IntKind.u8 0, Value.int IntKind.u8 0, Value.int IntKind.u8 0, Value.int IntKind.u8 0, Value.int IntKind.u8 0, Value.int IntKind.u8 0, Value.int IntKind.u8 0] t (0, 0))) :
    ∃ v, (Builtin.copy_ #[43, 9] ty #[.slice (some ⟨g, 0, none⟩) 8 dCap, .string s]).run Tryd.prog w = .ok v (w.setRow g (hv (e8 s.data.toList))) := by
  have hs : (Tryd.prog.info? 5).map (·.size) = some 1 := by kernel_rfl
  have hu := Tryd.underlying43
  have hsz : s.size = s.data.toList.length := by simp
  have hlen : ((s.data.toList.take (Nat.min s.data.toList.length 8)).map bv).length = Nat.min s.data.toList.length 8 := by
    simp
  have hst := run_storeCells_at Tryd.prog g 0 t ((s.data.toList.take (Nat.min s.data.toList.length 8)).map bv) 0 _ w hg (by rw [hlen]; have : Nat.min s.data.toList.length 8 ≤ 8 := Nat.min_le_right _ _; simpa using this) (fun v hv => by simp only [List.mem_map] at hv; obtain ⟨b, _, rfl⟩ := hv; rfl)
  rw [hlen] at hst
  simp only [Nat.add_zero] at hst
  rw [e8_cells] at hst
  have htk : List.take (Nat.min s.data.toList.length 8) (List.map (fun b : UInt8 => Value.int IntKind.u8 (b.toNat : Int)) s.data.toList) = (s.data.toList.take (Nat.min s.data.toList.length 8)).map bv := by
    rw [List.map_take]; rfl
  cases hq : Tryd.prog.info? 5 with
  | none => simp [hq] at hs
  | some i =>
    refine ⟨goInt (Nat.min s.size 8), ?_⟩
    simp only [Builtin.copy_]
    simp [run_underlying hu, Builtin.lenOf, Builtin.firstCells, sizeOf, typeInfo, hq]
    rw [hsz, htk, hst]
    rfl

set_option maxHeartbeats 400000 in
theorem eight_any (s : ByteArray) (w : World) :
    Calls Tryd.prog 11 #[.string s] w fun r w' => r = .returned (txt (e8 s.data.toList)) ∧ Below w.heap.size w w' := by
  have hmk : ∀ w, (Instr.makeSlice 43 (.int .i64 8) (.int .i64 8)).run Tryd.prog w = .ok (.slice (some ⟨w.heap.size, 0, none⟩) 8 8) (w.alloc (.cells #[Value.int IntKind.u8 0, Value.int IntKind.u8 0, Value.int IntKind.u8 0, Value.int IntKind.u8 0, Value.int IntKind.u8 0, Value.int IntKind.u8 0, Value.int IntKind.u8 0, Value.int IntKind.u8 0] 5)) := fun _ => by kernel_rfl
  obtain ⟨v, hr⟩ := copy8 (w.alloc (.cells #[Value.int IntKind.u8 0, Value.int IntKind.u8 0, Value.int IntKind.u8 0, Value.int IntKind.u8 0, Value.int IntKind.u8 0, Value.int IntKind.u8 0, Value.int IntKind.u8 0, Value.int IntKind.u8 0] 5)) 3 w.heap.size 8 s 5 (heap_alloc_last _ _)
  rw [World.setRow_alloc_new] at hr
  go_enter Tryd.func11, Tryd.ntmps11
  go_wp2_with fail
  rw [conv_row (w.alloc (.cells (hv (e8 s.data.toList)) 5)) w.heap.size 8 8 (e8 s.data.toList) _ _ (e8_length _) (heap_alloc_last _ _)]
  go_wp2
  go_ret
  exact ⟨rfl, below_alloc _ _⟩

set_option maxHeartbeats 400000 in
theorem hash_any (s : ByteArray) (w : World) :
    Calls Tryd.prog 23 #[.string s] w fun r w' => r = .returned (.agg (hv (e8 s.data.toList))) ∧ Below w.heap.size w w' := by
  obtain ⟨v, hr⟩ := copy8 ((w.alloc (.cells #[Value.int IntKind.u8 0, Value.int IntKind.u8 0, Value.int IntKind.u8 0, Value.int IntKind.u8 0, Value.int IntKind.u8 0, Value.int IntKind.u8 0, Value.int IntKind.u8 0, Value.int IntKind.u8 0] 46)).alloc (.cells #[Value.int IntKind.u8 0, Value.int IntKind.u8 0, Value.int IntKind.u8 0, Value.int IntKind.u8 0, Value.int IntKind.u8 0, Value.int IntKind.u8 0, Value.int IntKind.u8 0, Value.int IntKind.u8 0] 46)) 3 (w.alloc (.cells #[Value.int IntKind.u8 0, Value.int IntKind.u8 0, Value.int IntKind.u8 0, Value.int IntKind.u8 0, Value.int IntKind.u8 0, Value.int IntKind.u8 0, Value.int IntKind.u8 0, Value.int IntKind.u8 0] 46)).heap.size 8 s 46 (heap_alloc_last _ _)
  rw [World.setRow_alloc_new, size_alloc] at hr
  have hs := hv_size (e8 s.data.toList)
  rw [e8_length] at hs
  have Hs := hide hs
  clear hs
  have hg1 : ((w.alloc (.cells #[Value.int IntKind.u8 0, Value.int IntKind.u8 0, Value.int IntKind.u8 0, Value.int IntKind.u8 0, Value.int IntKind.u8 0, Value.int IntKind.u8 0, Value.int IntKind.u8 0, Value.int IntKind.u8 0] 46)).alloc (.cells (hv (e8 s.data.toList)) 46)).heap[w.heap.size + 1]? = some (.cells (hv (e8 s.data.toList)) 46 (0, 0)) := by
    rw [show w.heap.size + 1 = (w.alloc (.cells #[Value.int IntKind.u8 0, Value.int IntKind.u8 0, Value.int IntKind.u8 0, Value.int IntKind.u8 0, Value.int IntKind.u8 0, Value.int IntKind.u8 0, Value.int IntKind.u8 0, Value.int IntKind.u8 0] 46)).heap.size by simp]; exact heap_alloc_last _ _
  have hg0 : ((w.alloc (.cells #[Value.int IntKind.u8 0, Value.int IntKind.u8 0, Value.int IntKind.u8 0, Value.int IntKind.u8 0, Value.int IntKind.u8 0, Value.int IntKind.u8 0, Value.int IntKind.u8 0, Value.int IntKind.u8 0] 46)).alloc (.cells (hv (e8 s.data.toList)) 46)).heap[w.heap.size]? = some (.cells #[Value.int IntKind.u8 0, Value.int IntKind.u8 0, Value.int IntKind.u8 0, Value.int IntKind.u8 0, Value.int IntKind.u8 0, Value.int IntKind.u8 0, Value.int IntKind.u8 0, Value.int IntKind.u8 0] 46 (0, 0)) := heap_alloc_old (heap_alloc_last _ _)
  have HG1 := hide hg1
  have HG0 := hide hg0
  clear hg0 hg1
  go_enter Tryd.func23, Tryd.ntmps23
  go_wp2_with (first
    | (refine wpList_load_row rfl 46 _ rfl (w.heap.size + 1) rfl 46 _ (0, 0) _ HG1.out Tryd.underlying46 rfl (by rw [Hs.out]; kernel_rfl) ?_)
    | (refine wpList_store_row rfl 46 _ _ rfl w.heap.size (hv (e8 s.data.toList)) rfl rfl 46 _ HG0.out (by rw [Hs.out]; kernel_rfl) (by rw [Hs.out]; rfl) (hv_one _) ?_))
  refine bodyPost_ret (v := .agg (hv (e8 s.data.toList))) (results_cell_row Tryd.results23 _ _ w.heap.size 46 _ (0, 0) _ rfl (setRow_heap _ _ _ _ _ _ HG0.out) Tryd.underlying46 rfl (by rw [Hs.out]; kernel_rfl)) rfl ⟨rfl, ?_⟩
  exact below_setRow (below_alloc2 _ _ _) (Nat.le_refl _) _
end Go.Proofs.YtfgbghmefomolaaDoor
