import Derived.Test.YtoomnijgdpbphaaGreatDoorG26

namespace Go.Proofs.YtoomnijgdpbphaaGreatDoor
open Go.RowKit
set_option maxRecDepth 100000

set_option maxHeartbeats 1000000 in
theorem claimed_any (v : Value) (fs : Fs) (sa : Option Addr) (n sc : Nat) (w : World) (hl : ∀ f ∈ fs, f.1.length ≤ 9223372036854775807 ∧ f.2.length ≤ 9223372036854775807) (h : Fss w v fs) :
    Calls Tryz.prog 4 #[v, .slice sa n sc] w fun r w' => Below w.heap.size w w' ∧ ∃ bb, r = .returned (.bool bb) ∧ (bb = true → fs.length ≤ 4096 ∧ n ≤ 4096 ∧ ∀ f ∈ fs, f.1.length ≤ 1048576 ∧ f.2.length ≤ 1048576) := by
  have HF := hide h
  have HL := hide hl
  obtain ⟨a, cap, rfl, hcap, -⟩ := h
  clear hcap hl
  by_cases h1 : 4096 < fs.length
  · have h1' : (4096 : Int) < (fs.length : Int) := by omega
    go_enter Tryz.func4, Tryz.ntmps4
    go_wp2_with fail
    go_ret
    exact ⟨Below.refl _ _, false, rfl, fun h => by simp at h⟩
  · by_cases h2 : 4096 < n
    · go_enter Tryz.func4, Tryz.ntmps4
      go_wp2_with fail
      go_ret
      exact ⟨Below.refl _ _, false, rfl, fun h => by simp at h⟩
    · go_enter Tryz.func4, Tryz.ntmps4
      go_wp2_with fail
      go_loopw [5] (fun i wr => ∃ k : Nat, k ≤ fs.length ∧ i = .int .i64 k ∧ Below w.heap.size w wr ∧ ∀ j (h : j < fs.length), j < k → fs[j].1.length ≤ 1048576 ∧ fs[j].2.length ≤ 1048576) (fun i _ => fs.length - (intOf i).toNat)
      case atStart => exact ⟨0, Nat.zero_le _, rfl, Below.refl _ _, fun j _ h => by omega⟩
      case round =>
        obtain ⟨k, hk, rfl, hbe, hno⟩ := hrel
        have HB := hide hbe
        have HN := hide hno
        clear hbe hno
        by_cases hlt : k < fs.length
        · obtain ⟨-, -, hx'⟩ := HF.out.at
          obtain ⟨fb, fo, rfl, hx⟩ := hx' (by omega)
          obtain ⟨y0, y1⟩ := hx k hlt
          have hll := HL.out _ (List.getElem_mem hlt)
          have HN' : Hid (fs[k].1.length ≤ 1048576 → fs[k].2.length ≤ 1048576 → ∀ j (h : j < fs.length), j < k + 1 → fs[j].1.length ≤ 1048576 ∧ fs[j].2.length ≤ 1048576) := fun h1 h2 j hj hjk => by
            rcases Nat.lt_or_ge j k with h | h
            · exact HN.out j hj h
            · obtain rfl : j = k := by omega
              exact ⟨h1, h2⟩
          generalize fs[k].1 = p at *
          generalize fs[k].2 = x at *
          unfold txv at y0 y1
          have r0 : wr.cell? ⟨fb, fo + k * 2, none⟩ = some (.string ⟨p.toArray⟩) := by rw [HB.out.cell (p := ⟨fb, _, none⟩) (cell_lt y0)]; exact y0
          have r1 : wr.cell? ⟨fb, fo + k * 2 + 1, none⟩ = some (.string ⟨x.toArray⟩) := by rw [HB.out.cell (p := ⟨fb, _, none⟩) (cell_lt y1)]; exact y1
          clear y0 y1 hx hx'
          by_cases hx4 : 1048576 < x.length
          · have hA : decide ((1048576 : Int) < (x.length : Int)) = true := by simp; omega
            go_wp2_with fail
            go_ret
            exact ⟨HB.out, false, rfl, fun h => by simp at h⟩
          · have hA : decide ((1048576 : Int) < (x.length : Int)) = false := by simp; omega
            by_cases hp4 : 1048576 < p.length
            · have hB : decide ((1048576 : Int) < (p.length : Int)) = true := by simp; omega
              go_wp2_with fail
              go_ret
              exact ⟨HB.out, false, rfl, fun h => by simp at h⟩
            · have hB : decide ((1048576 : Int) < (p.length : Int)) = false := by simp; omega
              have HNN := hide (HN'.out (by omega) (by omega))
              go_wp2_with fail
              go_round
              case rel => exact ⟨k + 1, by omega, by go_num, HB.out, HNN.out⟩
              case measure => simp [intOf]; omega
        · obtain rfl : k = fs.length := by omega
          go_wp2_with fail
          go_ret
          refine ⟨HB.out, true, rfl, fun _ => ⟨by omega, by omega, fun f hf => ?_⟩⟩
          obtain ⟨j, hj, rfl⟩ := List.getElem_of_mem hf
          exact HN.out j hj hj
end Go.Proofs.YtoomnijgdpbphaaGreatDoor

namespace Go.Proofs.YtoomnijgdpbphaaGreatDoor
open Go.RowKit
set_option maxRecDepth 100000

/-- The law's own record of a store and its publisher. -/
structure Wd where
  key : List UInt8
  published : Int
  failed : Bool
  foreign : Bool
def wcells (db : Nat) (lv ev : Value) (x : Wd) : Array Value := #[dptr db, txv x.key, lv, ev, .int .i64 x.published, .bool x.failed, .bool x.foreign]
def WAt (w : World) (wb db : Nat) (lv ev : Value) (x : Wd) : Prop := w.heap[wb]? = some (.cells (wcells db lv ev x) 47 (0, 0))

set_option maxHeartbeats 1000000 in
theorem world_any (v : Value) (fs : Fs) (key : List UInt8) (w : World) (hn : fs.length ≤ 1000000) (h : Fss w v fs) :
    Calls Tryz.prog 6 #[v, txv key] w fun r w' => r = .returned (.pointer (some ⟨w.heap.size, 0, none⟩)) ∧ Below w.heap.size w w' ∧ WAt w' w.heap.size (w.heap.size + 1) (.pointer none) (.slice none 0 0) { key := key, published := 0, failed := false, foreign := false } ∧ DiskAt w' (fun k => w.heap.size ≤ k) (w.heap.size + 1) { dk0 with fs := newF [] fs } := by
  have HF := hide h
  obtain ⟨a, cap, rfl, hcap, -⟩ := h
  clear hcap
  unfold txv
  go_enter Tryz.func6, Tryz.ntmps6
  go_wp2_with fail
  have HB0 : Hid (Below w.heap.size w (w.alloc (.cells #[.pointer none, .string ⟨key.toArray⟩, .pointer none, .slice none 0 0, .int .i64 0, .bool false, .bool false] 47))) := below_alloc _ _
  have HW0 : Hid ((w.alloc (.cells #[.pointer none, .string ⟨key.toArray⟩, .pointer none, .slice none 0 0, .int .i64 0, .bool false, .bool false] 47)).heap[w.heap.size]? = some (.cells #[.pointer none, .string ⟨key.toArray⟩, .pointer none, .slice none 0 0, .int .i64 0, .bool false, .bool false] 47 (0, 0))) := heap_alloc_last _ _
  have HZ0 : Hid ((w.alloc (.cells #[.pointer none, .string ⟨key.toArray⟩, .pointer none, .slice none 0 0, .int .i64 0, .bool false, .bool false] 47)).heap.size = w.heap.size + 1) := by show _ = _; simp
  generalize (w.alloc (.cells #[.pointer none, .string ⟨key.toArray⟩, .pointer none, .slice none 0 0, .int .i64 0, .bool false, .bool false] 47)) = w0 at *
  refine (new_any _ fs w0 hn (HF.out.below HB0.out)).mono ?_
  rintro r w1 ⟨rfl, hb1, hd1⟩
  have hw1 : w1.heap[w.heap.size]? = some (.cells #[.pointer none, .string ⟨key.toArray⟩, .pointer none, .slice none 0 0, .int .i64 0, .bool false, .bool false] 47 (0, 0)) := by rw [hb1.block _ (heap_some_lt HW0.out)]; exact HW0.out
  obtain ⟨c0, f0⟩ := dcell hw1 0 _ rfl
  have HW1 := hide hw1
  have HB1 : Hid (Below w.heap.size w w1) := HB0.out.trans (hb1.mono HB0.out.size)
  have HD1 := hide hd1
  clear hb1 hw1 hd1
  unfold dptr
  go_wp2_with fail
  go_ret
  have hz := HZ0.out
  have t1 : Turn (fun _ => True) [47] w1 (w1.setCell ⟨w.heap.size, 0, none⟩ (.pointer (some ⟨w0.heap.size, 0, none⟩))) := (Turn.refl _ _ w1).set (.inl trivial) HW1.out (by simp) _
  have hds := (HD1.out.stay t1 (by decide) (by decide)).mono (O' := fun k => w.heap.size ≤ k) (fun k hk => by omega)
  have hws := dset HW1.out 0 (.pointer (some ⟨w0.heap.size, 0, none⟩))
  refine ⟨rfl, HB1.out.setCell (Nat.le_refl _) _, ?_, ?_⟩
  · unfold WAt
    rw [hws, hz]
    rfl
  · rw [hz] at hds ⊢
    exact hds
end Go.Proofs.YtoomnijgdpbphaaGreatDoor
