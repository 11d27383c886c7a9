
import Derived.Test.YtfgbghmefomolaaDoorRefParse
namespace Go.Proofs.YtfgbghmefomolaaDoor
open Go.RowKit
set_option maxRecDepth 100000

theorem hp_lt {w : World} {g : Nat} {o : Obj} (h : w.heap[g]? = some o) : g < w.heap.size := by
  rcases Nat.lt_or_ge g w.heap.size with h' | h'
  · exact h'
  · simp [Array.getElem?_eq_none h'] at h
theorem cells4 {w : World} {g : Nat} {x1 x2 x3 : Int} {x4 : Bool} {t : TypeId} {fr : Nat × Nat} (h : w.heap[g]? = some (.cells #[.int .i64 x1, .int .i64 x2, .int .i64 x3, .bool x4] t fr)) :
    w.cell? ⟨g, 0, none⟩ = some (.int .i64 x1) ∧ w.cell? ⟨g, 1, none⟩ = some (.int .i64 x2) ∧ w.cell? ⟨g, 2, none⟩ = some (.int .i64 x3) ∧ w.cell? ⟨g, 3, none⟩ = some (.bool x4) := by
  refine ⟨?_, ?_, ?_, ?_⟩ <;> rw [cell_of_row _ _ _ _ _ _ h] <;> rfl

theorem nameF_len (l i wd : Int) (hi : i ≤ 9223372036854775807) : (nameF l i wd).length ≤ 100 := by
  by_cases hb : badName l i wd
  · rw [nameF_bad hb]; simp
  · rw [nameF_good hb]
    unfold badName at hb
    have h1 := headF_len l (by omega)
    have h2 := dec_length_le i (by omega) hi
    have h3 : (tailF wd).length ≤ 30 := by
      unfold tailF
      split
      · have := dec_length_le wd (by omega) (by omega)
        simp [partF]
        omega
      · simp
    simp only [List.length_append]
    omega

set_option maxHeartbeats 2000000 in
theorem named_yes (l i wd : Int) (p : ByteArray) (hi : i ≤ 9223372036854775807) (hp : p.size ≤ 1000000000) (w : World) (E : Env w) :
    Calls Tryd.prog 4 #[.int .i64 l, .int .i64 i, .int .i64 wd, .string p] w fun r w' => r = .returned (.bool true) ∧ Below w.heap.size w w' := by
  obtain ⟨q, rfl⟩ : ∃ q : List UInt8, p = ⟨q.toArray⟩ := ⟨p.data.toList, by simp⟩
  have hq : q.length ≤ 1000000000 := by
    have e : (⟨q.toArray⟩ : ByteArray).size = q.length := rfl
    omega
  have HE := hide E
  clear E hp
  have HS := hide (parse_same q)
  go_enter Tryd.func4, Tryd.ntmps4
  go_wp2_with fail
  refine (plainName_any l i wd hi w HE.out).mono ?_
  rintro r w1 ⟨rfl, hb1⟩
  have HB1 := hide hb1
  clear hb1
  go_wp2_with fail
  refine (refName_any l i wd hi w1).mono ?_
  rintro r w2 ⟨rfl, hb2⟩
  have HB2 : Hid (Below w.heap.size w w2) := HB1.out.trans (hb2.mono HB1.out.size)
  clear hb2
  go_wp2_with fail
  refine (plainParse_any q hq w2 (HE.out.below HB2.out)).mono ?_
  rintro r w3 ⟨rfl, hb3⟩
  have HB3 : Hid (Below w.heap.size w w3) := HB2.out.trans (hb3.mono HB2.out.size)
  clear hb3
  have HPR : Hid (parseR q = parseP q) := HS.out.symm
  generalize parseP q = x at *
  obtain ⟨x1, x2, x3, x4⟩ := x
  unfold parseV
  simp only []
  go_wp2_with (show wpList _ _ _ ({ dst := none, op := Op.store _ _ _, type := _, pos := _, after := _, guard := _ } :: _) _ _; refine wpList_store_row rfl 25 _ _ rfl w3.heap.size #[.int .i64 x1, .int .i64 x2, .int .i64 x3, .bool x4] rfl rfl 25 _ (heap_alloc_last _ _) (by kernel_rfl) rfl (by simp [Value.oneCell']) ?_)
  rw [World.setRow_alloc_new]
  have HG1 := hide (heap_alloc_last w3 (.cells #[.int .i64 x1, .int .i64 x2, .int .i64 x3, .bool x4] 25))
  have HB4 : Hid (Below w.heap.size w (w3.alloc (.cells #[.int .i64 x1, .int .i64 x2, .int .i64 x3, .bool x4] 25))) := HB3.out.trans ((below_alloc w3 _).mono HB3.out.size)
  generalize w3.alloc (.cells #[.int .i64 x1, .int .i64 x2, .int .i64 x3, .bool x4] 25) = W4 at *
  generalize w3.heap.size = g1 at *
  refine (refParse_any q hq W4).mono ?_
  rintro r w5 ⟨rfl, hb5⟩
  have HG5 := hide ((hb5.block g1 (hp_lt HG1.out)).trans HG1.out)
  have HB5 : Hid (Below w.heap.size w w5) := HB4.out.trans (hb5.mono HB4.out.size)
  rw [HPR.out]
  clear hb5 HG1
  have hnl := nameF_len l i wd hi
  have hnm : (nameF l i wd = [] ∧ parseP (nameF l i wd) = (0, 0, 0, false)) ∨ (nameF l i wd ≠ [] ∧ parseP (nameF l i wd) = (l, i, wd, true)) := by
    by_cases hb : badName l i wd
    · left
      rw [nameF_bad hb]
      exact ⟨rfl, parseP_nil⟩
    · exact .inr ⟨nameF_ne hb, parseP_name hb hi⟩
  have HNM := hide hnm
  clear hnm
  generalize nameF l i wd = nm at *
  unfold parseV
  simp only []
  go_wp2_with fail
  refine (plainParse_any nm (by omega) w5 (HE.out.below HB5.out)).mono ?_
  rintro r w6 ⟨rfl, hb6⟩
  have HG6 := hide ((hb6.block g1 (hp_lt HG5.out)).trans HG5.out)
  have HB6 : Hid (Below w.heap.size w w6) := HB5.out.trans (hb6.mono HB5.out.size)
  clear hb6 HG5
  generalize parseP nm = y at *
  obtain ⟨y1, y2, y3, y4⟩ := y
  unfold parseV
  simp only []
  have hne : g1 ≠ w6.heap.size := Nat.ne_of_lt (hp_lt HG6.out)
  obtain ⟨a1, a2, a3, a4⟩ := cells4 (show (w6.alloc (.cells #[.int .i64 y1, .int .i64 y2, .int .i64 y3, .bool y4] 25)).heap[g1]? = _ from heap_alloc_old HG6.out)
  obtain ⟨c1, c2, c3, c4⟩ := cells4 (heap_alloc_last w6 (.cells #[.int .i64 y1, .int .i64 y2, .int .i64 y3, .bool y4] 25))
  have HB7 : Hid (Below w.heap.size w (w6.alloc (.cells #[.int .i64 y1, .int .i64 y2, .int .i64 y3, .bool y4] 25))) := HB6.out.trans ((below_alloc w6 _).mono HB6.out.size)
  rcases HNM.out with ⟨rfl, e⟩ | ⟨hz, e⟩
  · simp only [Prod.mk.injEq] at e
    obtain ⟨rfl, rfl, rfl, rfl⟩ := e
    clear HNM
    go_wp2_with (show wpList _ _ _ ({ dst := none, op := Op.store _ _ _, type := _, pos := _, after := _, guard := _ } :: _) _ _; refine wpList_store_row rfl 25 _ _ rfl w6.heap.size #[.int .i64 0, .int .i64 0, .int .i64 0, .bool false] rfl rfl 25 _ (heap_alloc_last _ _) (by kernel_rfl) rfl (by simp [Value.oneCell']) ?_; rw [World.setRow_alloc_new]; generalize w6.alloc (.cells #[.int .i64 0, .int .i64 0, .int .i64 0, .bool false] 25) = W7 at *; generalize w6.heap.size = g2 at *)
    all_goals go_ret
    all_goals exact ⟨rfl, HB7.out⟩
  · simp only [Prod.mk.injEq] at e
    obtain ⟨rfl, rfl, rfl, rfl⟩ := e
    clear HNM
    cases nm with
    | nil => exact absurd rfl hz
    | cons z zs =>
      clear hz
      go_wp2_with (show wpList _ _ _ ({ dst := none, op := Op.store _ _ _, type := _, pos := _, after := _, guard := _ } :: _) _ _; refine wpList_store_row rfl 25 _ _ rfl w6.heap.size #[.int .i64 y1, .int .i64 y2, .int .i64 y3, .bool true] rfl rfl 25 _ (heap_alloc_last _ _) (by kernel_rfl) rfl (by simp [Value.oneCell']) ?_; rw [World.setRow_alloc_new]; generalize w6.alloc (.cells #[.int .i64 y1, .int .i64 y2, .int .i64 y3, .bool true] 25) = W7 at *; generalize w6.heap.size = g2 at *)
      all_goals go_ret
      all_goals exact ⟨by simp, HB7.out⟩
end Go.Proofs.YtfgbghmefomolaaDoor
