import Derived.Test.YtoomnijgdpbphaaGreatDoorG35
import Derived.Test.YtoomnijgdpbphaaGreatDoorG31
import Derived.Test.YtoomnijgdpbphaaGreatDoorG34

namespace Go.Proofs.YtoomnijgdpbphaaGreatDoor
open Go.RowKit
set_option maxRecDepth 100000

def toldP (n : Int) (p : List UInt8) : Value := .agg #[.int .i64 n, .string ⟨p.toArray⟩]
theorem compOwn : (Tryz.prog.info? 61).map (·.comparable) = some true := by kernel_rfl
theorem sizeOwn : (Tryz.prog.info? 253).map (·.size) = some 1 := by kernel_rfl
theorem assert_path (v : Value) (W : World) : (Instr.typeAssert (.iface 62 v) 39 62 true).run Tryz.prog W = .ok (.tuple #[v, .bool true]) W := by kernel_rfl

theorem told_end {W : World} {B : Nat} {C : Array Value} (hb : W.heap[B]? = some (.cells C 26 (0, 0))) (n : Int) (p : List UInt8) (hC : C.size = 2) : ((W.setCell ⟨B, 0, none⟩ (.int .i64 n)).setCell ⟨B, 1, none⟩ (.string ⟨p.toArray⟩)).heap[B]? = some (.cells #[.int .i64 n, .string ⟨p.toArray⟩] 26 (0, 0)) := by
  rw [dset (dset hb 0 _) 1 _]
  obtain ⟨l⟩ := C
  match l, hC with
  | [a, b], _ => rfl
theorem below_sets2 {w W : World} {u v : Value} {i j : Nat} (h : Below w.heap.size w W) : Below w.heap.size w ((W.setCell ⟨w.heap.size, i, none⟩ u).setCell ⟨w.heap.size, j, none⟩ v) := (h.setCell (Nat.le_refl _) _).setCell (Nat.le_refl _) _

theorem as_own (pg e : Nat) (p : List UInt8) (w W : World) (hW : Below w.heap.size w W) (hs : W.heap.size = w.heap.size + 3) (hp : W.heap[pg]? = some (.cells #[txv p, errV e] 64 (0, 0))) (hpl : pg < w.heap.size) (b1 : W.heap[w.heap.size]? = some (.cells #[.int .i64 0, .string ⟨#[]⟩] 26 (0, 0))) (b3 : W.heap[w.heap.size + 1 + 1]? = some (.cells #[.pointer none] 61 (0, 0))) (hET : W.cell? ⟨7, 0, none⟩ = some (tyV 39)) :
    Calls Tryz.prog 21 #[.iface 62 (.pointer (some ⟨pg, 0, none⟩)), .iface 67 (.pointer (some ⟨w.heap.size + 1 + 1, 0, none⟩))] W fun r w3 => r = .returned (.bool true) ∧ w3.cell? ⟨pg, 0, none⟩ = some (.string ⟨p.toArray⟩) ∧ w3.cell? ⟨pg, 1, none⟩ = some (.iface 61 (.pointer (some ⟨e, 0, none⟩))) ∧ w3.cell? ⟨w.heap.size + 1 + 1, 0, none⟩ = some (.pointer (some ⟨e, 0, none⟩)) ∧ w3.heap[w.heap.size]? = some (.cells #[.int .i64 0, .string ⟨#[]⟩] 26 (0, 0)) ∧ Below w.heap.size w w3 := by
  refine (as_path pg ⟨e, 0, none⟩ ⟨w.heap.size + 1 + 1, 0, none⟩ (.pointer none) W (dcell hp 1 (errV e) rfl).1 hET (dcell b3 0 _ rfl).1 (dcell b3 0 _ rfl).2).mono ?_
  rintro r w2 ⟨rfl, w1, hb1, rfl⟩
  have e3 : w1.heap[w.heap.size + 1 + 1]? = some (.cells #[.pointer none] 61 (0, 0)) := by rw [hb1.block _ (by omega)]; exact b3
  have hb2 := dset e3 0 (.pointer (some ⟨e, 0, none⟩))
  have hp4 : (w1.setCell ⟨w.heap.size + 1 + 1, 0, none⟩ (.pointer (some ⟨e, 0, none⟩))).heap[pg]? = some (.cells #[txv p, errV e] 64 (0, 0)) := by
    rw [heap_setCell_other _ _ _ _ (by show pg ≠ w.heap.size + 1 + 1; omega), hb1.block _ (by omega)]; exact hp
  have hr4 : (w1.setCell ⟨w.heap.size + 1 + 1, 0, none⟩ (.pointer (some ⟨e, 0, none⟩))).heap[w.heap.size]? = some (.cells #[.int .i64 0, .string ⟨#[]⟩] 26 (0, 0)) := by
    rw [heap_setCell_other _ _ _ _ (by show w.heap.size ≠ w.heap.size + 1 + 1; omega), hb1.block _ (by omega)]; exact b1
  exact ⟨rfl, (dcell hp4 0 (txv p) rfl).1, (dcell hp4 1 (errV e) rfl).1, (dcell hb2 0 _ rfl).1, hr4, (hW.trans (hb1.mono (by omega))).setCell (by show w.heap.size ≤ w.heap.size + 1 + 1; omega) _⟩

set_option maxHeartbeats 1000000 in
theorem of_tile (at_ : Nat → Addr) (pg : Nat) (p : List UInt8) (w : World) (hs : Sents w at_) (hp : w.heap[pg]? = some (.cells #[txv p, errS at_ 5] 64 (0, 0))) :
    Calls Tryz.prog 9 #[pathE pg] w fun e w' => e = .returned (toldP 6 p) ∧ Below w.heap.size w w' := by
  obtain ⟨h0, h1, h2, h3, h4, h5, h6, hap, hbl⟩ := hs
  clear hap hbl
  have g0 : ∀ o, (w.alloc o).cell? ⟨1, 0, none⟩ = some (.iface 221 (.pointer (some (at_ 0)))) := fun o => by rw [cell_old _ _ ⟨_, 0, none⟩ (cell_lt h0)]; exact h0
  have g1 : ∀ o, (w.alloc o).cell? ⟨2, 0, none⟩ = some (.iface 221 (.pointer (some (at_ 1)))) := fun o => by rw [cell_old _ _ ⟨_, 0, none⟩ (cell_lt h1)]; exact h1
  have g2 : ∀ o, (w.alloc o).cell? ⟨3, 0, none⟩ = some (.iface 221 (.pointer (some (at_ 2)))) := fun o => by rw [cell_old _ _ ⟨_, 0, none⟩ (cell_lt h2)]; exact h2
  have g3 : ∀ o, (w.alloc o).cell? ⟨4, 0, none⟩ = some (.iface 221 (.pointer (some (at_ 3)))) := fun o => by rw [cell_old _ _ ⟨_, 0, none⟩ (cell_lt h3)]; exact h3
  have g4 : ∀ o, (w.alloc o).cell? ⟨5, 0, none⟩ = some (.iface 221 (.pointer (some (at_ 4)))) := fun o => by rw [cell_old _ _ ⟨_, 0, none⟩ (cell_lt h4)]; exact h4
  have g6 : ∀ o, (w.alloc o).cell? ⟨0, 0, none⟩ = some (.iface 221 (.pointer (some (at_ 6)))) := fun o => by rw [cell_old _ _ ⟨_, 0, none⟩ (cell_lt h6)]; exact h6
  have H5 := hide h5
  have HP := hide hp
  clear h0 h1 h2 h3 h4 h5 h6 hp
  have hya := assert_path (.pointer (some ⟨pg, 0, none⟩))
  have hsm : ∀ W, (binOp .eql 39 (.iface 221 (.pointer (some (at_ 5)))) (.iface 221 (.pointer (some (at_ 5))))).run Tryz.prog W = .ok (.bool true) W := fun W => by
    obtain ⟨i, hi, hcmp⟩ := Option.map_eq_some_iff.1 compPtr
    obtain ⟨j, hj, hjs⟩ := Option.map_eq_some_iff.1 sizeStr
    exact run_eql_iface_ptr_same W (at_ 5) Tryz.underlying39 Tryz.underlying221 hi hcmp hj
  unfold pathE
  go_enter Tryz.func9, Tryz.ntmps9
  go_wp2_with fail
  obtain ⟨s3, b1, -, b3, hb3⟩ := alloc3 w (.cells #[.int .i64 0, .string ⟨#[]⟩] 26) (.cells #[.nilIface, .iface 221 (.pointer (some (at_ 0))), .iface 221 (.pointer (some (at_ 1))), .iface 221 (.pointer (some (at_ 2))), .iface 221 (.pointer (some (at_ 3))), .iface 221 (.pointer (some (at_ 4))), .nilIface, .iface 221 (.pointer (some (at_ 6)))] 39) (.cells #[.pointer none] 61)
  generalize (((w.alloc (.cells #[.int .i64 0, .string ⟨#[]⟩] 26)).alloc (.cells #[.nilIface, .iface 221 (.pointer (some (at_ 0))), .iface 221 (.pointer (some (at_ 1))), .iface 221 (.pointer (some (at_ 2))), .iface 221 (.pointer (some (at_ 3))), .iface 221 (.pointer (some (at_ 4))), .nilIface, .iface 221 (.pointer (some (at_ 6)))] 39)).alloc (.cells #[.pointer none] 61)) = W3 at *
  have q5 : W3.cell? ⟨6, 0, none⟩ = some (.iface 221 (.pointer (some (at_ 5)))) := by rw [hb3.cell (p := ⟨_, 0, none⟩) (cell_lt H5.out)]; exact H5.out
  have HP3 : W3.heap[pg]? = some (.cells #[txv p, errS at_ 5] 64 (0, 0)) := by rw [hb3.block _ (heap_some_lt HP.out)]; exact HP.out
  have q0 : W3.cell? ⟨pg, 0, none⟩ = some (.string ⟨p.toArray⟩) := (dcell HP3 0 (txv p) rfl).1
  have q1 : W3.cell? ⟨pg, 1, none⟩ = some (.iface 221 (.pointer (some (at_ 5)))) := (dcell HP3 1 (errS at_ 5) rfl).1
  have r0 := dcell b1 0 _ rfl
  have r1 := dcell b1 1 _ rfl
  obtain ⟨c0, z0⟩ := r0
  obtain ⟨c1, z1⟩ := r1
  have Q1 := hide q1
  have HB1 := hide b1
  have HB3 := hide hb3
  clear HP3 b1 b3 hb3 s3
  go_region_with (go_at_call 20; refine (is_path pg (at_ 5) _ ?_).mono ?_; exact Q1.out; rintro r w1 ⟨rfl, rfl⟩)
  all_goals go_wp2_with fail
  all_goals exact bodyPost_ret (v := toldP 6 p) (results_cell_row Tryz.results9 _ _ w.heap.size 26 _ (0, 0) _ rfl (told_end (by exact HB1.out) 6 p rfl) Tryz.underlying26 rfl (by kernel_rfl)) rfl ⟨rfl, below_sets2 HB3.out.drew⟩
set_option maxHeartbeats 1000000 in
theorem of_own (at_ : Nat → Addr) (pg : Nat) (p : List UInt8) (w : World) (hs : Sents w at_) (hET : w.cell? ⟨7, 0, none⟩ = some (tyV 39)) (hpe : PErr w pg p) :
    Calls Tryz.prog 9 #[pathE pg] w fun e w' => e = .returned (toldP 8 p) ∧ Below w.heap.size w w' := by
  obtain ⟨h0, h1, h2, h3, h4, h5, h6, hap, hbl⟩ := hs
  clear hap hbl
  have g0 : ∀ o, (w.alloc o).cell? ⟨1, 0, none⟩ = some (.iface 221 (.pointer (some (at_ 0)))) := fun o => by rw [cell_old _ _ ⟨_, 0, none⟩ (cell_lt h0)]; exact h0
  have g1 : ∀ o, (w.alloc o).cell? ⟨2, 0, none⟩ = some (.iface 221 (.pointer (some (at_ 1)))) := fun o => by rw [cell_old _ _ ⟨_, 0, none⟩ (cell_lt h1)]; exact h1
  have g2 : ∀ o, (w.alloc o).cell? ⟨3, 0, none⟩ = some (.iface 221 (.pointer (some (at_ 2)))) := fun o => by rw [cell_old _ _ ⟨_, 0, none⟩ (cell_lt h2)]; exact h2
  have g3 : ∀ o, (w.alloc o).cell? ⟨4, 0, none⟩ = some (.iface 221 (.pointer (some (at_ 3)))) := fun o => by rw [cell_old _ _ ⟨_, 0, none⟩ (cell_lt h3)]; exact h3
  have g4 : ∀ o, (w.alloc o).cell? ⟨5, 0, none⟩ = some (.iface 221 (.pointer (some (at_ 4)))) := fun o => by rw [cell_old _ _ ⟨_, 0, none⟩ (cell_lt h4)]; exact h4
  have g6 : ∀ o, (w.alloc o).cell? ⟨0, 0, none⟩ = some (.iface 221 (.pointer (some (at_ 6)))) := fun o => by rw [cell_old _ _ ⟨_, 0, none⟩ (cell_lt h6)]; exact h6
  obtain ⟨e, hp, he⟩ := hpe
  have H5 := hide h5
  have HET := hide hET
  have HP := hide hp
  clear h0 h1 h2 h3 h4 h5 h6 hp
  have hya := assert_path (.pointer (some ⟨pg, 0, none⟩))
  clear he hET
  have hty := fun W => run_eql_iface_types (P := Tryz.prog) 61 221 (.pointer (some ⟨e, 0, none⟩)) (.pointer (some (at_ 5))) Tryz.underlying39 (by decide) W
  have hsm : ∀ W, (binOp .eql 39 (.iface 61 (.pointer (some ⟨e, 0, none⟩))) (.iface 61 (.pointer (some ⟨e, 0, none⟩)))).run Tryz.prog W = .ok (.bool true) W := fun W => by
    obtain ⟨i, hi, hcmp⟩ := Option.map_eq_some_iff.1 compOwn
    obtain ⟨j, hj, hjs⟩ := Option.map_eq_some_iff.1 sizeOwn
    exact run_eql_iface_ptr_same W ⟨e, 0, none⟩ Tryz.underlying39 Tryz.underlying61 hi hcmp hj
  unfold pathE
  go_enter Tryz.func9, Tryz.ntmps9
  go_wp2_with fail
  obtain ⟨s3, b1, -, b3, hb3⟩ := alloc3 w (.cells #[.int .i64 0, .string ⟨#[]⟩] 26) (.cells #[.nilIface, .iface 221 (.pointer (some (at_ 0))), .iface 221 (.pointer (some (at_ 1))), .iface 221 (.pointer (some (at_ 2))), .iface 221 (.pointer (some (at_ 3))), .iface 221 (.pointer (some (at_ 4))), .nilIface, .iface 221 (.pointer (some (at_ 6)))] 39) (.cells #[.pointer none] 61)
  generalize (((w.alloc (.cells #[.int .i64 0, .string ⟨#[]⟩] 26)).alloc (.cells #[.nilIface, .iface 221 (.pointer (some (at_ 0))), .iface 221 (.pointer (some (at_ 1))), .iface 221 (.pointer (some (at_ 2))), .iface 221 (.pointer (some (at_ 3))), .iface 221 (.pointer (some (at_ 4))), .nilIface, .iface 221 (.pointer (some (at_ 6)))] 39)).alloc (.cells #[.pointer none] 61)) = W3 at *
  have q5 : W3.cell? ⟨6, 0, none⟩ = some (.iface 221 (.pointer (some (at_ 5)))) := by rw [hb3.cell (p := ⟨_, 0, none⟩) (cell_lt H5.out)]; exact H5.out
  have hP3 : W3.heap[pg]? = some (.cells #[txv p, errV e] 64 (0, 0)) := by rw [hb3.block _ (heap_some_lt HP.out)]; exact HP.out
  have q1 : W3.cell? ⟨pg, 1, none⟩ = some (.iface 61 (.pointer (some ⟨e, 0, none⟩))) := (dcell hP3 1 (errV e) rfl).1
  have QE : Hid (W3.cell? ⟨7, 0, none⟩ = some (tyV 39)) := by show _ = _; rw [hb3.cell (p := ⟨_, 0, none⟩) (cell_lt HET.out)]; exact HET.out
  have Q1 := hide q1
  have HP3 := hide hP3
  have HB1 := hide b1
  have HB2 := hide b3
  have HB3 := hide hb3
  have HLT : Hid (pg < w.heap.size) := heap_some_lt HP.out
  have HS3 := hide s3
  clear b1 b3 hb3 s3 hP3
  go_region
  all_goals go_wp2_with fail
  all_goals clear q1 q5
  all_goals go_region_with (go_at_call 21; refine (as_own pg e p w _ ?_ ?_ ?_ ?_ ?_ ?_ ?_).mono ?_; exact HB3.out.drew.drew; exact HS3.out; exact HP3.out; exact HLT.out; exact HB1.out; exact HB2.out; exact QE.out; rintro r w3 ⟨rfl, k0, k1, k2, hr4, hbw⟩; obtain ⟨c0, z0⟩ := dcell hr4 0 _ rfl; obtain ⟨c1, z1⟩ := dcell hr4 1 _ rfl; have HR4 := hide hr4; have HBW := hide hbw; clear hr4 hbw)
  all_goals go_wp2_with fail
  all_goals exact bodyPost_ret (v := toldP 8 p) (results_cell_row Tryz.results9 _ _ w.heap.size 26 _ (0, 0) _ rfl (told_end (by exact HR4.out) 8 p rfl) Tryz.underlying26 rfl (by kernel_rfl)) rfl ⟨rfl, below_sets2 HBW.out⟩
end Go.Proofs.YtoomnijgdpbphaaGreatDoor

namespace Go.Proofs.YtoomnijgdpbphaaGreatDoor
open Go.RowKit
set_option maxRecDepth 100000

set_option maxHeartbeats 1000000 in
theorem of_sent0 (at_ : Nat → Addr) (w : World) (hs : Sents w at_) :
    Calls Tryz.prog 9 #[.iface 221 (.pointer (some (at_ 0)))] w fun e w' => e = .returned (told 1) ∧ Below w.heap.size w w' := by
  obtain ⟨h0, h1, h2, h3, h4, h5, h6, hap, hbl⟩ := hs
  have Hap := hide hap
  have Hbl := hide hbl
  clear hap hbl h5
  have g0 : ∀ o, (w.alloc o).cell? ⟨1, 0, none⟩ = some (.iface 221 (.pointer (some (at_ 0)))) := fun o => by rw [cell_old _ _ ⟨_, 0, none⟩ (cell_lt h0)]; exact h0
  have g1 : ∀ o, (w.alloc o).cell? ⟨2, 0, none⟩ = some (.iface 221 (.pointer (some (at_ 1)))) := fun o => by rw [cell_old _ _ ⟨_, 0, none⟩ (cell_lt h1)]; exact h1
  have g2 : ∀ o, (w.alloc o).cell? ⟨3, 0, none⟩ = some (.iface 221 (.pointer (some (at_ 2)))) := fun o => by rw [cell_old _ _ ⟨_, 0, none⟩ (cell_lt h2)]; exact h2
  have g3 : ∀ o, (w.alloc o).cell? ⟨4, 0, none⟩ = some (.iface 221 (.pointer (some (at_ 3)))) := fun o => by rw [cell_old _ _ ⟨_, 0, none⟩ (cell_lt h3)]; exact h3
  have g4 : ∀ o, (w.alloc o).cell? ⟨5, 0, none⟩ = some (.iface 221 (.pointer (some (at_ 4)))) := fun o => by rw [cell_old _ _ ⟨_, 0, none⟩ (cell_lt h4)]; exact h4
  have g6 : ∀ o, (w.alloc o).cell? ⟨0, 0, none⟩ = some (.iface 221 (.pointer (some (at_ 6)))) := fun o => by rw [cell_old _ _ ⟨_, 0, none⟩ (cell_lt h6)]; exact h6
  clear h0 h1 h2 h3 h4 h6
  have hno := assert_no (.pointer (some (at_ 0)))
  have hsm : ∀ W, (binOp .eql 39 (.iface 221 (.pointer (some (at_ 0)))) (.iface 221 (.pointer (some (at_ 0))))).run Tryz.prog W = .ok (.bool true) W := fun W => by
    obtain ⟨i, hi, hcmp⟩ := Option.map_eq_some_iff.1 compPtr
    obtain ⟨j, hj, hjs⟩ := Option.map_eq_some_iff.1 sizeStr
    exact run_eql_iface_ptr_same W (at_ 0) Tryz.underlying39 Tryz.underlying221 hi hcmp hj
  go_enter Tryz.func9, Tryz.ntmps9
  go_wp2_with fail
  refine wp_loop_rounds 2 ?_
  rw [rounds_succ]
  go_wp2_with fail
  rw [rounds_succ]
  go_wp2_with fail
  refine bodyPost_ret (v := told 1) (results_cell_row Tryz.results9 _ _ w.heap.size 26 _ (0, 0) _ rfl (heap_alloc_old (heap_alloc_old (heap_alloc_last _ _))) Tryz.underlying26 rfl (by kernel_rfl)) rfl ⟨rfl, ?_⟩
  exact ((below_alloc _ _).trans ((below_alloc _ _).mono (by simp))).trans ((below_alloc _ _).mono (by simp; omega))
set_option maxHeartbeats 1000000 in
theorem of_sent2 (at_ : Nat → Addr) (w : World) (hs : Sents w at_) :
    Calls Tryz.prog 9 #[.iface 221 (.pointer (some (at_ 2)))] w fun e w' => e = .returned (told 3) ∧ Below w.heap.size w w' := by
  obtain ⟨h0, h1, h2, h3, h4, h5, h6, hap, hbl⟩ := hs
  have Hap := hide hap
  have Hbl := hide hbl
  clear hap hbl h5
  have g0 : ∀ o, (w.alloc o).cell? ⟨1, 0, none⟩ = some (.iface 221 (.pointer (some (at_ 0)))) := fun o => by rw [cell_old _ _ ⟨_, 0, none⟩ (cell_lt h0)]; exact h0
  have g1 : ∀ o, (w.alloc o).cell? ⟨2, 0, none⟩ = some (.iface 221 (.pointer (some (at_ 1)))) := fun o => by rw [cell_old _ _ ⟨_, 0, none⟩ (cell_lt h1)]; exact h1
  have g2 : ∀ o, (w.alloc o).cell? ⟨3, 0, none⟩ = some (.iface 221 (.pointer (some (at_ 2)))) := fun o => by rw [cell_old _ _ ⟨_, 0, none⟩ (cell_lt h2)]; exact h2
  have g3 : ∀ o, (w.alloc o).cell? ⟨4, 0, none⟩ = some (.iface 221 (.pointer (some (at_ 3)))) := fun o => by rw [cell_old _ _ ⟨_, 0, none⟩ (cell_lt h3)]; exact h3
  have g4 : ∀ o, (w.alloc o).cell? ⟨5, 0, none⟩ = some (.iface 221 (.pointer (some (at_ 4)))) := fun o => by rw [cell_old _ _ ⟨_, 0, none⟩ (cell_lt h4)]; exact h4
  have g6 : ∀ o, (w.alloc o).cell? ⟨0, 0, none⟩ = some (.iface 221 (.pointer (some (at_ 6)))) := fun o => by rw [cell_old _ _ ⟨_, 0, none⟩ (cell_lt h6)]; exact h6
  clear h0 h1 h2 h3 h4 h6
  have hno := assert_no (.pointer (some (at_ 2)))
  have hd0 : ∀ o1 o2 o3, (binOp .eql 39 (.iface 221 (.pointer (some (at_ 2)))) (.iface 221 (.pointer (some (at_ 0))))).run Tryz.prog (((w.alloc o1).alloc o2).alloc o3) = .ok (.bool false) (((w.alloc o1).alloc o2).alloc o3) := fun o1 o2 o3 => by
    obtain ⟨c0, t0, e0⟩ := Hbl.out 0 (by decide)
    obtain ⟨c1, t1, e1⟩ := Hbl.out 2 (by decide)
    exact errs_differ (Hap.out 2 0 (by decide) (by decide) (by decide)) ⟨c1, t1, heap_alloc_old (heap_alloc_old (heap_alloc_old e1))⟩ ⟨c0, t0, heap_alloc_old (heap_alloc_old (heap_alloc_old e0))⟩
  have hd1 : ∀ o1 o2 o3, (binOp .eql 39 (.iface 221 (.pointer (some (at_ 2)))) (.iface 221 (.pointer (some (at_ 1))))).run Tryz.prog (((w.alloc o1).alloc o2).alloc o3) = .ok (.bool false) (((w.alloc o1).alloc o2).alloc o3) := fun o1 o2 o3 => by
    obtain ⟨c0, t0, e0⟩ := Hbl.out 1 (by decide)
    obtain ⟨c1, t1, e1⟩ := Hbl.out 2 (by decide)
    exact errs_differ (Hap.out 2 1 (by decide) (by decide) (by decide)) ⟨c1, t1, heap_alloc_old (heap_alloc_old (heap_alloc_old e1))⟩ ⟨c0, t0, heap_alloc_old (heap_alloc_old (heap_alloc_old e0))⟩
  have hsm : ∀ W, (binOp .eql 39 (.iface 221 (.pointer (some (at_ 2)))) (.iface 221 (.pointer (some (at_ 2))))).run Tryz.prog W = .ok (.bool true) W := fun W => by
    obtain ⟨i, hi, hcmp⟩ := Option.map_eq_some_iff.1 compPtr
    obtain ⟨j, hj, hjs⟩ := Option.map_eq_some_iff.1 sizeStr
    exact run_eql_iface_ptr_same W (at_ 2) Tryz.underlying39 Tryz.underlying221 hi hcmp hj
  go_enter Tryz.func9, Tryz.ntmps9
  go_wp2_with fail
  refine wp_loop_rounds 4 ?_
  rw [rounds_succ]
  go_wp2_with fail
  rw [rounds_succ]
  go_wp2_with fail
  rw [rounds_succ]
  go_wp2_with fail
  rw [rounds_succ]
  go_wp2_with fail
  refine bodyPost_ret (v := told 3) (results_cell_row Tryz.results9 _ _ w.heap.size 26 _ (0, 0) _ rfl (heap_alloc_old (heap_alloc_old (heap_alloc_last _ _))) Tryz.underlying26 rfl (by kernel_rfl)) rfl ⟨rfl, ?_⟩
  exact ((below_alloc _ _).trans ((below_alloc _ _).mono (by simp))).trans ((below_alloc _ _).mono (by simp; omega))
set_option maxHeartbeats 1000000 in
theorem of_sent4 (at_ : Nat → Addr) (w : World) (hs : Sents w at_) :
    Calls Tryz.prog 9 #[.iface 221 (.pointer (some (at_ 4)))] w fun e w' => e = .returned (told 5) ∧ Below w.heap.size w w' := by
  obtain ⟨h0, h1, h2, h3, h4, h5, h6, hap, hbl⟩ := hs
  have Hap := hide hap
  have Hbl := hide hbl
  clear hap hbl h5
  have g0 : ∀ o, (w.alloc o).cell? ⟨1, 0, none⟩ = some (.iface 221 (.pointer (some (at_ 0)))) := fun o => by rw [cell_old _ _ ⟨_, 0, none⟩ (cell_lt h0)]; exact h0
  have g1 : ∀ o, (w.alloc o).cell? ⟨2, 0, none⟩ = some (.iface 221 (.pointer (some (at_ 1)))) := fun o => by rw [cell_old _ _ ⟨_, 0, none⟩ (cell_lt h1)]; exact h1
  have g2 : ∀ o, (w.alloc o).cell? ⟨3, 0, none⟩ = some (.iface 221 (.pointer (some (at_ 2)))) := fun o => by rw [cell_old _ _ ⟨_, 0, none⟩ (cell_lt h2)]; exact h2
  have g3 : ∀ o, (w.alloc o).cell? ⟨4, 0, none⟩ = some (.iface 221 (.pointer (some (at_ 3)))) := fun o => by rw [cell_old _ _ ⟨_, 0, none⟩ (cell_lt h3)]; exact h3
  have g4 : ∀ o, (w.alloc o).cell? ⟨5, 0, none⟩ = some (.iface 221 (.pointer (some (at_ 4)))) := fun o => by rw [cell_old _ _ ⟨_, 0, none⟩ (cell_lt h4)]; exact h4
  have g6 : ∀ o, (w.alloc o).cell? ⟨0, 0, none⟩ = some (.iface 221 (.pointer (some (at_ 6)))) := fun o => by rw [cell_old _ _ ⟨_, 0, none⟩ (cell_lt h6)]; exact h6
  clear h0 h1 h2 h3 h4 h6
  have hno := assert_no (.pointer (some (at_ 4)))
  have hd0 : ∀ o1 o2 o3, (binOp .eql 39 (.iface 221 (.pointer (some (at_ 4)))) (.iface 221 (.pointer (some (at_ 0))))).run Tryz.prog (((w.alloc o1).alloc o2).alloc o3) = .ok (.bool false) (((w.alloc o1).alloc o2).alloc o3) := fun o1 o2 o3 => by
    obtain ⟨c0, t0, e0⟩ := Hbl.out 0 (by decide)
    obtain ⟨c1, t1, e1⟩ := Hbl.out 4 (by decide)
    exact errs_differ (Hap.out 4 0 (by decide) (by decide) (by decide)) ⟨c1, t1, heap_alloc_old (heap_alloc_old (heap_alloc_old e1))⟩ ⟨c0, t0, heap_alloc_old (heap_alloc_old (heap_alloc_old e0))⟩
  have hd1 : ∀ o1 o2 o3, (binOp .eql 39 (.iface 221 (.pointer (some (at_ 4)))) (.iface 221 (.pointer (some (at_ 1))))).run Tryz.prog (((w.alloc o1).alloc o2).alloc o3) = .ok (.bool false) (((w.alloc o1).alloc o2).alloc o3) := fun o1 o2 o3 => by
    obtain ⟨c0, t0, e0⟩ := Hbl.out 1 (by decide)
    obtain ⟨c1, t1, e1⟩ := Hbl.out 4 (by decide)
    exact errs_differ (Hap.out 4 1 (by decide) (by decide) (by decide)) ⟨c1, t1, heap_alloc_old (heap_alloc_old (heap_alloc_old e1))⟩ ⟨c0, t0, heap_alloc_old (heap_alloc_old (heap_alloc_old e0))⟩
  have hd2 : ∀ o1 o2 o3, (binOp .eql 39 (.iface 221 (.pointer (some (at_ 4)))) (.iface 221 (.pointer (some (at_ 2))))).run Tryz.prog (((w.alloc o1).alloc o2).alloc o3) = .ok (.bool false) (((w.alloc o1).alloc o2).alloc o3) := fun o1 o2 o3 => by
    obtain ⟨c0, t0, e0⟩ := Hbl.out 2 (by decide)
    obtain ⟨c1, t1, e1⟩ := Hbl.out 4 (by decide)
    exact errs_differ (Hap.out 4 2 (by decide) (by decide) (by decide)) ⟨c1, t1, heap_alloc_old (heap_alloc_old (heap_alloc_old e1))⟩ ⟨c0, t0, heap_alloc_old (heap_alloc_old (heap_alloc_old e0))⟩
  have hd3 : ∀ o1 o2 o3, (binOp .eql 39 (.iface 221 (.pointer (some (at_ 4)))) (.iface 221 (.pointer (some (at_ 3))))).run Tryz.prog (((w.alloc o1).alloc o2).alloc o3) = .ok (.bool false) (((w.alloc o1).alloc o2).alloc o3) := fun o1 o2 o3 => by
    obtain ⟨c0, t0, e0⟩ := Hbl.out 3 (by decide)
    obtain ⟨c1, t1, e1⟩ := Hbl.out 4 (by decide)
    exact errs_differ (Hap.out 4 3 (by decide) (by decide) (by decide)) ⟨c1, t1, heap_alloc_old (heap_alloc_old (heap_alloc_old e1))⟩ ⟨c0, t0, heap_alloc_old (heap_alloc_old (heap_alloc_old e0))⟩
  have hsm : ∀ W, (binOp .eql 39 (.iface 221 (.pointer (some (at_ 4)))) (.iface 221 (.pointer (some (at_ 4))))).run Tryz.prog W = .ok (.bool true) W := fun W => by
    obtain ⟨i, hi, hcmp⟩ := Option.map_eq_some_iff.1 compPtr
    obtain ⟨j, hj, hjs⟩ := Option.map_eq_some_iff.1 sizeStr
    exact run_eql_iface_ptr_same W (at_ 4) Tryz.underlying39 Tryz.underlying221 hi hcmp hj
  go_enter Tryz.func9, Tryz.ntmps9
  go_wp2_with fail
  refine wp_loop_rounds 6 ?_
  rw [rounds_succ]
  go_wp2_with fail
  rw [rounds_succ]
  go_wp2_with fail
  rw [rounds_succ]
  go_wp2_with fail
  rw [rounds_succ]
  go_wp2_with fail
  rw [rounds_succ]
  go_wp2_with fail
  rw [rounds_succ]
  go_wp2_with fail
  refine bodyPost_ret (v := told 5) (results_cell_row Tryz.results9 _ _ w.heap.size 26 _ (0, 0) _ rfl (heap_alloc_old (heap_alloc_old (heap_alloc_last _ _))) Tryz.underlying26 rfl (by kernel_rfl)) rfl ⟨rfl, ?_⟩
  exact ((below_alloc _ _).trans ((below_alloc _ _).mono (by simp))).trans ((below_alloc _ _).mono (by simp; omega))
set_option maxHeartbeats 1000000 in
theorem of_sent6 (at_ : Nat → Addr) (w : World) (hs : Sents w at_) :
    Calls Tryz.prog 9 #[.iface 221 (.pointer (some (at_ 6)))] w fun e w' => e = .returned (told 7) ∧ Below w.heap.size w w' := by
  obtain ⟨h0, h1, h2, h3, h4, h5, h6, hap, hbl⟩ := hs
  have Hap := hide hap
  have Hbl := hide hbl
  clear hap hbl h5
  have g0 : ∀ o, (w.alloc o).cell? ⟨1, 0, none⟩ = some (.iface 221 (.pointer (some (at_ 0)))) := fun o => by rw [cell_old _ _ ⟨_, 0, none⟩ (cell_lt h0)]; exact h0
  have g1 : ∀ o, (w.alloc o).cell? ⟨2, 0, none⟩ = some (.iface 221 (.pointer (some (at_ 1)))) := fun o => by rw [cell_old _ _ ⟨_, 0, none⟩ (cell_lt h1)]; exact h1
  have g2 : ∀ o, (w.alloc o).cell? ⟨3, 0, none⟩ = some (.iface 221 (.pointer (some (at_ 2)))) := fun o => by rw [cell_old _ _ ⟨_, 0, none⟩ (cell_lt h2)]; exact h2
  have g3 : ∀ o, (w.alloc o).cell? ⟨4, 0, none⟩ = some (.iface 221 (.pointer (some (at_ 3)))) := fun o => by rw [cell_old _ _ ⟨_, 0, none⟩ (cell_lt h3)]; exact h3
  have g4 : ∀ o, (w.alloc o).cell? ⟨5, 0, none⟩ = some (.iface 221 (.pointer (some (at_ 4)))) := fun o => by rw [cell_old _ _ ⟨_, 0, none⟩ (cell_lt h4)]; exact h4
  have g6 : ∀ o, (w.alloc o).cell? ⟨0, 0, none⟩ = some (.iface 221 (.pointer (some (at_ 6)))) := fun o => by rw [cell_old _ _ ⟨_, 0, none⟩ (cell_lt h6)]; exact h6
  clear h0 h1 h2 h3 h4 h6
  have hno := assert_no (.pointer (some (at_ 6)))
  have hd0 : ∀ o1 o2 o3, (binOp .eql 39 (.iface 221 (.pointer (some (at_ 6)))) (.iface 221 (.pointer (some (at_ 0))))).run Tryz.prog (((w.alloc o1).alloc o2).alloc o3) = .ok (.bool false) (((w.alloc o1).alloc o2).alloc o3) := fun o1 o2 o3 => by
    obtain ⟨c0, t0, e0⟩ := Hbl.out 0 (by decide)
    obtain ⟨c1, t1, e1⟩ := Hbl.out 6 (by decide)
    exact errs_differ (Hap.out 6 0 (by decide) (by decide) (by decide)) ⟨c1, t1, heap_alloc_old (heap_alloc_old (heap_alloc_old e1))⟩ ⟨c0, t0, heap_alloc_old (heap_alloc_old (heap_alloc_old e0))⟩
  have hd1 : ∀ o1 o2 o3, (binOp .eql 39 (.iface 221 (.pointer (some (at_ 6)))) (.iface 221 (.pointer (some (at_ 1))))).run Tryz.prog (((w.alloc o1).alloc o2).alloc o3) = .ok (.bool false) (((w.alloc o1).alloc o2).alloc o3) := fun o1 o2 o3 => by
    obtain ⟨c0, t0, e0⟩ := Hbl.out 1 (by decide)
    obtain ⟨c1, t1, e1⟩ := Hbl.out 6 (by decide)
    exact errs_differ (Hap.out 6 1 (by decide) (by decide) (by decide)) ⟨c1, t1, heap_alloc_old (heap_alloc_old (heap_alloc_old e1))⟩ ⟨c0, t0, heap_alloc_old (heap_alloc_old (heap_alloc_old e0))⟩
  have hd2 : ∀ o1 o2 o3, (binOp .eql 39 (.iface 221 (.pointer (some (at_ 6)))) (.iface 221 (.pointer (some (at_ 2))))).run Tryz.prog (((w.alloc o1).alloc o2).alloc o3) = .ok (.bool false) (((w.alloc o1).alloc o2).alloc o3) := fun o1 o2 o3 => by
    obtain ⟨c0, t0, e0⟩ := Hbl.out 2 (by decide)
    obtain ⟨c1, t1, e1⟩ := Hbl.out 6 (by decide)
    exact errs_differ (Hap.out 6 2 (by decide) (by decide) (by decide)) ⟨c1, t1, heap_alloc_old (heap_alloc_old (heap_alloc_old e1))⟩ ⟨c0, t0, heap_alloc_old (heap_alloc_old (heap_alloc_old e0))⟩
  have hd3 : ∀ o1 o2 o3, (binOp .eql 39 (.iface 221 (.pointer (some (at_ 6)))) (.iface 221 (.pointer (some (at_ 3))))).run Tryz.prog (((w.alloc o1).alloc o2).alloc o3) = .ok (.bool false) (((w.alloc o1).alloc o2).alloc o3) := fun o1 o2 o3 => by
    obtain ⟨c0, t0, e0⟩ := Hbl.out 3 (by decide)
    obtain ⟨c1, t1, e1⟩ := Hbl.out 6 (by decide)
    exact errs_differ (Hap.out 6 3 (by decide) (by decide) (by decide)) ⟨c1, t1, heap_alloc_old (heap_alloc_old (heap_alloc_old e1))⟩ ⟨c0, t0, heap_alloc_old (heap_alloc_old (heap_alloc_old e0))⟩
  have hd4 : ∀ o1 o2 o3, (binOp .eql 39 (.iface 221 (.pointer (some (at_ 6)))) (.iface 221 (.pointer (some (at_ 4))))).run Tryz.prog (((w.alloc o1).alloc o2).alloc o3) = .ok (.bool false) (((w.alloc o1).alloc o2).alloc o3) := fun o1 o2 o3 => by
    obtain ⟨c0, t0, e0⟩ := Hbl.out 4 (by decide)
    obtain ⟨c1, t1, e1⟩ := Hbl.out 6 (by decide)
    exact errs_differ (Hap.out 6 4 (by decide) (by decide) (by decide)) ⟨c1, t1, heap_alloc_old (heap_alloc_old (heap_alloc_old e1))⟩ ⟨c0, t0, heap_alloc_old (heap_alloc_old (heap_alloc_old e0))⟩
  have hsm : ∀ W, (binOp .eql 39 (.iface 221 (.pointer (some (at_ 6)))) (.iface 221 (.pointer (some (at_ 6))))).run Tryz.prog W = .ok (.bool true) W := fun W => by
    obtain ⟨i, hi, hcmp⟩ := Option.map_eq_some_iff.1 compPtr
    obtain ⟨j, hj, hjs⟩ := Option.map_eq_some_iff.1 sizeStr
    exact run_eql_iface_ptr_same W (at_ 6) Tryz.underlying39 Tryz.underlying221 hi hcmp hj
  go_enter Tryz.func9, Tryz.ntmps9
  go_wp2_with fail
  refine wp_loop_rounds 8 ?_
  rw [rounds_succ]
  go_wp2_with fail
  rw [rounds_succ]
  go_wp2_with fail
  rw [rounds_succ]
  go_wp2_with fail
  rw [rounds_succ]
  go_wp2_with fail
  rw [rounds_succ]
  go_wp2_with fail
  rw [rounds_succ]
  go_wp2_with fail
  rw [rounds_succ]
  go_wp2_with fail
  rw [rounds_succ]
  go_wp2_with fail
  refine bodyPost_ret (v := told 7) (results_cell_row Tryz.results9 _ _ w.heap.size 26 _ (0, 0) _ rfl (heap_alloc_old (heap_alloc_old (heap_alloc_last _ _))) Tryz.underlying26 rfl (by kernel_rfl)) rfl ⟨rfl, ?_⟩
  exact ((below_alloc _ _).trans ((below_alloc _ _).mono (by simp))).trans ((below_alloc _ _).mono (by simp; omega))
end Go.Proofs.YtoomnijgdpbphaaGreatDoor
