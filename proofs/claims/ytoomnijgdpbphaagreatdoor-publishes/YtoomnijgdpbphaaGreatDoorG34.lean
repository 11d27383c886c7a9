import Derived.Test.YtoomnijgdpbphaaGreatDoorG29
import Derived.Test.YtoomnijgdpbphaaGreatDoorG04
import Derived.WalkKit
import Derived.LaidEql
import Derived.Stop.Asserts
import Derived.RowKitTokens

namespace Go.Proofs.YtoomnijgdpbphaaGreatDoor
open Go.RowKit
set_option maxRecDepth 100000

theorem Sents.below {w w' : World} {at_ : Nat → Addr} (h : Sents w at_) (hb : Below w.heap.size w w') : Sents w' at_ := by
  have c : ∀ {a : Addr} {v : Value}, w.cell? a = some v → w'.cell? a = some v := fun {a v} e => by rw [hb.cell (p := a) (cell_lt e)]; exact e
  refine ⟨c h.entry, c h.range, c h.check, c h.old, c h.proof, c h.tile, c h.failed, h.apart, fun i hi => ?_⟩
  obtain ⟨cs, t, e⟩ := h.block i hi
  refine ⟨cs, t, ?_⟩
  rw [hb.block _ ?_]
  · exact e
  · rcases Nat.lt_or_ge (at_ i).block w.heap.size with h' | h'
    · exact h'
    · simp [Array.getElem?_eq_none h'] at e

/-- What an error is told as. -/
def told (n : Int) : Value := .agg #[.int .i64 n, .string ⟨#[]⟩]

set_option maxHeartbeats 1000000 in
theorem of_nil (at_ : Nat → Addr) (w : World) (hs : Sents w at_) :
    Calls Tryz.prog 9 #[.nilIface] w fun e w' => e = .returned (told 0) ∧ Below w.heap.size w w' := by
  obtain ⟨h0, h1, h2, h3, h4, h5, h6, hap, hbl⟩ := hs
  clear hap hbl h5
  have g0 : ∀ o, (w.alloc o).cell? ⟨1, 0, none⟩ = some (.iface 221 (.pointer (some (at_ 0)))) := fun o => by rw [cell_old _ _ ⟨_, 0, none⟩ (cell_lt h0)]; exact h0
  have g1 : ∀ o, (w.alloc o).cell? ⟨2, 0, none⟩ = some (.iface 221 (.pointer (some (at_ 1)))) := fun o => by rw [cell_old _ _ ⟨_, 0, none⟩ (cell_lt h1)]; exact h1
  have g2 : ∀ o, (w.alloc o).cell? ⟨3, 0, none⟩ = some (.iface 221 (.pointer (some (at_ 2)))) := fun o => by rw [cell_old _ _ ⟨_, 0, none⟩ (cell_lt h2)]; exact h2
  have g3 : ∀ o, (w.alloc o).cell? ⟨4, 0, none⟩ = some (.iface 221 (.pointer (some (at_ 3)))) := fun o => by rw [cell_old _ _ ⟨_, 0, none⟩ (cell_lt h3)]; exact h3
  have g4 : ∀ o, (w.alloc o).cell? ⟨5, 0, none⟩ = some (.iface 221 (.pointer (some (at_ 4)))) := fun o => by rw [cell_old _ _ ⟨_, 0, none⟩ (cell_lt h4)]; exact h4
  have g6 : ∀ o, (w.alloc o).cell? ⟨0, 0, none⟩ = some (.iface 221 (.pointer (some (at_ 6)))) := fun o => by rw [cell_old _ _ ⟨_, 0, none⟩ (cell_lt h6)]; exact h6
  clear h0 h1 h2 h3 h4 h6
  go_enter Tryz.func9, Tryz.ntmps9
  go_wp2_with fail
  refine bodyPost_ret (v := told 0) (results_cell_row Tryz.results9 _ _ w.heap.size 26 _ (0, 0) _ rfl (heap_alloc_old (heap_alloc_old (heap_alloc_last _ _))) Tryz.underlying26 rfl (by kernel_rfl)) rfl ⟨rfl, ?_⟩
  exact ((below_alloc _ _).trans ((below_alloc _ _).mono (by simp))).trans ((below_alloc _ _).mono (by simp; omega))
theorem assert_no (v : Value) (W : World) : (Instr.typeAssert (.iface 221 v) 39 62 true).run Tryz.prog W = .ok (.tuple #[.pointer none, .bool false]) W := by kernel_rfl
set_option maxHeartbeats 1000000 in
theorem of_range (at_ : Nat → Addr) (w : World) (hs : Sents w at_) :
    Calls Tryz.prog 9 #[.iface 221 (.pointer (some (at_ 1)))] w fun e w' => e = .returned (told 2) ∧ Below w.heap.size w w' := by
  obtain ⟨h0, h1, h2, h3, h4, h5, h6, hap, hbl⟩ := hs
  have Hap := hide (hap 1 0 (by decide) (by decide) (by decide))
  have Hbl := hide (And.intro (hbl 0 (by decide)) (hbl 1 (by decide)))
  clear hap hbl h5
  have g0 : ∀ o, (w.alloc o).cell? ⟨1, 0, none⟩ = some (.iface 221 (.pointer (some (at_ 0)))) := fun o => by rw [cell_old _ _ ⟨_, 0, none⟩ (cell_lt h0)]; exact h0
  have g1 : ∀ o, (w.alloc o).cell? ⟨2, 0, none⟩ = some (.iface 221 (.pointer (some (at_ 1)))) := fun o => by rw [cell_old _ _ ⟨_, 0, none⟩ (cell_lt h1)]; exact h1
  have g2 : ∀ o, (w.alloc o).cell? ⟨3, 0, none⟩ = some (.iface 221 (.pointer (some (at_ 2)))) := fun o => by rw [cell_old _ _ ⟨_, 0, none⟩ (cell_lt h2)]; exact h2
  have g3 : ∀ o, (w.alloc o).cell? ⟨4, 0, none⟩ = some (.iface 221 (.pointer (some (at_ 3)))) := fun o => by rw [cell_old _ _ ⟨_, 0, none⟩ (cell_lt h3)]; exact h3
  have g4 : ∀ o, (w.alloc o).cell? ⟨5, 0, none⟩ = some (.iface 221 (.pointer (some (at_ 4)))) := fun o => by rw [cell_old _ _ ⟨_, 0, none⟩ (cell_lt h4)]; exact h4
  have g6 : ∀ o, (w.alloc o).cell? ⟨0, 0, none⟩ = some (.iface 221 (.pointer (some (at_ 6)))) := fun o => by rw [cell_old _ _ ⟨_, 0, none⟩ (cell_lt h6)]; exact h6
  clear h0 h1 h2 h3 h4 h6
  have hno := assert_no (.pointer (some (at_ 1)))
  have hdf : ∀ o1 o2 o3, (binOp .eql 39 (.iface 221 (.pointer (some (at_ 1)))) (.iface 221 (.pointer (some (at_ 0))))).run Tryz.prog (((w.alloc o1).alloc o2).alloc o3) = .ok (.bool false) (((w.alloc o1).alloc o2).alloc o3) := fun o1 o2 o3 => by
    obtain ⟨⟨c0, t0, e0⟩, ⟨c1, t1, e1⟩⟩ := Hbl.out
    exact errs_differ Hap.out ⟨c1, t1, heap_alloc_old (heap_alloc_old (heap_alloc_old e1))⟩ ⟨c0, t0, heap_alloc_old (heap_alloc_old (heap_alloc_old e0))⟩
  have hsm : ∀ W, (binOp .eql 39 (.iface 221 (.pointer (some (at_ 1)))) (.iface 221 (.pointer (some (at_ 1))))).run Tryz.prog W = .ok (.bool true) W := fun W => by
    obtain ⟨i, hi, hcmp⟩ := Option.map_eq_some_iff.1 compPtr
    obtain ⟨j, hj, hjs⟩ := Option.map_eq_some_iff.1 sizeStr
    exact run_eql_iface_ptr_same W (at_ 1) Tryz.underlying39 Tryz.underlying221 hi hcmp hj
  go_enter Tryz.func9, Tryz.ntmps9
  go_wp2_with fail
  refine wp_loop_rounds 3 ?_
  rw [rounds_succ]
  go_wp2_with fail
  rw [rounds_succ]
  go_wp2_with fail
  rw [rounds_succ]
  go_wp2_with fail
  refine bodyPost_ret (v := told 2) (results_cell_row Tryz.results9 _ _ w.heap.size 26 _ (0, 0) _ rfl (heap_alloc_old (heap_alloc_old (heap_alloc_last _ _))) Tryz.underlying26 rfl (by kernel_rfl)) rfl ⟨rfl, ?_⟩
  exact ((below_alloc _ _).trans ((below_alloc _ _).mono (by simp))).trans ((below_alloc _ _).mono (by simp; omega))
end Go.Proofs.YtoomnijgdpbphaaGreatDoor

namespace Go.Proofs.YtoomnijgdpbphaaGreatDoor
open Go.RowKit Go.Extern.Stop Go.Stop Go.Extern
set_option maxRecDepth 100000

abbrev tyP (t : Nat) : Value := .pointer (some ⟨16, t, none⟩)
abbrev tyV (t : Nat) : Value := .iface 150 (.agg #[tyP t])

/-! What the entries of internal/reflectlite answer at the types that are asked here. -/
theorem ty_of_str (v : Value) (w : World) : (ReflectliteType.typeOf #[.iface 221 v]).run Tryz.prog w = .ok (tyV 221) w := by kernel_rfl
theorem ty_of_path (v : Value) (w : World) : (ReflectliteType.typeOf #[.iface 62 v]).run Tryz.prog w = .ok (tyV 62) w := by kernel_rfl
theorem ty_of_own (v : Value) (w : World) : (ReflectliteType.typeOf #[.iface 61 v]).run Tryz.prog w = .ok (tyV 61) w := by kernel_rfl
theorem meth_comparable (n : Nat) (v : Value) (w : World) : (Go.method (n + 1) 150 v "Comparable").run Tryz.prog w = .ok (195, v) w := by kernel_rfl
theorem meth_kind (n : Nat) (v : Value) (w : World) : (Go.method (n + 1 + 1) 150 (.agg #[v]) "Kind").run Tryz.prog w = .ok (179, v) w := by kernel_rfl
theorem meth_elem (n : Nat) (v : Value) (w : World) : (Go.method (n + 1) 150 v "Elem").run Tryz.prog w = .ok (196, v) w := by kernel_rfl
theorem meth_implements (n : Nat) (v : Value) (w : World) : (Go.method (n + 1) 150 v "Implements").run Tryz.prog w = .ok (197, v) w := by kernel_rfl
theorem meth_assignable (n : Nat) (v : Value) (w : World) : (Go.method (n + 1) 150 v "AssignableTo").run Tryz.prog w = .ok (194, v) w := by kernel_rfl
theorem meth_unwrap (n : Nat) (v : Value) (w : World) : (Go.method (n + 1) 62 v "Unwrap").run Tryz.prog w = .ok (189, v) w := by kernel_rfl
theorem no_is_path (v : Value) (xT : TypeId) (w : World) : (Instr.typeAssert (.iface 62 v) xT 152 true).run Tryz.prog w = .ok (.tuple #[.nilIface, .bool false]) w := run_typeAssert_lacksB Tryz.underlying152 (by kernel_rfl) (by kernel_rfl) v xT w
theorem no_as_path (v : Value) (xT : TypeId) (w : World) : (Instr.typeAssert (.iface 62 v) xT 160 true).run Tryz.prog w = .ok (.tuple #[.nilIface, .bool false]) w := run_typeAssert_lacksB Tryz.underlying160 (by kernel_rfl) (by kernel_rfl) v xT w
theorem has_unwrap_path (v : Value) (xT : TypeId) (w : World) : (Instr.typeAssert (.iface 62 v) xT 155 true).run Tryz.prog w = .ok (.tuple #[.iface 62 v, .bool true]) w := run_typeAssert_hasB Tryz.underlying155 (by kernel_rfl) v xT w
theorem val_of_var (t : Addr) (w : World) : (ReflectliteValue.unpack (.iface 67 (.pointer (some t)))).run Tryz.prog w = .ok (.agg #[tyP 67, .pointer (some ⟨w.heap.size, 0, none⟩), .int .u64 150]) (w.alloc (.cells #[.pointer (some t)] 67)) := by kernel_rfl
theorem val_of_own (t : Addr) (w : World) : (ReflectliteValue.unpack (.iface 61 (.pointer (some t)))).run Tryz.prog w = .ok (.agg #[tyP 61, .pointer (some ⟨w.heap.size, 0, none⟩), .int .u64 150]) (w.alloc (.cells #[.pointer (some t)] 61)) := by kernel_rfl
theorem type_var (a : Addr) (w : World) : (ReflectliteValue.methodAny (ReflectliteValue.valueError "reflectlite.Value.Type" 0) (fun t _ _ _ => ReflectliteType.toType t) #[.agg #[tyP 67, .pointer (some a), .int .u64 150]]).run Tryz.prog w = .ok (tyV 67) w := by kernel_rfl
theorem kind_var (w : World) : ((ReflectliteType.abiMethod fun t => (fun a : Nat => Value.int IntKind.u8 (a : Int)) <$> Rtype.kind t) #[tyP 67]).run Tryz.prog w = .ok (.int .u8 22) w := by kernel_rfl
theorem kind_own (w : World) : ((ReflectliteType.abiMethod fun t => (fun a : Nat => Value.int IntKind.u8 (a : Int)) <$> Rtype.kind t) #[tyP 61]).run Tryz.prog w = .ok (.int .u8 22) w := by kernel_rfl
theorem elem_var (w : World) : (ReflectliteType.method ReflectliteType.elem #[.agg #[tyP 67]]).run Tryz.prog w = .ok (tyV 61) w := by kernel_rfl
theorem impl_own (w : World) : (ReflectliteType.relation "Implements" ReflectliteType.implements_ #[.agg #[tyP 61], tyV 39]).run Tryz.prog w = .ok (.bool true) w := by kernel_rfl
theorem asg_own (w : World) : (ReflectliteType.relation "AssignableTo" ReflectliteType.assignableTo #[.agg #[tyP 61], tyV 61]).run Tryz.prog w = .ok (.bool true) w := by kernel_rfl
theorem asg_path (w : World) : (ReflectliteType.relation "AssignableTo" ReflectliteType.assignableTo #[.agg #[tyP 62], tyV 61]).run Tryz.prog w = .ok (.bool false) w := by kernel_rfl
theorem parts_var (a : Addr) (w : World) : (ReflectliteValue.parts (.agg #[tyP 67, .pointer (some a), .int .u64 150])).run Tryz.prog w = .ok (some (67, a, 150)) w := by kernel_rfl
theorem parts_own (a : Addr) (w : World) : (ReflectliteValue.parts (.agg #[tyP 61, .pointer (some a), .int .u64 150])).run Tryz.prog w = .ok (some (61, a, 150)) w := by kernel_rfl
theorem parts_at (a : Addr) (w : World) : (ReflectliteValue.parts (.agg #[tyP 61, .pointer (some a), .int .u64 406])).run Tryz.prog w = .ok (some (61, a, 406)) w := by kernel_rfl
theorem elem_of_var (w : World) : (Rtype.elem? 67).run Tryz.prog w = .ok (some 61) w := by kernel_rfl
theorem mk_own (p : Addr) (w : World) : (ReflectliteValue.mk 61 p ReflectliteValue.flagAddr).run Tryz.prog w = .ok (.agg #[tyP 61, .pointer (some p), .int .u64 406]) w := by kernel_rfl
theorem direct_own (w : World) : (Rtype.directlyAssignable 61 61).run Tryz.prog w = .ok true w := by kernel_rfl
theorem isNil_var (a p : Addr) (W : World) (ha : W.cell? a = some (.pointer (some p))) :
    (ReflectliteValue.method (ReflectliteValue.valueError "reflectlite.Value.IsNil" 0) ReflectliteValue.isNil #[.agg #[tyP 67, .pointer (some a), .int .u64 150]]).run Tryz.prog W = .ok (.bool false) W := by
  change (Bind.bind (ReflectliteValue.parts (.agg #[tyP 67, .pointer (some a), .int .u64 150])) fun x => _).run Tryz.prog W = _
  simp only [Sem.run_bind, parts_var, Result.andThen]
  simp [ReflectliteValue.isNil, loadVar, isAgg, underlying, Tryz.underlying67, ha, Result.andThen]
theorem elemV_var (a p : Addr) (W : World) (ha : W.cell? a = some (.pointer (some p))) :
    (ReflectliteValue.method (ReflectliteValue.valueError "reflectlite.Value.Elem" 0) ReflectliteValue.elem #[.agg #[tyP 67, .pointer (some a), .int .u64 150]]).run Tryz.prog W = .ok (.agg #[tyP 61, .pointer (some p), .int .u64 406]) W := by
  change (Bind.bind (ReflectliteValue.parts (.agg #[tyP 67, .pointer (some a), .int .u64 150])) fun x => _).run Tryz.prog W = _
  simp only [Sem.run_bind, parts_var, Result.andThen]
  simp [ReflectliteValue.elem, loadVar, isAgg, underlying, Tryz.underlying67, ha, Result.andThen, elem_of_var, mk_own]
theorem set_own (ta b e : Addr) (old : Value) (W : World) (hb : W.cell? b = some (.pointer (some e))) (ht : W.cell? ta = some old) (hf : W.frozen? ta = false) :
    (ReflectliteValue.set #[.agg #[tyP 61, .pointer (some ta), .int .u64 406], .agg #[tyP 61, .pointer (some b), .int .u64 150]]).run Tryz.prog W = .ok (.tuple #[]) (W.setCell ta (.pointer (some e))) := by
  change (Bind.bind (ReflectliteValue.parts (.agg #[tyP 61, .pointer (some ta), .int .u64 406])) fun x => Bind.bind (ReflectliteValue.parts (.agg #[tyP 61, .pointer (some b), .int .u64 150])) fun y => _).run Tryz.prog W = _
  simp only [Sem.run_bind, parts_at, parts_own, Result.andThen]
  simp [ReflectliteValue.flagAddr, loadVar, isAgg, underlying, Tryz.underlying61, hb, Result.andThen, direct_own, storeVar, Value.cells, storeCells, Addr.add]
  rw [run_store Tryz.prog W ta _ _ (by rfl)]
  simp [ht, hf]
end Go.Proofs.YtoomnijgdpbphaaGreatDoor
