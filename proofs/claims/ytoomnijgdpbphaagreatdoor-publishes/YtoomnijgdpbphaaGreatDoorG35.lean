import Derived.Test.YtoomnijgdpbphaaGreatDoorG34

namespace Go.Proofs.YtoomnijgdpbphaaGreatDoor
open Go.RowKit Go.Extern.Stop Go.Stop Go.Extern
set_option maxRecDepth 100000

set_option maxHeartbeats 1000000 in
theorem unwrap_any (pg : Nat) (e : Value) (t : TypeId) (w : World) (h1 : w.cell? ⟨pg, 1, none⟩ = some (.iface t e)) :
    Calls Tryz.prog 189 #[.pointer (some ⟨pg, 0, none⟩)] w fun r w' => r = .returned (.iface t e) ∧ w' = w := by
  go_enter Tryz.func189, Tryz.ntmps189
  go_wp2_with fail
  go_ret
  exact ⟨rfl, rfl⟩
theorem call_cmp (w : World) : (callFunc 195 #[.agg #[tyP 221]]).run Tryz.prog w = .ok (.value (.bool true)) w := by kernel_rfl
/-- errors.Is of a PathError of a sentinel and the sentinel. -/
theorem is_path (pg : Nat) (b : Addr) (w : World) (h1 : w.cell? ⟨pg, 1, none⟩ = some (.iface 221 (.pointer (some b)))) :
    Calls Tryz.prog 20 #[.iface 62 (.pointer (some ⟨pg, 0, none⟩)), .iface 221 (.pointer (some b))] w fun e w' => e = .returned (.bool true) ∧ w' = w := by
  obtain ⟨i, hi, hcmp⟩ := Option.map_eq_some_iff.1 compPtr
  obtain ⟨j, hj, hjs⟩ := Option.map_eq_some_iff.1 sizeStr
  have x1 := @run_callFunc_extern Tryz.prog 46 _ ReflectliteType.typeOf Tryz.func46 (by kernel_rfl) (by kernel_rfl) (by kernel_rfl) (by kernel_rfl)
  have y1 := ty_of_str
  have y2 := call_cmp
  have y3 := meth_comparable
  have y4 := no_is_path
  have y5 := has_unwrap_path
  have y6 := meth_unwrap
  have y7 := run_eql_iface_ptr_same (P := Tryz.prog) w b Tryz.underlying39 Tryz.underlying221 hi hcmp hj
  have y8 := run_eql_iface_types (P := Tryz.prog) 62 221 (.pointer (some ⟨pg, 0, none⟩)) (.pointer (some b)) Tryz.underlying39 (by decide) w
  go_enter Tryz.func20, Tryz.ntmps20
  go_wp2
  refine wp_loop_rounds 2 ?_
  rw [rounds_succ]
  go_wp2
  rw [rounds_succ]
  go_wp2
  go_ret
  exact ⟨rfl, rfl⟩
end Go.Proofs.YtoomnijgdpbphaaGreatDoor

namespace Go.Proofs.YtoomnijgdpbphaaGreatDoor
open Go.RowKit Go.Extern.Stop Go.Stop Go.Extern
set_option maxRecDepth 100000

set_option maxHeartbeats 4000000 in
/-- errors.As of a PathError of a store's own error. -/
theorem as_path (pg : Nat) (e t : Addr) (old : Value) (w : World) (h1 : w.cell? ⟨pg, 1, none⟩ = some (.iface 61 (.pointer (some e)))) (hg : w.cell? ⟨7, 0, none⟩ = some (tyV 39)) (ht0 : w.cell? t = some old) (hf0 : w.frozen? t = false) :
    Calls Tryz.prog 21 #[.iface 62 (.pointer (some ⟨pg, 0, none⟩)), .iface 67 (.pointer (some t))] w fun ev w' => ev = .returned (.bool true) ∧ ∃ w1, Below w.heap.size w w1 ∧ w' = w1.setCell t (.pointer (some e)) := by
  have x1 := @run_callFunc_extern Tryz.prog 48 _ (fun args => ReflectliteValue.unpack (args.getD 0 (.tuple #[]))) Tryz.func48 (by kernel_rfl) (by kernel_rfl) (by kernel_rfl) (by kernel_rfl)
  have x2 := @run_callFunc_extern Tryz.prog 49 _ (ReflectliteValue.methodAny (ReflectliteValue.valueError "reflectlite.Value.Type" 0) (fun t _ _ _ => ReflectliteType.toType t)) Tryz.func49 (by kernel_rfl) (by kernel_rfl) (by kernel_rfl) (by kernel_rfl)
  have x3 := @run_callFunc_extern Tryz.prog 50 _ (ReflectliteValue.method (ReflectliteValue.valueError "reflectlite.Value.IsNil" 0) ReflectliteValue.isNil) Tryz.func50 (by kernel_rfl) (by kernel_rfl) (by kernel_rfl) (by kernel_rfl)
  have x4 := @run_callFunc_extern Tryz.prog 179 _ (ReflectliteType.abiMethod fun t => do pure (.int .u8 (← Rtype.kind t))) Tryz.func179 (by kernel_rfl) (by kernel_rfl) (by kernel_rfl) (by kernel_rfl)
  have x5 := @run_callFunc_extern Tryz.prog 196 _ (ReflectliteType.method ReflectliteType.elem) Tryz.func196 (by kernel_rfl) (by kernel_rfl) (by kernel_rfl) (by kernel_rfl)
  have x6 := @run_callFunc_extern Tryz.prog 197 _ (ReflectliteType.relation "Implements" ReflectliteType.implements_) Tryz.func197 (by kernel_rfl) (by kernel_rfl) (by kernel_rfl) (by kernel_rfl)
  have x7 := @run_callFunc_extern Tryz.prog 46 _ ReflectliteType.typeOf Tryz.func46 (by kernel_rfl) (by kernel_rfl) (by kernel_rfl) (by kernel_rfl)
  have x8 := @run_callFunc_extern Tryz.prog 194 _ (ReflectliteType.relation "AssignableTo" ReflectliteType.assignableTo) Tryz.func194 (by kernel_rfl) (by kernel_rfl) (by kernel_rfl) (by kernel_rfl)
  have x9 := @run_callFunc_extern Tryz.prog 82 _ (ReflectliteValue.method (ReflectliteValue.valueError "reflectlite.Value.Elem" 0) ReflectliteValue.elem) Tryz.func82 (by kernel_rfl) (by kernel_rfl) (by kernel_rfl) (by kernel_rfl)
  have x10 := @run_callFunc_extern Tryz.prog 83 _ ReflectliteValue.set Tryz.func83 (by kernel_rfl) (by kernel_rfl) (by kernel_rfl) (by kernel_rfl)
  have y1 := ty_of_path
  have y2 := ty_of_own
  have y3 := meth_kind
  have y4 := meth_elem
  have y5 := meth_implements
  have y6 := meth_assignable
  have y7 := meth_unwrap
  have y8 := no_as_path
  have y9 := has_unwrap_path
  have z1 := val_of_var
  have z2 := val_of_own
  have z3 := type_var
  have z4 := kind_var
  have z5 := kind_own
  have z6 := elem_var
  have z7 := impl_own
  have z8 := asg_own
  have z9 := asg_path
  have hpl : pg < w.heap.size := cell_lt h1
  have hgl : 7 < w.heap.size := cell_lt hg
  have htl := cell_lt ht0
  have n8 := isNil_var ⟨w.heap.size, 0, none⟩ t ((w.alloc (.cells #[.pointer (some t)] 67)).alloc (.cells #[tyP 67, .pointer (some ⟨w.heap.size, 0, none⟩), .int .u64 150] 113)) (by simp)
  have hg2 : ((w.alloc (.cells #[.pointer (some t)] 67)).alloc (.cells #[tyP 67, .pointer (some ⟨w.heap.size, 0, none⟩), .int .u64 150] 113)).cell? ⟨7, 0, none⟩ = some (tyV 39) := by
    rw [World.cell?_alloc_lt _ _ ⟨_, 0, none⟩ (by simp; omega), World.cell?_alloc_lt _ _ ⟨_, 0, none⟩ hgl]; exact hg
  have el := elemV_var ⟨w.heap.size, 0, none⟩ t (((w.alloc (.cells #[.pointer (some t)] 67)).alloc (.cells #[tyP 67, .pointer (some ⟨w.heap.size, 0, none⟩), .int .u64 150] 113)).alloc (.cells #[tyP 67, .pointer (some ⟨w.heap.size, 0, none⟩), .int .u64 150] 113)) (by rw [World.cell?_alloc_lt _ _ ⟨w.heap.size, 0, none⟩ (by simp; omega)]; simp)
  have hp3 : (((w.alloc (.cells #[.pointer (some t)] 67)).alloc (.cells #[tyP 67, .pointer (some ⟨w.heap.size, 0, none⟩), .int .u64 150] 113)).alloc (.cells #[tyP 67, .pointer (some ⟨w.heap.size, 0, none⟩), .int .u64 150] 113)).cell? ⟨pg, 1, none⟩ = some (.iface 61 (.pointer (some e))) := by
    rw [World.cell?_alloc_lt _ _ ⟨_, 1, none⟩ (by simp; omega), World.cell?_alloc_lt _ _ ⟨_, 1, none⟩ (by simp; omega), World.cell?_alloc_lt _ _ ⟨_, 1, none⟩ hpl]; exact h1
  have st := set_own t ⟨w.heap.size + 1 + 1 + 1, 0, none⟩ e old ((((w.alloc (.cells #[.pointer (some t)] 67)).alloc (.cells #[tyP 67, .pointer (some ⟨w.heap.size, 0, none⟩), .int .u64 150] 113)).alloc (.cells #[tyP 67, .pointer (some ⟨w.heap.size, 0, none⟩), .int .u64 150] 113)).alloc (.cells #[.pointer (some e)] 61))
    (by rw [World.cell?_alloc_at _ _ _ _ (by simp)]; rfl)
    (by rw [World.cell?_alloc_lt _ _ t (by simp; omega), World.cell?_alloc_lt _ _ t (by simp; omega), World.cell?_alloc_lt _ _ t (by simp; omega), World.cell?_alloc_lt _ _ t htl]; exact ht0)
    (by rw [World.frozen?_alloc_old _ _ t (by simp; omega), World.frozen?_alloc_old _ _ t (by simp; omega), World.frozen?_alloc_old _ _ t (by simp; omega), World.frozen?_alloc_old _ _ t (Nat.ne_of_lt htl)]; exact hf0)
  go_enter Tryz.func21, Tryz.ntmps21
  go_wp2
  refine wp_loop_rounds 2 ?_
  rw [rounds_succ]
  go_wp2
  rw [rounds_succ]
  go_wp2
  go_ret
  exact ⟨rfl, _, (((below_alloc _ _).trans ((below_alloc _ _).mono (by simp))).trans ((below_alloc _ _).mono (by simp; omega))).trans ((below_alloc _ _).mono (by simp; omega)), rfl⟩
end Go.Proofs.YtoomnijgdpbphaaGreatDoor
