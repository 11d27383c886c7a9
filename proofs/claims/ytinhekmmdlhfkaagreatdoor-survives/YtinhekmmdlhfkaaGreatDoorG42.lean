import Derived.Test.YtinhekmmdlhfkaaGreatDoorG21
import Derived.Test.YtinhekmmdlhfkaaGreatDoorG41
namespace Go.Proofs.YtinhekmmdlhfkaaGreatDoor
section
set_option maxHeartbeats 1000000
open Go.RowKit
set_option maxRecDepth 100000
theorem z1k (at_:Nat→Addr)(w:World)(hs:qm w at_):
  Calls Tryz.prog 27 #[.iface 326 (.pointer (some (at_ 0)))] w fun e w'=>e= .returned (told 1)∧Below w.heap.size w w':=by
 obtain⟨h0,h1,h2,h3,h4,h5,h6,hap,hbl⟩:=hs
 have Hap:=za hap
 have Hbl:=za hbl
 clear hap hbl h5
 have g0:∀ o,(w.alloc o).cell? ⟨1,0,none⟩=some (.iface 326 (.pointer (some (at_ 0)))):=fun o=>by rw [zk _ _ ⟨_,0,none⟩ (zj h0)];exact h0
 have g1:∀ o,(w.alloc o).cell? ⟨2,0,none⟩=some (.iface 326 (.pointer (some (at_ 1)))):=fun o=>by rw [zk _ _ ⟨_,0,none⟩ (zj h1)];exact h1
 have g2:∀ o,(w.alloc o).cell? ⟨3,0,none⟩=some (.iface 326 (.pointer (some (at_ 2)))):=fun o=>by rw [zk _ _ ⟨_,0,none⟩ (zj h2)];exact h2
 have g3:∀ o,(w.alloc o).cell? ⟨4,0,none⟩=some (.iface 326 (.pointer (some (at_ 3)))):=fun o=>by rw [zk _ _ ⟨_,0,none⟩ (zj h3)];exact h3
 have g4:∀ o,(w.alloc o).cell? ⟨5,0,none⟩=some (.iface 326 (.pointer (some (at_ 4)))):=fun o=>by rw [zk _ _ ⟨_,0,none⟩ (zj h4)];exact h4
 have g6:∀ o,(w.alloc o).cell? ⟨0,0,none⟩=some (.iface 326 (.pointer (some (at_ 6)))):=fun o=>by rw [zk _ _ ⟨_,0,none⟩ (zj h6)];exact h6
 clear h0 h1 h2 h3 h4 h6
 have hno:=zdk (.pointer (some (at_ 0)))
 have hsm:∀ W,(binOp .eql 70 (.iface 326 (.pointer (some (at_ 0)))) (.iface 326 (.pointer (some (at_ 0))))).run Tryz.prog W= .ok (.bool true) W:=fun W=>by
  obtain⟨i,hi,hcmp⟩:=Option.map_eq_some_iff.1 zc1
  obtain⟨j,hj,hjs⟩:=Option.map_eq_some_iff.1 zc5
  exact run_eql_iface_ptr_same W (at_ 0) Tryz.underlying70 Tryz.underlying326 hi hcmp hj
 go_enter Tryz.func27,Tryz.ntmps27
 go_wp2_with fail
 refine wp_loop_rounds 2 ?_
 rw [rounds_succ]
 go_wp2_with fail
 rw [rounds_succ]
 go_wp2_with fail
 refine bodyPost_ret (v:=told 1) (results_cell_row Tryz.results27 _ _ w.heap.size 29 _ (0,0) _ rfl (zc (zc (heap_alloc_last _ _))) Tryz.underlying29 rfl (by kernel_rfl)) rfl ⟨rfl,?_⟩
 exact((ze _ _).trans ((ze _ _).mono (by simp))).trans ((ze _ _).mono (by simp;omega))
theorem zr9 (at_:Nat→Addr)(w:World)(hs:qm w at_):
  Calls Tryz.prog 27 #[.iface 326 (.pointer (some (at_ 2)))] w fun e w'=>e= .returned (told 3)∧Below w.heap.size w w':=by
 obtain⟨h0,h1,h2,h3,h4,h5,h6,hap,hbl⟩:=hs
 have Hap:=za hap
 have Hbl:=za hbl
 clear hap hbl h5
 have g0:∀ o,(w.alloc o).cell? ⟨1,0,none⟩=some (.iface 326 (.pointer (some (at_ 0)))):=fun o=>by rw [zk _ _ ⟨_,0,none⟩ (zj h0)];exact h0
 have g1:∀ o,(w.alloc o).cell? ⟨2,0,none⟩=some (.iface 326 (.pointer (some (at_ 1)))):=fun o=>by rw [zk _ _ ⟨_,0,none⟩ (zj h1)];exact h1
 have g2:∀ o,(w.alloc o).cell? ⟨3,0,none⟩=some (.iface 326 (.pointer (some (at_ 2)))):=fun o=>by rw [zk _ _ ⟨_,0,none⟩ (zj h2)];exact h2
 have g3:∀ o,(w.alloc o).cell? ⟨4,0,none⟩=some (.iface 326 (.pointer (some (at_ 3)))):=fun o=>by rw [zk _ _ ⟨_,0,none⟩ (zj h3)];exact h3
 have g4:∀ o,(w.alloc o).cell? ⟨5,0,none⟩=some (.iface 326 (.pointer (some (at_ 4)))):=fun o=>by rw [zk _ _ ⟨_,0,none⟩ (zj h4)];exact h4
 have g6:∀ o,(w.alloc o).cell? ⟨0,0,none⟩=some (.iface 326 (.pointer (some (at_ 6)))):=fun o=>by rw [zk _ _ ⟨_,0,none⟩ (zj h6)];exact h6
 clear h0 h1 h2 h3 h4 h6
 have hno:=zdk (.pointer (some (at_ 2)))
 have hd0:∀ o1 o2 o3,(binOp .eql 70 (.iface 326 (.pointer (some (at_ 2)))) (.iface 326 (.pointer (some (at_ 0))))).run Tryz.prog (((w.alloc o1).alloc o2).alloc o3)= .ok (.bool false) (((w.alloc o1).alloc o2).alloc o3):=fun o1 o2 o3=>by
  obtain⟨c0,t0,e0⟩:=Hbl.o 0 (by decide)
  obtain⟨c1,t1,e1⟩:=Hbl.o 2 (by decide)
  exact qq (Hap.o 2 0 (by decide) (by decide) (by decide)) ⟨c1,t1,zc (zc (zc e1))⟩ ⟨c0,t0,zc (zc (zc e0))⟩
 have hd1:∀ o1 o2 o3,(binOp .eql 70 (.iface 326 (.pointer (some (at_ 2)))) (.iface 326 (.pointer (some (at_ 1))))).run Tryz.prog (((w.alloc o1).alloc o2).alloc o3)= .ok (.bool false) (((w.alloc o1).alloc o2).alloc o3):=fun o1 o2 o3=>by
  obtain⟨c0,t0,e0⟩:=Hbl.o 1 (by decide)
  obtain⟨c1,t1,e1⟩:=Hbl.o 2 (by decide)
  exact qq (Hap.o 2 1 (by decide) (by decide) (by decide)) ⟨c1,t1,zc (zc (zc e1))⟩ ⟨c0,t0,zc (zc (zc e0))⟩
 have hsm:∀ W,(binOp .eql 70 (.iface 326 (.pointer (some (at_ 2)))) (.iface 326 (.pointer (some (at_ 2))))).run Tryz.prog W= .ok (.bool true) W:=fun W=>by
  obtain⟨i,hi,hcmp⟩:=Option.map_eq_some_iff.1 zc1
  obtain⟨j,hj,hjs⟩:=Option.map_eq_some_iff.1 zc5
  exact run_eql_iface_ptr_same W (at_ 2) Tryz.underlying70 Tryz.underlying326 hi hcmp hj
 go_enter Tryz.func27,Tryz.ntmps27
 go_wp2_with fail
 refine wp_loop_rounds 4 ?_
 rw [rounds_succ]
 go_wp2_with fail
 rw [rounds_succ]
 go_wp2_with fail
 rw [rounds_succ]
 go_wp2_with fail
 rw [rounds_succ]
 go_wp2_with fail
 refine bodyPost_ret (v:=told 3) (results_cell_row Tryz.results27 _ _ w.heap.size 29 _ (0,0) _ rfl (zc (zc (heap_alloc_last _ _))) Tryz.underlying29 rfl (by kernel_rfl)) rfl ⟨rfl,?_⟩
 exact((ze _ _).trans ((ze _ _).mono (by simp))).trans ((ze _ _).mono (by simp;omega))
theorem zs1 (at_:Nat→Addr)(w:World)(hs:qm w at_):
  Calls Tryz.prog 27 #[.iface 326 (.pointer (some (at_ 4)))] w fun e w'=>e= .returned (told 5)∧Below w.heap.size w w':=by
 obtain⟨h0,h1,h2,h3,h4,h5,h6,hap,hbl⟩:=hs
 have Hap:=za hap
 have Hbl:=za hbl
 clear hap hbl h5
 have g0:∀ o,(w.alloc o).cell? ⟨1,0,none⟩=some (.iface 326 (.pointer (some (at_ 0)))):=fun o=>by rw [zk _ _ ⟨_,0,none⟩ (zj h0)];exact h0
 have g1:∀ o,(w.alloc o).cell? ⟨2,0,none⟩=some (.iface 326 (.pointer (some (at_ 1)))):=fun o=>by rw [zk _ _ ⟨_,0,none⟩ (zj h1)];exact h1
 have g2:∀ o,(w.alloc o).cell? ⟨3,0,none⟩=some (.iface 326 (.pointer (some (at_ 2)))):=fun o=>by rw [zk _ _ ⟨_,0,none⟩ (zj h2)];exact h2
 have g3:∀ o,(w.alloc o).cell? ⟨4,0,none⟩=some (.iface 326 (.pointer (some (at_ 3)))):=fun o=>by rw [zk _ _ ⟨_,0,none⟩ (zj h3)];exact h3
 have g4:∀ o,(w.alloc o).cell? ⟨5,0,none⟩=some (.iface 326 (.pointer (some (at_ 4)))):=fun o=>by rw [zk _ _ ⟨_,0,none⟩ (zj h4)];exact h4
 have g6:∀ o,(w.alloc o).cell? ⟨0,0,none⟩=some (.iface 326 (.pointer (some (at_ 6)))):=fun o=>by rw [zk _ _ ⟨_,0,none⟩ (zj h6)];exact h6
 clear h0 h1 h2 h3 h4 h6
 have hno:=zdk (.pointer (some (at_ 4)))
 have hd0:∀ o1 o2 o3,(binOp .eql 70 (.iface 326 (.pointer (some (at_ 4)))) (.iface 326 (.pointer (some (at_ 0))))).run Tryz.prog (((w.alloc o1).alloc o2).alloc o3)= .ok (.bool false) (((w.alloc o1).alloc o2).alloc o3):=fun o1 o2 o3=>by
  obtain⟨c0,t0,e0⟩:=Hbl.o 0 (by decide)
  obtain⟨c1,t1,e1⟩:=Hbl.o 4 (by decide)
  exact qq (Hap.o 4 0 (by decide) (by decide) (by decide)) ⟨c1,t1,zc (zc (zc e1))⟩ ⟨c0,t0,zc (zc (zc e0))⟩
 have hd1:∀ o1 o2 o3,(binOp .eql 70 (.iface 326 (.pointer (some (at_ 4)))) (.iface 326 (.pointer (some (at_ 1))))).run Tryz.prog (((w.alloc o1).alloc o2).alloc o3)= .ok (.bool false) (((w.alloc o1).alloc o2).alloc o3):=fun o1 o2 o3=>by
  obtain⟨c0,t0,e0⟩:=Hbl.o 1 (by decide)
  obtain⟨c1,t1,e1⟩:=Hbl.o 4 (by decide)
  exact qq (Hap.o 4 1 (by decide) (by decide) (by decide)) ⟨c1,t1,zc (zc (zc e1))⟩ ⟨c0,t0,zc (zc (zc e0))⟩
 have hd2:∀ o1 o2 o3,(binOp .eql 70 (.iface 326 (.pointer (some (at_ 4)))) (.iface 326 (.pointer (some (at_ 2))))).run Tryz.prog (((w.alloc o1).alloc o2).alloc o3)= .ok (.bool false) (((w.alloc o1).alloc o2).alloc o3):=fun o1 o2 o3=>by
  obtain⟨c0,t0,e0⟩:=Hbl.o 2 (by decide)
  obtain⟨c1,t1,e1⟩:=Hbl.o 4 (by decide)
  exact qq (Hap.o 4 2 (by decide) (by decide) (by decide)) ⟨c1,t1,zc (zc (zc e1))⟩ ⟨c0,t0,zc (zc (zc e0))⟩
 have hd3:∀ o1 o2 o3,(binOp .eql 70 (.iface 326 (.pointer (some (at_ 4)))) (.iface 326 (.pointer (some (at_ 3))))).run Tryz.prog (((w.alloc o1).alloc o2).alloc o3)= .ok (.bool false) (((w.alloc o1).alloc o2).alloc o3):=fun o1 o2 o3=>by
  obtain⟨c0,t0,e0⟩:=Hbl.o 3 (by decide)
  obtain⟨c1,t1,e1⟩:=Hbl.o 4 (by decide)
  exact qq (Hap.o 4 3 (by decide) (by decide) (by decide)) ⟨c1,t1,zc (zc (zc e1))⟩ ⟨c0,t0,zc (zc (zc e0))⟩
 have hsm:∀ W,(binOp .eql 70 (.iface 326 (.pointer (some (at_ 4)))) (.iface 326 (.pointer (some (at_ 4))))).run Tryz.prog W= .ok (.bool true) W:=fun W=>by
  obtain⟨i,hi,hcmp⟩:=Option.map_eq_some_iff.1 zc1
  obtain⟨j,hj,hjs⟩:=Option.map_eq_some_iff.1 zc5
  exact run_eql_iface_ptr_same W (at_ 4) Tryz.underlying70 Tryz.underlying326 hi hcmp hj
 go_enter Tryz.func27,Tryz.ntmps27
 go_wp2_with fail
 refine wp_loop_rounds 6 ?_
 rw [rounds_succ]
 go_wp2_with fail
 rw [rounds_succ]
 go_wp2_with fail
 rw [rounds_succ]
 go_wp2_with fail
 rw [rounds_succ]
 go_wp2_with fail
 rw [rounds_succ]
 go_wp2_with fail
 rw [rounds_succ]
 go_wp2_with fail
 refine bodyPost_ret (v:=told 5) (results_cell_row Tryz.results27 _ _ w.heap.size 29 _ (0,0) _ rfl (zc (zc (heap_alloc_last _ _))) Tryz.underlying29 rfl (by kernel_rfl)) rfl ⟨rfl,?_⟩
 exact((ze _ _).trans ((ze _ _).mono (by simp))).trans ((ze _ _).mono (by simp;omega))
theorem ztf (at_:Nat→Addr)(w:World)(hs:qm w at_):
  Calls Tryz.prog 27 #[.iface 326 (.pointer (some (at_ 6)))] w fun e w'=>e= .returned (told 7)∧Below w.heap.size w w':=by
 obtain⟨h0,h1,h2,h3,h4,h5,h6,hap,hbl⟩:=hs
 have Hap:=za hap
 have Hbl:=za hbl
 clear hap hbl h5
 have g0:∀ o,(w.alloc o).cell? ⟨1,0,none⟩=some (.iface 326 (.pointer (some (at_ 0)))):=fun o=>by rw [zk _ _ ⟨_,0,none⟩ (zj h0)];exact h0
 have g1:∀ o,(w.alloc o).cell? ⟨2,0,none⟩=some (.iface 326 (.pointer (some (at_ 1)))):=fun o=>by rw [zk _ _ ⟨_,0,none⟩ (zj h1)];exact h1
 have g2:∀ o,(w.alloc o).cell? ⟨3,0,none⟩=some (.iface 326 (.pointer (some (at_ 2)))):=fun o=>by rw [zk _ _ ⟨_,0,none⟩ (zj h2)];exact h2
 have g3:∀ o,(w.alloc o).cell? ⟨4,0,none⟩=some (.iface 326 (.pointer (some (at_ 3)))):=fun o=>by rw [zk _ _ ⟨_,0,none⟩ (zj h3)];exact h3
 have g4:∀ o,(w.alloc o).cell? ⟨5,0,none⟩=some (.iface 326 (.pointer (some (at_ 4)))):=fun o=>by rw [zk _ _ ⟨_,0,none⟩ (zj h4)];exact h4
 have g6:∀ o,(w.alloc o).cell? ⟨0,0,none⟩=some (.iface 326 (.pointer (some (at_ 6)))):=fun o=>by rw [zk _ _ ⟨_,0,none⟩ (zj h6)];exact h6
 clear h0 h1 h2 h3 h4 h6
 have hno:=zdk (.pointer (some (at_ 6)))
 have hd0:∀ o1 o2 o3,(binOp .eql 70 (.iface 326 (.pointer (some (at_ 6)))) (.iface 326 (.pointer (some (at_ 0))))).run Tryz.prog (((w.alloc o1).alloc o2).alloc o3)= .ok (.bool false) (((w.alloc o1).alloc o2).alloc o3):=fun o1 o2 o3=>by
  obtain⟨c0,t0,e0⟩:=Hbl.o 0 (by decide)
  obtain⟨c1,t1,e1⟩:=Hbl.o 6 (by decide)
  exact qq (Hap.o 6 0 (by decide) (by decide) (by decide)) ⟨c1,t1,zc (zc (zc e1))⟩ ⟨c0,t0,zc (zc (zc e0))⟩
 have hd1:∀ o1 o2 o3,(binOp .eql 70 (.iface 326 (.pointer (some (at_ 6)))) (.iface 326 (.pointer (some (at_ 1))))).run Tryz.prog (((w.alloc o1).alloc o2).alloc o3)= .ok (.bool false) (((w.alloc o1).alloc o2).alloc o3):=fun o1 o2 o3=>by
  obtain⟨c0,t0,e0⟩:=Hbl.o 1 (by decide)
  obtain⟨c1,t1,e1⟩:=Hbl.o 6 (by decide)
  exact qq (Hap.o 6 1 (by decide) (by decide) (by decide)) ⟨c1,t1,zc (zc (zc e1))⟩ ⟨c0,t0,zc (zc (zc e0))⟩
 have hd2:∀ o1 o2 o3,(binOp .eql 70 (.iface 326 (.pointer (some (at_ 6)))) (.iface 326 (.pointer (some (at_ 2))))).run Tryz.prog (((w.alloc o1).alloc o2).alloc o3)= .ok (.bool false) (((w.alloc o1).alloc o2).alloc o3):=fun o1 o2 o3=>by
  obtain⟨c0,t0,e0⟩:=Hbl.o 2 (by decide)
  obtain⟨c1,t1,e1⟩:=Hbl.o 6 (by decide)
  exact qq (Hap.o 6 2 (by decide) (by decide) (by decide)) ⟨c1,t1,zc (zc (zc e1))⟩ ⟨c0,t0,zc (zc (zc e0))⟩
 have hd3:∀ o1 o2 o3,(binOp .eql 70 (.iface 326 (.pointer (some (at_ 6)))) (.iface 326 (.pointer (some (at_ 3))))).run Tryz.prog (((w.alloc o1).alloc o2).alloc o3)= .ok (.bool false) (((w.alloc o1).alloc o2).alloc o3):=fun o1 o2 o3=>by
  obtain⟨c0,t0,e0⟩:=Hbl.o 3 (by decide)
  obtain⟨c1,t1,e1⟩:=Hbl.o 6 (by decide)
  exact qq (Hap.o 6 3 (by decide) (by decide) (by decide)) ⟨c1,t1,zc (zc (zc e1))⟩ ⟨c0,t0,zc (zc (zc e0))⟩
 have hd4:∀ o1 o2 o3,(binOp .eql 70 (.iface 326 (.pointer (some (at_ 6)))) (.iface 326 (.pointer (some (at_ 4))))).run Tryz.prog (((w.alloc o1).alloc o2).alloc o3)= .ok (.bool false) (((w.alloc o1).alloc o2).alloc o3):=fun o1 o2 o3=>by
  obtain⟨c0,t0,e0⟩:=Hbl.o 4 (by decide)
  obtain⟨c1,t1,e1⟩:=Hbl.o 6 (by decide)
  exact qq (Hap.o 6 4 (by decide) (by decide) (by decide)) ⟨c1,t1,zc (zc (zc e1))⟩ ⟨c0,t0,zc (zc (zc e0))⟩
 have hsm:∀ W,(binOp .eql 70 (.iface 326 (.pointer (some (at_ 6)))) (.iface 326 (.pointer (some (at_ 6))))).run Tryz.prog W= .ok (.bool true) W:=fun W=>by
  obtain⟨i,hi,hcmp⟩:=Option.map_eq_some_iff.1 zc1
  obtain⟨j,hj,hjs⟩:=Option.map_eq_some_iff.1 zc5
  exact run_eql_iface_ptr_same W (at_ 6) Tryz.underlying70 Tryz.underlying326 hi hcmp hj
 go_enter Tryz.func27,Tryz.ntmps27
 go_wp2_with fail
 refine wp_loop_rounds 8 ?_
 rw [rounds_succ]
 go_wp2_with fail
 rw [rounds_succ]
 go_wp2_with fail
 rw [rounds_succ]
 go_wp2_with fail
 rw [rounds_succ]
 go_wp2_with fail
 rw [rounds_succ]
 go_wp2_with fail
 rw [rounds_succ]
 go_wp2_with fail
 rw [rounds_succ]
 go_wp2_with fail
 rw [rounds_succ]
 go_wp2_with fail
 refine bodyPost_ret (v:=told 7) (results_cell_row Tryz.results27 _ _ w.heap.size 29 _ (0,0) _ rfl (zc (zc (heap_alloc_last _ _))) Tryz.underlying29 rfl (by kernel_rfl)) rfl ⟨rfl,?_⟩
 exact((ze _ _).trans ((ze _ _).mono (by simp))).trans ((ze _ _).mono (by simp;omega))
end
section
set_option maxHeartbeats 1000000
open Go.RowKit
set_option maxRecDepth 100000
def zhs (w:World)(pb lb:Nat):Prop:=w.heap[pb]?=some (.cells #[.pointer (some ⟨lb,0,none⟩)] 75 (0,0))
def ETy (w:World):Prop:=w.cell? ⟨7,0,none⟩=some (tyV 70)
theorem ETy.below {w w':World}(h:ETy w)(hb:Below w.heap.size w w'):ETy w':=by
 unfold ETy at *
 rw [hb.cell (p:=⟨_,0,none⟩) (zj h)]
 exact h
theorem zm.later {w w':World}{O:Nat→Prop}{db:Nat}{d:Dk}{a:World}(h:zm w (Ext O a w) db d)(hb:Below w.heap.size w w'):zm w' (Ext O a w') db d:=(h.stay (O1:=fun _=>False) (T:=[]) (.of_below hb) (by simp) (by simp)).mono (fun _ h=>Ext.more hb.size _ h)
theorem xk.later {w w':World}{O:Nat→Prop}{db lb:Nat}{l:Lg}{a:World}(h:xk w (Ext O a w) db lb l)(hb:Below w.heap.size w w'):xk w' (Ext O a w') db lb l:=(h.stay (O1:=fun _=>False) (T:=[]) (.of_below hb) (by simp) (by simp) (by simp)).mono (fun _ h=>Ext.more hb.size _ h)
theorem yy {P:Program}{fn:Func}{p u:Tmp}{ty:TypeId}(h:fn.results=#[.tmp u,.cell p ty])(tmps:Array Value)(w:World)(g:Nat)(t:TypeId)(cs:Array Value)(fr:Nat×Nat)(d:TypeDesc)
  (hp:tmps.getD p undef= .pointer (some ⟨g,0,none⟩)) (hg:w.heap[g]?=some (.cells cs t fr))
  (hu:P.underlying ty=some d) (hd:(match d with | .struct _ | .array _ _=>true | _=>false)=true) (hi:(P.info? ty).map (·.size)=some cs.size) (x:Value) (hx:tmps.getD u undef=x) :
  (results fn tmps).run P w= .ok (.tuple #[x,.agg cs]) w:=by
 have hl:=run_loadVar_row (P:=P) w g t ty cs fr d hg hu hd hi
 simp only [Array.getD_eq_getD_getElem?] at hp hx
 simp [results,h,hp,hx,asAddr,hl]
def zcj (B:Nat)(w:World):Prop:=w.heap[B]?=some (.cells #[.int .i64 0,.string ⟨#[]⟩] 29 (0,0))
theorem zcj.below {B:Nat}{w w':World}(h:zcj B w)(hb:Below w.heap.size w w'):zcj B w':=by
 unfold zcj at *
 rw [hb.block _ (zb h)]
 exact h
theorem zcj.turn {B:Nat}{w w':World}{O:Nat→Prop}{T:List Nat}(h:zcj B w)(ht:zf O T w w')(hT:29∉T):zcj B w':=ht.keep h hT
theorem jv {O:Nat→Prop}{T:List Nat}{w W:World}{u v:Value}{i j:Nat}(h:zf O T w W):zf O T w ((W.setCell ⟨w.heap.size,i,none⟩ u).setCell ⟨w.heap.size,j,none⟩ v):=(h.setNew (Nat.le_refl _) _ _).setNew (Nat.le_refl _) _ _
theorem zm.sets2 {W w:World}{O:Nat→Prop}{db:Nat}{d:Dk}{u v:Value}{i j B:Nat}(h:zm W (Ext O w W) db d)(hr:zcj B W):zm ((W.setCell ⟨B,i,none⟩ u).setCell ⟨B,j,none⟩ v) (Ext O w ((W.setCell ⟨B,i,none⟩ u).setCell ⟨B,j,none⟩ v)) db d:=by
 have t1:zf (fun _=>True) [29] W (W.setCell ⟨B,i,none⟩ u):=(zf.refl _ _ _).set (.inl trivial) hr (by simp) u
 have t2:zf (fun _=>True) [29] (W.setCell ⟨B,i,none⟩ u) ((W.setCell ⟨B,i,none⟩ u).setCell ⟨B,j,none⟩ v):=(zf.refl _ _ _).set (.inl trivial) (qj hr i u) (by simp) v
 exact((h.stay t1 (by decide) (by decide)).stay t2 (by decide) (by decide)).mono (fun k hk=>zeg k (zeg k hk))
theorem xk.sets2 {W w:World}{O:Nat→Prop}{db lb:Nat}{l:Lg}{u v:Value}{i j B:Nat}(h:xk W (Ext O w W) db lb l)(hr:zcj B W):xk ((W.setCell ⟨B,i,none⟩ u).setCell ⟨B,j,none⟩ v) (Ext O w ((W.setCell ⟨B,i,none⟩ u).setCell ⟨B,j,none⟩ v)) db lb l:=by
 have t1:zf (fun _=>True) [29] W (W.setCell ⟨B,i,none⟩ u):=(zf.refl _ _ _).set (.inl trivial) hr (by simp) u
 have t2:zf (fun _=>True) [29] (W.setCell ⟨B,i,none⟩ u) ((W.setCell ⟨B,i,none⟩ u).setCell ⟨B,j,none⟩ v):=(zf.refl _ _ _).set (.inl trivial) (qj hr i u) (by simp) v
 exact((h.stay t1 (by decide) (by decide) (by decide)).stay t2 (by decide) (by decide) (by decide)).mono (fun k hk=>zeg k (zeg k hk))
theorem zod (O:Nat→Prop)(db pb lb:Nat)(l:Lg)(w:World)(hp:zhs w pb lb)(h:xk w O db lb l):
  Calls Tryz.prog 9 #[.pointer (some ⟨pb,0,none⟩)] w fun r w'=>r= .returned (.int .i64 (l.es.length:Int))∧w'=w:=by
 obtain⟨c0,f0⟩:=zg hp 0 _ rfl
 have HL:=za h
 clear h hp
 go_enter Tryz.func9,Tryz.ntmps9
 go_wp2_with fail
 refine(z2q O db lb l w HL.o).mono ?_
 rintro r w1 ⟨rfl,rfl⟩
 go_wp2_with fail
 go_ret
 exact⟨rfl,rfl⟩
theorem zqv (O:Nat→Prop)(W:World)(at_:Nat→Addr)(hE:Env W)(hSN:qm W at_)(hET:ETy W)(hOW:∀ k,O k→W.heap.size≤k)(db pb lb:Nat)(d:Dk)(l:Lg)(w:World)(hn:d.fs.length+(yj l.es l.put).length≤900000000)(he:l.es.length≤1000000)(hput:l.put≤l.es.length)(h20:∀ e∈l.es,e.length≤20)(hk:l.key.length≤9223372036854775807)(hW:Below W.heap.size W w)(hp:zhs w pb lb)(h:zm w O db d)(hL:xk w O db lb l):
  Calls Tryz.prog 13 #[.pointer (some ⟨pb,0,none⟩)] w fun r w'=>zf O pT w w' ∧
   ((l.live=false∧r= .returned (.tuple #[.int .i64 0,told 7])∧Below w.heap.size w w') ∨
    (l.live=true∧(qt (yj l.es l.put) (xn l.es.length (yb l.es) l.key) d).1=none∧r= .returned (.tuple #[.int .i64 (l.es.length:Int),told 0])∧zm w' (Ext O w w') db (qt (yj l.es l.put) (xn l.es.length (yb l.es) l.key) d).2∧xk w' (Ext O w w') db lb { l with put:=l.es.length }) ∨
    (l.live=true∧∃ p,(qt (yj l.es l.put) (xn l.es.length (yb l.es) l.key) d).1=some p∧r= .returned (.tuple #[.int .i64 0,zf6 8 p])∧zm w' (Ext O w w') db (qt (yj l.es l.put) (xn l.es.length (yb l.es) l.key) d).2∧xk w' (Ext O w w') db lb { l with live:=false })):=by
 have hc0:∀ o,(w.alloc o).cell? ⟨pb,0,none⟩=some (.pointer (some ⟨lb,0,none⟩)):=fun o=>by
  rw [zk _ _ ⟨_,0,none⟩ (zb hp)]
  exact(zg hp 0 _ rfl).1
 have hb0:Below w.heap.size w (w.alloc (.cells #[.int .i64 0,.string ⟨#[]⟩] 29)):=ze _ _
 have hpub:=zk0 O W at_ hE hSN hOW db lb d l (w.alloc (.cells #[.int .i64 0,.string ⟨#[]⟩] 29)) hn he hput h20 hk (hW.trans (hb0.mono hW.size)) (h.stay (O1:=fun _=>False) (T:=[]) (.of_below hb0) (by simp) (by simp)) (hL.stay (O1:=fun _=>False) (T:=[]) (.of_below hb0) (by simp) (by simp) (by simp))
 generalize qt (yj l.es l.put) (xn l.es.length (yb l.es) l.key) d=pr at hpub ⊢
 have HW:=za hW
 have HO:=za hOW
 have HS:=za hSN
 have HT:=za hET
 have hT0:zf O pT w (w.alloc (.cells #[.int .i64 0,.string ⟨#[]⟩] 29)):=(zf.refl _ _ _).alloc _
 have HR0:Hid (zcj w.heap.size (w.alloc (.cells #[.int .i64 0,.string ⟨#[]⟩] 29))):=heap_alloc_last _ _
 have HT0:=za hT0
 have HB0:=za hb0
 clear h hL h20 hW hOW hE hSN hET hp hn he hput hk hT0 hb0
 go_enter Tryz.func13,Tryz.ntmps13
 go_wp2_with fail
 refine hpub.mono ?_
 clear hpub hc0
 generalize w.alloc (.cells #[.int .i64 0,.string ⟨#[]⟩] 29)=w0 at *
 rintro r w2 ⟨ht2,hres⟩
 have HT2:Hid (zf O pT w w2):=HT0.o.trans (ht2.mono (fun _ h=> .inl h) (fun _ h=>h))
 have HR2:Hid (zcj w.heap.size w2):=HR0.o.turn ht2 (by decide)
 have HB2:Hid (Below W.heap.size W w2):=HW.o.trans (HT2.o.below HO.o HW.o.size)
 have HX:Hid (∀ k,Ext O w0 w2 k→Ext O w w2 k):=fun k hk=>by
  rcases hk with h | h
  ·exact .inl h
  ·exact .inr ⟨Nat.le_trans HT0.o.size h.1,h.2⟩
 clear ht2
 rcases hres with ⟨hlv,rfl,hb⟩ | ⟨hlv,hno,rfl,hd,hl⟩ | ⟨hlv,p,e,hsm,rfl,hge,hd,hl⟩
 ·have HB:=za hb
  have HLV:=za hlv
  unfold jo
  clear hb hlv
  go_wp2_with fail
  refine(ztf at_ w2 (yz HS.o HB2.o)).mono ?_
  rintro r w3 ⟨rfl,hb3⟩
  have HB3:=za hb3
  have HR3:=za (HR2.o.below hb3)
  obtain⟨c0,z0⟩:=zg HR3.o 0 _ rfl
  obtain⟨c1,z1⟩:=zg HR3.o 1 _ rfl
  clear hb3
  unfold told
  go_wp2_with fail
  exact bodyPost_ret (v:= .tuple #[.int .i64 0,.agg #[.int .i64 7,.string ⟨([]:List UInt8).toArray⟩]]) (yy Tryz.results13 _ _ w.heap.size 29 _ (0,0) _ rfl (jr HR3.o _ _ rfl) Tryz.underlying29 rfl (by kernel_rfl) _ rfl) rfl ⟨jv (HT2.o.then_below HB3.o),.inl ⟨HLV.o,rfl,zcu ((HB0.o.trans (HB.o.mono HB0.o.size)).trans (HB3.o.mono HT2.o.size))⟩⟩
 ·have HD:=za (hd.mono HX.o)
  have HL:=za (hl.mono HX.o)
  have HN:=za (And.intro hlv hno)
  clear hd hl hlv hno
  go_wp2_with fail
  refine(zjy at_ w2 (yz HS.o HB2.o)).mono ?_
  rintro r w3 ⟨rfl,hb3⟩
  have HB3:=za hb3
  have HR3:=za (HR2.o.below hb3)
  obtain⟨c0,z0⟩:=zg HR3.o 0 _ rfl
  obtain⟨c1,z1⟩:=zg HR3.o 1 _ rfl
  clear hb3
  unfold told
  go_wp2_with fail
  exact bodyPost_ret (v:= .tuple #[.int .i64 (l.es.length:Int),.agg #[.int .i64 0,.string ⟨([]:List UInt8).toArray⟩]]) (yy Tryz.results13 _ _ w.heap.size 29 _ (0,0) _ rfl (jr HR3.o _ _ rfl) Tryz.underlying29 rfl (by kernel_rfl) _ rfl) rfl ⟨jv (HT2.o.then_below HB3.o),.inr (.inl ⟨HN.o.1,HN.o.2,rfl,(HD.o.later HB3.o).sets2 HR3.o,(HL.o.later HB3.o).sets2 HR3.o⟩)⟩
 ·obtain⟨g,rfl⟩:∃ g,e= .iface 113 (.pointer (some ⟨g,0,none⟩)):=by
   rcases jf hge with ⟨h,-⟩ | ⟨-,h⟩
   ·simp at h
   ·exact h
  have HPE:Hid (zvv w2 g p):=by
   rcases hge with ⟨h,-⟩ | ⟨-,g',e',-,h⟩
   ·simp at h
   ·unfold xm at e'
    simp only [Value.iface.injEq,Value.pointer.injEq,Option.some.injEq,Addr.mk.injEq,true_and,and_true] at e'
    rw [e']
    exact h
  have HD:=za (hd.mono HX.o)
  have HL:=za (hl.mono HX.o)
  have HN:=za (And.intro hlv hsm)
  clear hd hl hlv hsm hge
  go_wp2_with fail
  refine(z4q at_ g p w2 (yz HS.o HB2.o) (HT.o.below HB2.o) HPE.o).mono ?_
  rintro r w3 ⟨rfl,hb3⟩
  have HB3:=za hb3
  have HR3:=za (HR2.o.below hb3)
  obtain⟨c0,z0⟩:=zg HR3.o 0 _ rfl
  obtain⟨c1,z1⟩:=zg HR3.o 1 _ rfl
  clear hb3
  unfold zf6
  go_wp2_with fail
  exact bodyPost_ret (v:= .tuple #[.int .i64 0,.agg #[.int .i64 8,.string ⟨p.toArray⟩]]) (yy Tryz.results13 _ _ w.heap.size 29 _ (0,0) _ rfl (jr HR3.o _ _ rfl) Tryz.underlying29 rfl (by kernel_rfl) _ rfl) rfl ⟨jv (HT2.o.then_below HB3.o),.inr (.inr ⟨HN.o.1,p,HN.o.2,rfl,(HD.o.later HB3.o).sets2 HR3.o,(HL.o.later HB3.o).sets2 HR3.o⟩)⟩
end
section
set_option maxHeartbeats 1000000
open Go.RowKit
set_option maxRecDepth 100000
theorem z41 (at_:Nat→Addr)(w:World)(hs:qm w at_):
  Calls Tryz.prog 27 #[.iface 326 (.pointer (some (at_ 3)))] w fun e w'=>e= .returned (told 4)∧Below w.heap.size w w':=by
 obtain⟨h0,h1,h2,h3,h4,h5,h6,hap,hbl⟩:=hs
 have Hap:=za hap
 have Hbl:=za hbl
 clear hap hbl h5
 have g0:∀ o,(w.alloc o).cell? ⟨1,0,none⟩=some (.iface 326 (.pointer (some (at_ 0)))):=fun o=>by rw [zk _ _ ⟨_,0,none⟩ (zj h0)];exact h0
 have g1:∀ o,(w.alloc o).cell? ⟨2,0,none⟩=some (.iface 326 (.pointer (some (at_ 1)))):=fun o=>by rw [zk _ _ ⟨_,0,none⟩ (zj h1)];exact h1
 have g2:∀ o,(w.alloc o).cell? ⟨3,0,none⟩=some (.iface 326 (.pointer (some (at_ 2)))):=fun o=>by rw [zk _ _ ⟨_,0,none⟩ (zj h2)];exact h2
 have g3:∀ o,(w.alloc o).cell? ⟨4,0,none⟩=some (.iface 326 (.pointer (some (at_ 3)))):=fun o=>by rw [zk _ _ ⟨_,0,none⟩ (zj h3)];exact h3
 have g4:∀ o,(w.alloc o).cell? ⟨5,0,none⟩=some (.iface 326 (.pointer (some (at_ 4)))):=fun o=>by rw [zk _ _ ⟨_,0,none⟩ (zj h4)];exact h4
 have g6:∀ o,(w.alloc o).cell? ⟨0,0,none⟩=some (.iface 326 (.pointer (some (at_ 6)))):=fun o=>by rw [zk _ _ ⟨_,0,none⟩ (zj h6)];exact h6
 clear h0 h1 h2 h3 h4 h6
 have hno:=zdk (.pointer (some (at_ 3)))
 have hd0:∀ o1 o2 o3,(binOp .eql 70 (.iface 326 (.pointer (some (at_ 3)))) (.iface 326 (.pointer (some (at_ 0))))).run Tryz.prog (((w.alloc o1).alloc o2).alloc o3)= .ok (.bool false) (((w.alloc o1).alloc o2).alloc o3):=fun o1 o2 o3=>by
  obtain⟨c0,t0,e0⟩:=Hbl.o 0 (by decide)
  obtain⟨c1,t1,e1⟩:=Hbl.o 3 (by decide)
  exact qq (Hap.o 3 0 (by decide) (by decide) (by decide)) ⟨c1,t1,zc (zc (zc e1))⟩ ⟨c0,t0,zc (zc (zc e0))⟩
 have hd1:∀ o1 o2 o3,(binOp .eql 70 (.iface 326 (.pointer (some (at_ 3)))) (.iface 326 (.pointer (some (at_ 1))))).run Tryz.prog (((w.alloc o1).alloc o2).alloc o3)= .ok (.bool false) (((w.alloc o1).alloc o2).alloc o3):=fun o1 o2 o3=>by
  obtain⟨c0,t0,e0⟩:=Hbl.o 1 (by decide)
  obtain⟨c1,t1,e1⟩:=Hbl.o 3 (by decide)
  exact qq (Hap.o 3 1 (by decide) (by decide) (by decide)) ⟨c1,t1,zc (zc (zc e1))⟩ ⟨c0,t0,zc (zc (zc e0))⟩
 have hd2:∀ o1 o2 o3,(binOp .eql 70 (.iface 326 (.pointer (some (at_ 3)))) (.iface 326 (.pointer (some (at_ 2))))).run Tryz.prog (((w.alloc o1).alloc o2).alloc o3)= .ok (.bool false) (((w.alloc o1).alloc o2).alloc o3):=fun o1 o2 o3=>by
  obtain⟨c0,t0,e0⟩:=Hbl.o 2 (by decide)
  obtain⟨c1,t1,e1⟩:=Hbl.o 3 (by decide)
  exact qq (Hap.o 3 2 (by decide) (by decide) (by decide)) ⟨c1,t1,zc (zc (zc e1))⟩ ⟨c0,t0,zc (zc (zc e0))⟩
 have hsm:∀ W,(binOp .eql 70 (.iface 326 (.pointer (some (at_ 3)))) (.iface 326 (.pointer (some (at_ 3))))).run Tryz.prog W= .ok (.bool true) W:=fun W=>by
  obtain⟨i,hi,hcmp⟩:=Option.map_eq_some_iff.1 zc1
  obtain⟨j,hj,hjs⟩:=Option.map_eq_some_iff.1 zc5
  exact run_eql_iface_ptr_same W (at_ 3) Tryz.underlying70 Tryz.underlying326 hi hcmp hj
 go_enter Tryz.func27,Tryz.ntmps27
 go_wp2_with fail
 refine wp_loop_rounds 5 ?_
 rw [rounds_succ]
 go_wp2_with fail
 rw [rounds_succ]
 go_wp2_with fail
 rw [rounds_succ]
 go_wp2_with fail
 rw [rounds_succ]
 go_wp2_with fail
 rw [rounds_succ]
 go_wp2_with fail
 refine bodyPost_ret (v:=told 4) (results_cell_row Tryz.results27 _ _ w.heap.size 29 _ (0,0) _ rfl (zc (zc (heap_alloc_last _ _))) Tryz.underlying29 rfl (by kernel_rfl)) rfl ⟨rfl,?_⟩
 exact((ze _ _).trans ((ze _ _).mono (by simp))).trans ((ze _ _).mono (by simp;omega))
end
end Go.Proofs.YtinhekmmdlhfkaaGreatDoor
