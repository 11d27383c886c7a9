import Derived.Test.YtndkblnpbjffhaaGreatDoorG47
import Derived.Test.YtndkblnpbjffhaaGreatDoorG46
set_option maxHeartbeats 1000000
set_option maxRecDepth 100000
open Go.RowKit
namespace Go.Proofs.YtndkblnpbjffhaaGreatDoor
theorem z5l (h:Nat→Addr)(w:World)(S:ja w h):
  Calls Tryz.prog 23 #[.iface 344 (.pointer (some (h 0)))] w fun e w'=>e= .returned (told 1)∧Below w.heap.size w w':=by
 obtain⟨h0,h1,h2,D,E,h5,h6,r,A⟩:=S;have I:=za r;have J:=za A;clear r A h5;have V:∀ o,(w.alloc o).cell? ⟨1,0,none⟩=some (.iface 344 (.pointer (some (h 0)))):=fun o=>by rw [zl _ _ ⟨_,0,none⟩ (zk h0)];exact h0
 have X:∀ o,(w.alloc o).cell? ⟨2,0,none⟩=some (.iface 344 (.pointer (some (h 1)))):=fun o=>by rw [zl _ _ ⟨_,0,none⟩ (zk h1)];exact h1
 have Y:∀ o,(w.alloc o).cell? ⟨0,0,none⟩=some (.iface 344 (.pointer (some (h 2)))):=fun o=>by rw [zl _ _ ⟨_,0,none⟩ (zk h2)];exact h2
 have Z:∀ o,(w.alloc o).cell? ⟨3,0,none⟩=some (.iface 344 (.pointer (some (h 3)))):=fun o=>by rw [zl _ _ ⟨_,0,none⟩ (zk D)];exact D
 have g4:∀ o,(w.alloc o).cell? ⟨4,0,none⟩=some (.iface 344 (.pointer (some (h 4)))):=fun o=>by rw [zl _ _ ⟨_,0,none⟩ (zk E)];exact E
 have g6:∀ o,(w.alloc o).cell? ⟨5,0,none⟩=some (.iface 344 (.pointer (some (h 6)))):=fun o=>by rw [zl _ _ ⟨_,0,none⟩ (zk h6)];exact h6
 clear h0 h1 h2 D E h6;have R:=zd3 (.pointer (some (h 0)));have U:∀ W,(binOp .eql 68 (.iface 344 (.pointer (some (h 0)))) (.iface 344 (.pointer (some (h 0))))).run Tryz.prog W= .ok (.bool true) W:=fun W=>by
  obtain⟨i,K,H⟩:=Option.map_eq_some_iff.1 zdy;obtain⟨j,L,Q⟩:=Option.map_eq_some_iff.1 zdr;exact run_eql_iface_ptr_same W (h 0) Tryz.underlying68 Tryz.underlying344 K H L
 go_enter Tryz.func23,Tryz.ntmps23;go_wp2_with fail;refine wp_loop_rounds 2 ?_;rw [rounds_succ];go_wp2_with fail;rw [rounds_succ];go_wp2_with fail;refine bodyPost_ret (v:=told 1) (results_cell_row Tryz.results23 _ _ w.heap.size 31 _ (0,0) _ rfl (zc (zc (heap_alloc_last _ _))) Tryz.underlying31 rfl (by kernel_rfl)) rfl ⟨rfl,?_⟩;exact((ze _ _).trans ((ze _ _).mono (by simp))).trans ((ze _ _).mono (by simp;omega))
theorem z4w (h:Nat→Addr)(w:World)(hs:ja w h):
  Calls Tryz.prog 23 #[.iface 344 (.pointer (some (h 2)))] w fun e w'=>e= .returned (told 3)∧Below w.heap.size w w':=by
 obtain⟨h0,h1,h2,S,U,h5,h6,I,J⟩:=hs;have H:=za I;have r:=za J;clear I J h5;have g0:∀ o,(w.alloc o).cell? ⟨1,0,none⟩=some (.iface 344 (.pointer (some (h 0)))):=fun o=>by rw [zl _ _ ⟨_,0,none⟩ (zk h0)];exact h0
 have g1:∀ o,(w.alloc o).cell? ⟨2,0,none⟩=some (.iface 344 (.pointer (some (h 1)))):=fun o=>by rw [zl _ _ ⟨_,0,none⟩ (zk h1)];exact h1
 have g2:∀ o,(w.alloc o).cell? ⟨0,0,none⟩=some (.iface 344 (.pointer (some (h 2)))):=fun o=>by rw [zl _ _ ⟨_,0,none⟩ (zk h2)];exact h2
 have g3:∀ o,(w.alloc o).cell? ⟨3,0,none⟩=some (.iface 344 (.pointer (some (h 3)))):=fun o=>by rw [zl _ _ ⟨_,0,none⟩ (zk S)];exact S
 have g4:∀ o,(w.alloc o).cell? ⟨4,0,none⟩=some (.iface 344 (.pointer (some (h 4)))):=fun o=>by rw [zl _ _ ⟨_,0,none⟩ (zk U)];exact U
 have g6:∀ o,(w.alloc o).cell? ⟨5,0,none⟩=some (.iface 344 (.pointer (some (h 6)))):=fun o=>by rw [zl _ _ ⟨_,0,none⟩ (zk h6)];exact h6
 clear h0 h1 h2 S U h6;have ad:=zd3 (.pointer (some (h 2)));have Z:∀ A D E,(binOp .eql 68 (.iface 344 (.pointer (some (h 2)))) (.iface 344 (.pointer (some (h 0))))).run Tryz.prog (((w.alloc A).alloc D).alloc E)= .ok (.bool false) (((w.alloc A).alloc D).alloc E):=fun A D E=>by
  obtain⟨K,X,Q⟩:=r.o 0 (by decide);obtain⟨L,Y,R⟩:=r.o 2 (by decide);exact qx (H.o 2 0 (by decide) (by decide) (by decide)) ⟨L,Y,zc (zc (zc R))⟩ ⟨K,X,zc (zc (zc Q))⟩
 have aa:∀ A D E,(binOp .eql 68 (.iface 344 (.pointer (some (h 2)))) (.iface 344 (.pointer (some (h 1))))).run Tryz.prog (((w.alloc A).alloc D).alloc E)= .ok (.bool false) (((w.alloc A).alloc D).alloc E):=fun A D E=>by
  obtain⟨K,X,Q⟩:=r.o 1 (by decide);obtain⟨L,Y,R⟩:=r.o 2 (by decide);exact qx (H.o 2 1 (by decide) (by decide) (by decide)) ⟨L,Y,zc (zc (zc R))⟩ ⟨K,X,zc (zc (zc Q))⟩
 have ae:∀ W,(binOp .eql 68 (.iface 344 (.pointer (some (h 2)))) (.iface 344 (.pointer (some (h 2))))).run Tryz.prog W= .ok (.bool true) W:=fun W=>by
  obtain⟨i,hi,V⟩:=Option.map_eq_some_iff.1 zdy;obtain⟨j,hj,ac⟩:=Option.map_eq_some_iff.1 zdr;exact run_eql_iface_ptr_same W (h 2) Tryz.underlying68 Tryz.underlying344 hi V hj
 go_enter Tryz.func23,Tryz.ntmps23;go_wp2_with fail;refine wp_loop_rounds 4 ?_;rw [rounds_succ];go_wp2_with fail;rw [rounds_succ];go_wp2_with fail;rw [rounds_succ];go_wp2_with fail;rw [rounds_succ];go_wp2_with fail;refine bodyPost_ret (v:=told 3) (results_cell_row Tryz.results23 _ _ w.heap.size 31 _ (0,0) _ rfl (zc (zc (heap_alloc_last _ _))) Tryz.underlying31 rfl (by kernel_rfl)) rfl ⟨rfl,?_⟩;exact((ze _ _).trans ((ze _ _).mono (by simp))).trans ((ze _ _).mono (by simp;omega))
theorem z30 (h:Nat→Addr)(w:World)(hs:ja w h):
  Calls Tryz.prog 23 #[.iface 344 (.pointer (some (h 4)))] w fun e w'=>e= .returned (told 5)∧Below w.heap.size w w':=by
 obtain⟨h0,h1,h2,V,X,h5,h6,S,U⟩:=hs;have H:=za S;have r:=za U;clear S U h5;have g0:∀ o,(w.alloc o).cell? ⟨1,0,none⟩=some (.iface 344 (.pointer (some (h 0)))):=fun o=>by rw [zl _ _ ⟨_,0,none⟩ (zk h0)];exact h0
 have g1:∀ o,(w.alloc o).cell? ⟨2,0,none⟩=some (.iface 344 (.pointer (some (h 1)))):=fun o=>by rw [zl _ _ ⟨_,0,none⟩ (zk h1)];exact h1
 have g2:∀ o,(w.alloc o).cell? ⟨0,0,none⟩=some (.iface 344 (.pointer (some (h 2)))):=fun o=>by rw [zl _ _ ⟨_,0,none⟩ (zk h2)];exact h2
 have g3:∀ o,(w.alloc o).cell? ⟨3,0,none⟩=some (.iface 344 (.pointer (some (h 3)))):=fun o=>by rw [zl _ _ ⟨_,0,none⟩ (zk V)];exact V
 have g4:∀ o,(w.alloc o).cell? ⟨4,0,none⟩=some (.iface 344 (.pointer (some (h 4)))):=fun o=>by rw [zl _ _ ⟨_,0,none⟩ (zk X)];exact X
 have g6:∀ o,(w.alloc o).cell? ⟨5,0,none⟩=some (.iface 344 (.pointer (some (h 6)))):=fun o=>by rw [zl _ _ ⟨_,0,none⟩ (zk h6)];exact h6
 clear h0 h1 h2 V X h6;have af:=zd3 (.pointer (some (h 4)));have Z:∀ A D E,(binOp .eql 68 (.iface 344 (.pointer (some (h 4)))) (.iface 344 (.pointer (some (h 0))))).run Tryz.prog (((w.alloc A).alloc D).alloc E)= .ok (.bool false) (((w.alloc A).alloc D).alloc E):=fun A D E=>by
  obtain⟨I,Q,K⟩:=r.o 0 (by decide);obtain⟨J,R,L⟩:=r.o 4 (by decide);exact qx (H.o 4 0 (by decide) (by decide) (by decide)) ⟨J,R,zc (zc (zc L))⟩ ⟨I,Q,zc (zc (zc K))⟩
 have aa:∀ A D E,(binOp .eql 68 (.iface 344 (.pointer (some (h 4)))) (.iface 344 (.pointer (some (h 1))))).run Tryz.prog (((w.alloc A).alloc D).alloc E)= .ok (.bool false) (((w.alloc A).alloc D).alloc E):=fun A D E=>by
  obtain⟨I,Q,K⟩:=r.o 1 (by decide);obtain⟨J,R,L⟩:=r.o 4 (by decide);exact qx (H.o 4 1 (by decide) (by decide) (by decide)) ⟨J,R,zc (zc (zc L))⟩ ⟨I,Q,zc (zc (zc K))⟩
 have ac:∀ A D E,(binOp .eql 68 (.iface 344 (.pointer (some (h 4)))) (.iface 344 (.pointer (some (h 2))))).run Tryz.prog (((w.alloc A).alloc D).alloc E)= .ok (.bool false) (((w.alloc A).alloc D).alloc E):=fun A D E=>by
  obtain⟨I,Q,K⟩:=r.o 2 (by decide);obtain⟨J,R,L⟩:=r.o 4 (by decide);exact qx (H.o 4 2 (by decide) (by decide) (by decide)) ⟨J,R,zc (zc (zc L))⟩ ⟨I,Q,zc (zc (zc K))⟩
 have ad:∀ A D E,(binOp .eql 68 (.iface 344 (.pointer (some (h 4)))) (.iface 344 (.pointer (some (h 3))))).run Tryz.prog (((w.alloc A).alloc D).alloc E)= .ok (.bool false) (((w.alloc A).alloc D).alloc E):=fun A D E=>by
  obtain⟨I,Q,K⟩:=r.o 3 (by decide);obtain⟨J,R,L⟩:=r.o 4 (by decide);exact qx (H.o 4 3 (by decide) (by decide) (by decide)) ⟨J,R,zc (zc (zc L))⟩ ⟨I,Q,zc (zc (zc K))⟩
 have ag:∀ W,(binOp .eql 68 (.iface 344 (.pointer (some (h 4)))) (.iface 344 (.pointer (some (h 4))))).run Tryz.prog W= .ok (.bool true) W:=fun W=>by
  obtain⟨i,hi,Y⟩:=Option.map_eq_some_iff.1 zdy;obtain⟨j,hj,ae⟩:=Option.map_eq_some_iff.1 zdr;exact run_eql_iface_ptr_same W (h 4) Tryz.underlying68 Tryz.underlying344 hi Y hj
 go_enter Tryz.func23,Tryz.ntmps23;go_wp2_with fail;refine wp_loop_rounds 6 ?_;rw [rounds_succ];go_wp2_with fail;rw [rounds_succ];go_wp2_with fail;rw [rounds_succ];go_wp2_with fail;rw [rounds_succ];go_wp2_with fail;rw [rounds_succ];go_wp2_with fail;rw [rounds_succ];go_wp2_with fail;refine bodyPost_ret (v:=told 5) (results_cell_row Tryz.results23 _ _ w.heap.size 31 _ (0,0) _ rfl (zc (zc (heap_alloc_last _ _))) Tryz.underlying31 rfl (by kernel_rfl)) rfl ⟨rfl,?_⟩;exact((ze _ _).trans ((ze _ _).mono (by simp))).trans ((ze _ _).mono (by simp;omega))
theorem z47 (h:Nat→Addr)(w:World)(hs:ja w h):
  Calls Tryz.prog 23 #[.iface 344 (.pointer (some (h 6)))] w fun e w'=>e= .returned (told 7)∧Below w.heap.size w w':=by
 obtain⟨h0,h1,h2,V,X,h5,h6,S,U⟩:=hs;have H:=za S;have r:=za U;clear S U h5;have g0:∀ o,(w.alloc o).cell? ⟨1,0,none⟩=some (.iface 344 (.pointer (some (h 0)))):=fun o=>by rw [zl _ _ ⟨_,0,none⟩ (zk h0)];exact h0
 have g1:∀ o,(w.alloc o).cell? ⟨2,0,none⟩=some (.iface 344 (.pointer (some (h 1)))):=fun o=>by rw [zl _ _ ⟨_,0,none⟩ (zk h1)];exact h1
 have g2:∀ o,(w.alloc o).cell? ⟨0,0,none⟩=some (.iface 344 (.pointer (some (h 2)))):=fun o=>by rw [zl _ _ ⟨_,0,none⟩ (zk h2)];exact h2
 have g3:∀ o,(w.alloc o).cell? ⟨3,0,none⟩=some (.iface 344 (.pointer (some (h 3)))):=fun o=>by rw [zl _ _ ⟨_,0,none⟩ (zk V)];exact V
 have g4:∀ o,(w.alloc o).cell? ⟨4,0,none⟩=some (.iface 344 (.pointer (some (h 4)))):=fun o=>by rw [zl _ _ ⟨_,0,none⟩ (zk X)];exact X
 have g6:∀ o,(w.alloc o).cell? ⟨5,0,none⟩=some (.iface 344 (.pointer (some (h 6)))):=fun o=>by rw [zl _ _ ⟨_,0,none⟩ (zk h6)];exact h6
 clear h0 h1 h2 V X h6;have ag:=zd3 (.pointer (some (h 6)));have Z:∀ A D E,(binOp .eql 68 (.iface 344 (.pointer (some (h 6)))) (.iface 344 (.pointer (some (h 0))))).run Tryz.prog (((w.alloc A).alloc D).alloc E)= .ok (.bool false) (((w.alloc A).alloc D).alloc E):=fun A D E=>by
  obtain⟨I,Q,K⟩:=r.o 0 (by decide);obtain⟨J,R,L⟩:=r.o 6 (by decide);exact qx (H.o 6 0 (by decide) (by decide) (by decide)) ⟨J,R,zc (zc (zc L))⟩ ⟨I,Q,zc (zc (zc K))⟩
 have aa:∀ A D E,(binOp .eql 68 (.iface 344 (.pointer (some (h 6)))) (.iface 344 (.pointer (some (h 1))))).run Tryz.prog (((w.alloc A).alloc D).alloc E)= .ok (.bool false) (((w.alloc A).alloc D).alloc E):=fun A D E=>by
  obtain⟨I,Q,K⟩:=r.o 1 (by decide);obtain⟨J,R,L⟩:=r.o 6 (by decide);exact qx (H.o 6 1 (by decide) (by decide) (by decide)) ⟨J,R,zc (zc (zc L))⟩ ⟨I,Q,zc (zc (zc K))⟩
 have ac:∀ A D E,(binOp .eql 68 (.iface 344 (.pointer (some (h 6)))) (.iface 344 (.pointer (some (h 2))))).run Tryz.prog (((w.alloc A).alloc D).alloc E)= .ok (.bool false) (((w.alloc A).alloc D).alloc E):=fun A D E=>by
  obtain⟨I,Q,K⟩:=r.o 2 (by decide);obtain⟨J,R,L⟩:=r.o 6 (by decide);exact qx (H.o 6 2 (by decide) (by decide) (by decide)) ⟨J,R,zc (zc (zc L))⟩ ⟨I,Q,zc (zc (zc K))⟩
 have ad:∀ A D E,(binOp .eql 68 (.iface 344 (.pointer (some (h 6)))) (.iface 344 (.pointer (some (h 3))))).run Tryz.prog (((w.alloc A).alloc D).alloc E)= .ok (.bool false) (((w.alloc A).alloc D).alloc E):=fun A D E=>by
  obtain⟨I,Q,K⟩:=r.o 3 (by decide);obtain⟨J,R,L⟩:=r.o 6 (by decide);exact qx (H.o 6 3 (by decide) (by decide) (by decide)) ⟨J,R,zc (zc (zc L))⟩ ⟨I,Q,zc (zc (zc K))⟩
 have ae:∀ A D E,(binOp .eql 68 (.iface 344 (.pointer (some (h 6)))) (.iface 344 (.pointer (some (h 4))))).run Tryz.prog (((w.alloc A).alloc D).alloc E)= .ok (.bool false) (((w.alloc A).alloc D).alloc E):=fun A D E=>by
  obtain⟨I,Q,K⟩:=r.o 4 (by decide);obtain⟨J,R,L⟩:=r.o 6 (by decide);exact qx (H.o 6 4 (by decide) (by decide) (by decide)) ⟨J,R,zc (zc (zc L))⟩ ⟨I,Q,zc (zc (zc K))⟩
 have ah:∀ W,(binOp .eql 68 (.iface 344 (.pointer (some (h 6)))) (.iface 344 (.pointer (some (h 6))))).run Tryz.prog W= .ok (.bool true) W:=fun W=>by
  obtain⟨i,hi,Y⟩:=Option.map_eq_some_iff.1 zdy;obtain⟨j,hj,af⟩:=Option.map_eq_some_iff.1 zdr;exact run_eql_iface_ptr_same W (h 6) Tryz.underlying68 Tryz.underlying344 hi Y hj
 go_enter Tryz.func23,Tryz.ntmps23;go_wp2_with fail;refine wp_loop_rounds 8 ?_;rw [rounds_succ];go_wp2_with fail;rw [rounds_succ];go_wp2_with fail;rw [rounds_succ];go_wp2_with fail;rw [rounds_succ];go_wp2_with fail;rw [rounds_succ];go_wp2_with fail;rw [rounds_succ];go_wp2_with fail;rw [rounds_succ];go_wp2_with fail;rw [rounds_succ];go_wp2_with fail;refine bodyPost_ret (v:=told 7) (results_cell_row Tryz.results23 _ _ w.heap.size 31 _ (0,0) _ rfl (zc (zc (heap_alloc_last _ _))) Tryz.underlying31 rfl (by kernel_rfl)) rfl ⟨rfl,?_⟩;exact((ze _ _).trans ((ze _ _).mono (by simp))).trans ((ze _ _).mono (by simp;omega))
def zf2 (w:World)(h lb:Nat):Prop:=w.heap[h]?=some (.cells #[.pointer (some ⟨lb,0,none⟩)] 131 (0,0))
theorem zq.later {w w':World}{O:Nat→Prop}{r:Nat}{d:Dk}{a:World}(h:zq w (Ext O a w) r d)(A:Below w.heap.size w w'):zq w' (Ext O a w') r d:=(h.stay (O1:=fun _=>False) (T:=[]) (.of_below A) (by simp) (by simp)).mono (fun _ h=>Ext.more A.size _ h)
theorem qz.later {w w':World}{O:Nat→Prop}{r lb:Nat}{l:Lg}{a:World}(h:qz w (Ext O a w) r lb l)(A:Below w.heap.size w w'):qz w' (Ext O a w') r lb l:=(h.stay (O1:=fun _=>False) (T:=[]) (.of_below A) (by simp) (by simp) (by simp)).mono (fun _ h=>Ext.more A.size _ h)
theorem j3 {P:Program}{A:Func}{p u:Tmp}{r:TypeId}(h:A.results=#[.tmp u,.cell p r])(tmps:Array Value)(w:World)(g:Nat)(t:TypeId)(cs:Array Value)(D:Nat×Nat)(d:TypeDesc)
  (E:tmps.getD p undef= .pointer (some ⟨g,0,none⟩)) (J:w.heap[g]?=some (.cells cs t D))
  (hu:P.underlying r=some d) (I:(match d with | .struct _ | .array _ _=>true | _=>false)=true) (K:(P.info? r).map (·.size)=some cs.size) (x:Value) (H:tmps.getD u undef=x) :
  (results A tmps).run P w= .ok (.tuple #[x,.agg cs]) w:=by
 have L:=run_loadVar_row (P:=P) w g t r cs D d J hu I K;simp only [Array.getD_eq_getD_getElem?] at E H;simp [results,h,E,H,asAddr,L]
def zch (B:Nat)(w:World):Prop:=w.heap[B]?=some (.cells #[.int .i64 0,.string ⟨#[]⟩] 31 (0,0))
theorem zch.below {B:Nat}{w w':World}(h:zch B w)(r:Below w.heap.size w w'):zch B w':=by
 unfold zch at *
 rw [r.block _ (zb h)];exact h
theorem zch.turn {B:Nat}{w w':World}{O:Nat→Prop}{T:List Nat}(h:zch B w)(A:zg O T w w')(r:31∉T):zch B w':=A.keep h r
theorem zel {O:Nat→Prop}{T:List Nat}{w W:World}{u v:Value}{i j:Nat}(h:zg O T w W):zg O T w ((W.setCell ⟨w.heap.size,i,none⟩ u).setCell ⟨w.heap.size,j,none⟩ v):=(h.setNew (Nat.le_refl _) _ _).setNew (Nat.le_refl _) _ _
theorem zq.sets2 {W w:World}{O:Nat→Prop}{r:Nat}{d:Dk}{u v:Value}{i j B:Nat}(h:zq W (Ext O w W) r d)(hr:zch B W):zq ((W.setCell ⟨B,i,none⟩ u).setCell ⟨B,j,none⟩ v) (Ext O w ((W.setCell ⟨B,i,none⟩ u).setCell ⟨B,j,none⟩ v)) r d:=by
 have D:zg (fun _=>True) [31] W (W.setCell ⟨B,i,none⟩ u):=(zg.refl _ _ _).set (.inl trivial) hr (by simp) u;have E:zg (fun _=>True) [31] (W.setCell ⟨B,i,none⟩ u) ((W.setCell ⟨B,i,none⟩ u).setCell ⟨B,j,none⟩ v):=(zg.refl _ _ _).set (.inl trivial) (qo hr i u) (by simp) v;exact((h.stay D (by decide) (by decide)).stay E (by decide) (by decide)).mono (fun k A=>ze0 k (ze0 k A))
theorem qz.sets2 {W w:World}{O:Nat→Prop}{r lb:Nat}{l:Lg}{u v:Value}{i j B:Nat}(h:qz W (Ext O w W) r lb l)(hr:zch B W):qz ((W.setCell ⟨B,i,none⟩ u).setCell ⟨B,j,none⟩ v) (Ext O w ((W.setCell ⟨B,i,none⟩ u).setCell ⟨B,j,none⟩ v)) r lb l:=by
 have D:zg (fun _=>True) [31] W (W.setCell ⟨B,i,none⟩ u):=(zg.refl _ _ _).set (.inl trivial) hr (by simp) u;have E:zg (fun _=>True) [31] (W.setCell ⟨B,i,none⟩ u) ((W.setCell ⟨B,i,none⟩ u).setCell ⟨B,j,none⟩ v):=(zg.refl _ _ _).set (.inl trivial) (qo hr i u) (by simp) v;exact((h.stay D (by decide) (by decide) (by decide)).stay E (by decide) (by decide) (by decide)).mono (fun k A=>ze0 k (ze0 k A))
theorem z0n (O:Nat→Prop)(A E lb:Nat)(l:Lg)(w:World)(D:zf2 w E lb)(h:qz w O A lb l):
  Calls Tryz.prog 20 #[.pointer (some ⟨E,0,none⟩)] w fun r w'=>r= .returned (.int .i64 (l.es.length:Int))∧w'=w:=by
 obtain⟨I,J⟩:=zf D 0 _ rfl;have H:=za h;clear h D;go_enter Tryz.func20,Tryz.ntmps20;go_wp2_with fail;refine(z6f O A lb l w H.o).mono ?_;rintro r K ⟨rfl,rfl⟩;go_wp2_with fail;go_ret;exact⟨rfl,rfl⟩
theorem z3e (h:Nat→Addr)(w:World)(hs:ja w h):
  Calls Tryz.prog 23 #[.iface 344 (.pointer (some (h 3)))] w fun e w'=>e= .returned (told 4)∧Below w.heap.size w w':=by
 obtain⟨h0,h1,h2,V,X,h5,h6,Q,R⟩:=hs;have H:=za Q;have r:=za R;clear Q R h5;have g0:∀ o,(w.alloc o).cell? ⟨1,0,none⟩=some (.iface 344 (.pointer (some (h 0)))):=fun o=>by rw [zl _ _ ⟨_,0,none⟩ (zk h0)];exact h0
 have g1:∀ o,(w.alloc o).cell? ⟨2,0,none⟩=some (.iface 344 (.pointer (some (h 1)))):=fun o=>by rw [zl _ _ ⟨_,0,none⟩ (zk h1)];exact h1
 have g2:∀ o,(w.alloc o).cell? ⟨0,0,none⟩=some (.iface 344 (.pointer (some (h 2)))):=fun o=>by rw [zl _ _ ⟨_,0,none⟩ (zk h2)];exact h2
 have g3:∀ o,(w.alloc o).cell? ⟨3,0,none⟩=some (.iface 344 (.pointer (some (h 3)))):=fun o=>by rw [zl _ _ ⟨_,0,none⟩ (zk V)];exact V
 have g4:∀ o,(w.alloc o).cell? ⟨4,0,none⟩=some (.iface 344 (.pointer (some (h 4)))):=fun o=>by rw [zl _ _ ⟨_,0,none⟩ (zk X)];exact X
 have g6:∀ o,(w.alloc o).cell? ⟨5,0,none⟩=some (.iface 344 (.pointer (some (h 6)))):=fun o=>by rw [zl _ _ ⟨_,0,none⟩ (zk h6)];exact h6
 clear h0 h1 h2 V X h6;have ae:=zd3 (.pointer (some (h 3)));have Z:∀ A D E,(binOp .eql 68 (.iface 344 (.pointer (some (h 3)))) (.iface 344 (.pointer (some (h 0))))).run Tryz.prog (((w.alloc A).alloc D).alloc E)= .ok (.bool false) (((w.alloc A).alloc D).alloc E):=fun A D E=>by
  obtain⟨I,S,K⟩:=r.o 0 (by decide);obtain⟨J,U,L⟩:=r.o 3 (by decide);exact qx (H.o 3 0 (by decide) (by decide) (by decide)) ⟨J,U,zc (zc (zc L))⟩ ⟨I,S,zc (zc (zc K))⟩
 have aa:∀ A D E,(binOp .eql 68 (.iface 344 (.pointer (some (h 3)))) (.iface 344 (.pointer (some (h 1))))).run Tryz.prog (((w.alloc A).alloc D).alloc E)= .ok (.bool false) (((w.alloc A).alloc D).alloc E):=fun A D E=>by
  obtain⟨I,S,K⟩:=r.o 1 (by decide);obtain⟨J,U,L⟩:=r.o 3 (by decide);exact qx (H.o 3 1 (by decide) (by decide) (by decide)) ⟨J,U,zc (zc (zc L))⟩ ⟨I,S,zc (zc (zc K))⟩
 have ac:∀ A D E,(binOp .eql 68 (.iface 344 (.pointer (some (h 3)))) (.iface 344 (.pointer (some (h 2))))).run Tryz.prog (((w.alloc A).alloc D).alloc E)= .ok (.bool false) (((w.alloc A).alloc D).alloc E):=fun A D E=>by
  obtain⟨I,S,K⟩:=r.o 2 (by decide);obtain⟨J,U,L⟩:=r.o 3 (by decide);exact qx (H.o 3 2 (by decide) (by decide) (by decide)) ⟨J,U,zc (zc (zc L))⟩ ⟨I,S,zc (zc (zc K))⟩
 have af:∀ W,(binOp .eql 68 (.iface 344 (.pointer (some (h 3)))) (.iface 344 (.pointer (some (h 3))))).run Tryz.prog W= .ok (.bool true) W:=fun W=>by
  obtain⟨i,hi,Y⟩:=Option.map_eq_some_iff.1 zdy;obtain⟨j,hj,ad⟩:=Option.map_eq_some_iff.1 zdr;exact run_eql_iface_ptr_same W (h 3) Tryz.underlying68 Tryz.underlying344 hi Y hj
 go_enter Tryz.func23,Tryz.ntmps23;go_wp2_with fail;refine wp_loop_rounds 5 ?_;rw [rounds_succ];go_wp2_with fail;rw [rounds_succ];go_wp2_with fail;rw [rounds_succ];go_wp2_with fail;rw [rounds_succ];go_wp2_with fail;rw [rounds_succ];go_wp2_with fail;refine bodyPost_ret (v:=told 4) (results_cell_row Tryz.results23 _ _ w.heap.size 31 _ (0,0) _ rfl (zc (zc (heap_alloc_last _ _))) Tryz.underlying31 rfl (by kernel_rfl)) rfl ⟨rfl,?_⟩;exact((ze _ _).trans ((ze _ _).mono (by simp))).trans ((ze _ _).mono (by simp;omega))
def zve (h:Nat→Addr)(w:World)(e:Value)(t:Int×List UInt8):Prop :=
 (e= .nilIface∧t=(0,[]))∨(e=j4 h 1∧t=(2,[]))∨(e=j4 h 2∧t=(3,[]))∨(e=j4 h 3∧t=(4,[]))∨(e=j4 h 4∧t=(5,[])) ∨
 (∃ p g,e=qq g∧w.heap[g]?=some (.cells #[txv p,j4 h 5] 141 (0,0))∧t=(6,p))
def zgk (t:Int×List UInt8):Value:= .agg #[.int .i64 t.1,.string ⟨t.2.toArray⟩]
theorem zve.turn {r:Nat→Addr}{w w':World}{N:Nat→Prop}{T:List Nat}{e:Value}{t:Int×List UInt8}(h:zve r w e t)(E:zg N T w w')(D:141∉T):zve r w' e t:=by
 rcases h with h | h | h | h | h | ⟨p,g,h1,h2,A⟩
 ·exact .inl h
 ·exact .inr (.inl h)
 ·exact .inr (.inr (.inl h))
 ·exact .inr (.inr (.inr (.inl h)))
 ·exact .inr (.inr (.inr (.inr (.inl h))))
 ·exact .inr (.inr (.inr (.inr (.inr ⟨p,g,h1,E.keep h2 D,A⟩))))
theorem zrm (A:Nat→Addr)(w:World)(D:ja w A)(e:Value)(t:Int×List UInt8)(h:zve A w e t):
  Calls Tryz.prog 23 #[e] w fun r w'=>r= .returned (zgk t)∧Below w.heap.size w w':=by
 rcases h with ⟨rfl,rfl⟩ | ⟨rfl,rfl⟩ | ⟨rfl,rfl⟩ | ⟨rfl,rfl⟩ | ⟨rfl,rfl⟩ | ⟨p,g,rfl,h2,rfl⟩
 ·exact zqr A w D
 ·exact z2p A w D
 ·exact z4w A w D
 ·exact z3e A w D
 ·exact z30 A w D
 ·exact z7s A g p w D h2
def erT (e:Er):Int×List UInt8:=(e.n,e.p)
def zb7 (o:Sum Er (List (List UInt8))):List (List UInt8)×(Int×List UInt8):=match o with
 | .inl e=>([],erT e)
 | .inr ps=>(ps,(0,[]))
theorem zcx (B:Nat)(w:World):zbl B w (.slice none 0 0) []:=⟨rfl,.inl ⟨rfl,rfl⟩⟩
theorem z9x.tell {A:Nat→Addr}{B:Nat}{w':World}{o:Sum Er (List (List UInt8))}{r:Ending}(h:z9x A B w' o r):∃ v e,r= .returned (.tuple #[v,e])∧zbl B w' v (zb7 o).1∧(∀ p∈(zb7 o).1,p.length=8)∧zve A w' e (zb7 o).2:=by
 rcases h with (⟨H,v,rfl,h2,D,E⟩ | ⟨p,g,rfl,h2,D⟩ | ⟨rfl,h2⟩ | ⟨rfl,h2⟩) | ⟨rfl,h2⟩
 ·exact⟨v,_,E,h2,D,.inl ⟨rfl,rfl⟩⟩
 ·exact⟨_,_,D,zcx _ _,by simp [zb7],.inr (.inr (.inr (.inr (.inr ⟨p,g,rfl,h2,rfl⟩))))⟩
 ·exact⟨_,_,h2,zcx _ _,by simp [zb7],.inr (.inr (.inr (.inr (.inl ⟨rfl,rfl⟩))))⟩
 ·exact⟨_,_,h2,zcx _ _,by simp [zb7],.inr (.inr (.inr (.inl ⟨rfl,rfl⟩)))⟩
 ·exact⟨_,_,h2,zcx _ _,by simp [zb7],.inr (.inr (.inl ⟨rfl,rfl⟩))⟩
def zgl (o:Sum Er (List UInt8×List (List UInt8))):List UInt8×List (List UInt8)×(Int×List UInt8):=match o with
 | .inl e=>([],[],erT e)
 | .inr x=>(x.1,x.2,(0,[]))
theorem zme.tell {A:Nat→Addr}{B:Nat}{w':World}{o:Sum Er (List UInt8×List (List UInt8))}{r:Ending}(h:zme A B w' o r):∃ x v e,r= .returned (.tuple #[x,v,e])∧z8y B w' x (zgl o).1∧zbl B w' v (zgl o).2.1∧(∀ p∈(zgl o).2.1,p.length=8)∧zve A w' e (zgl o).2.2:=by
 rcases h with ⟨e,H,x,v,rfl,h2,D,E,h5⟩ | ⟨p,g,rfl,h2,D⟩ | ⟨rfl,h2⟩
 ·exact⟨x,v,_,h5,h2,D,E,.inl ⟨rfl,rfl⟩⟩
 ·exact⟨_,_,_,D,.inl ⟨rfl,rfl⟩,zcx _ _,by simp [zgl],.inr (.inr (.inr (.inr (.inr ⟨p,g,rfl,h2,rfl⟩))))⟩
 ·exact⟨_,_,_,h2,.inl ⟨rfl,rfl⟩,zcx _ _,by simp [zgl],.inr (.inr (.inr (.inr (.inl ⟨rfl,rfl⟩))))⟩
theorem CR.since {I w w0 V:World}{O A H:Nat→Prop}{cb S J U nm:Nat}{d:Dk}{c':Cl}{R:Nt}{P:(Nat→Prop)→Prop}(h:CR I w0 V O A H cb S J U nm d c' R P)(Q:Below w.heap.size w w0):CR I w V O A H cb S J U nm d c' R P:=by
 obtain⟨W,D,K,L,E,X⟩:=h.rest;have Y:=Q.size;exact⟨(zg.of_below Q).trans (h.turn.mono (fun _ h=> .inl h) (fun _ h=>h)),⟨W,D,⟨K.1,fun b r=>(K.2 b r).imp id (fun h=>⟨by omega,h.2⟩)⟩,⟨L.1,fun b r=>(L.2 b r).imp id (fun h=>⟨by omega,h.2⟩)⟩,E,X⟩,h.sh⟩
theorem Pv.below {D w w':World}{O A r:Nat→Prop}{cb E H nm:Nat}{c:Cl}(h:Pv D w O A r cb E H nm c)(I:Below w.heap.size w w'):Pv D w' O A r cb E H nm c :=
 h.other (N:=fun _=>False) (T:=[]) (.of_below I) (fun _ _ h=>h) (by simp)
theorem Sh.below {r w w':World}{O:Nat→Prop}{D A:Nat}{d:Dk}{n:Nt}(h:Sh r w O D A d n)(E:Below w.heap.size w w'):Sh r w' O D A d n :=
 h.past (G:=fun _=>False) (T:=[]) (.of_below E) (fun _ h=>h.elim) (by simp) (by simp) (by simp) (by simp) (by simp)
abbrev TPc:Nat:=55
def zgz (w:World)(h cb:Nat):Prop:=w.heap[h]?=some (.cells #[zo cb] TPc (0,0))
theorem zd1 {W:World}{B:Nat}(h:zch B W)(u v:Value):zg (fun k=>k=B) [31] W ((W.setCell ⟨B,0,none⟩ u).setCell ⟨B,1,none⟩ v):=by
 have r:zg (fun k=>k=B) [31] W (W.setCell ⟨B,0,none⟩ u):=zg.set (O:=fun k=>k=B) (T:=[31]) (zg.refl _ _ _) (.inl rfl) h (by simp) u;exact zg.set (O:=fun k=>k=B) (T:=[31]) r (.inl rfl) (qo h 0 u) (by simp) v
theorem zoz {W:World}{B:Nat}(h:zch B W):zej (fun k=>k=B) [31] W:=fun k r=>by
 subst r;exact⟨_,_,_,h,by simp⟩
end Go.Proofs.YtndkblnpbjffhaaGreatDoor
