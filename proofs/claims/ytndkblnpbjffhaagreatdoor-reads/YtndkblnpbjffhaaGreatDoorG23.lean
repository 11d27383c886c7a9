import Derived.Test.YtndkblnpbjffhaaGreatDoorG22
import Derived.Stop.Asserts
set_option maxHeartbeats 4000000
set_option maxRecDepth 100000
open Go.RowKit Go.Extern.Stop Go.Stop Go.Extern
namespace Go.Proofs.YtndkblnpbjffhaaGreatDoor
section
attribute [local go_sem ↓] yv yl yy yo yj ym yx yk
theorem zjp.all {w':World}{o:Option Fl}{r:Ending}(h:zjp w' o r):∃ xs,FOk xs∧r= .returned (.tuple #[.agg (fcs xs).toArray,.bool o.isSome])∧∀ f,o=some f→j9 w' xs f:=by
 rcases h with ⟨xs,f,rfl,A,E,rfl⟩ | ⟨rfl,xs,A,rfl⟩
 ·exact⟨xs,A,rfl,fun D e=>by rw [← Option.some.inj e];exact E⟩
 ·exact⟨xs,A,rfl,fun D e=>by simp at e⟩
theorem zjp.mk {w':World}{o:Option Fl}{xs:List Px}(h:FOk xs)(r:∀ f,o=some f→j9 w' xs f):zjp w' o (.returned (.tuple #[.agg (fcs xs).toArray,.bool o.isSome])):=by
 cases o with
 | none=>exact .inr ⟨rfl,xs,h,rfl⟩
 | some f=>exact .inl ⟨xs,f,rfl,h,r f rfl,rfl⟩
theorem zgo.below {w w':World}{v:Value}{x:Option (List UInt8)}(h:zgo w v x)(r:Below w.heap.size w w'):zgo w' v x:=by
 rcases h with ⟨d,rfl,A⟩ | ⟨rfl,rfl⟩
 ·exact .inl ⟨d,rfl,A.below r⟩
 ·exact .inr ⟨rfl,rfl⟩
theorem zzq (l W:Int)(n:Nat)(aa:0 < n)(hn:n≤4)(v:Value)(x:Option (List UInt8))(w:World)(h:zgo w v x):
  Calls Tryz.prog 233 #[plV (l,W,n),v] w fun r w'=>Below w.heap.size w w'∧zjp w' (zck l n (x.getD [])) r:=by
 unfold plV;simp only;have K:Hid (Below w.heap.size w ((w.alloc (.cells #[.int .i64 l,.int .i64 W,.int .i64 n] 99)).alloc (.cells qt zt))∧zn ((w.alloc (.cells #[.int .i64 l,.int .i64 W,.int .i64 n] 99)).alloc (.cells qt zt)) (w.heap.size+1) Fx.no):=by
  refine⟨zz _ _ _,?_⟩;have:=heap_alloc_last (w.alloc (.cells #[.int .i64 l,.int .i64 W,.int .i64 n] 99)) (.cells qt zt);rw [show(w.alloc (.cells #[.int .i64 l,.int .i64 W,.int .i64 n] 99)).heap.size=w.heap.size+1 by simp] at this;exact this
 have H:=za h;clear h;by_cases X:l=-1
 ·subst X;have Q:=za (zt4 n v x _ (H.o.below K.o.1));go_enter Tryz.func233,Tryz.ntmps233;go_wp2_with fail;refine Q.o.mono ?_;rintro r E ⟨D,S⟩;obtain⟨xs,J,rfl,U⟩:=S.all;have I:Below w.heap.size w E:=K.o.1.trans (D.mono K.o.1.size);have A:zn E (w.heap.size+1) Fx.no:=(D.block _ (zb K.o.2)).trans K.o.2;have ac:(zcq (.pointer (some ⟨w.heap.size+1,0,none⟩)) (.agg (fcs xs).toArray)).run Tryz.prog E= .ok () (E.setCells (w.heap.size+1) 0 (fcs xs)):=qj (xj A Fx.no_ok) J.len (jp J.2);have HW:=za (qb A Fx.no_ok J);have Y:=za (zr I (Nat.le_succ w.heap.size) (fcs xs) 0);have L:Hid (zg (fun b=>b=w.heap.size+1) [zt] E (E.setCells (w.heap.size+1) 0 (fcs xs))):=za ((zg.refl (fun b=>b=w.heap.size+1) [zt] E).setCells (.inl rfl) A (by simp) _ _);have Z:=za U;have R:=za J;clear S U J I A D Q;generalize V:zck (-1) n (x.getD [])=o at *
  have HO:=za V;clear V;go_wp2_with fail;exact bodyPost_ret (v:= .tuple #[.agg (fcs xs).toArray,.bool o.isSome]) (zv Tryz.results233 _ _ (w.heap.size+1) zt _ (0,0) _ rfl HW.o Tryz.underlying104 rfl (by rw [jt,List.size_toArray,R.o.len]) _ rfl) rfl ⟨Y.o,by rw [HO.o];exact zjp.mk R.o (fun f e=>(Z.o f e).turn L.o (by decide))⟩
 ·have ad:(l==-1)=false:=by simp [X]
  have Q:=za (zrd n aa hn l X v x _ (H.o.below K.o.1));clear X;go_enter Tryz.func233,Tryz.ntmps233;go_wp2_with fail;refine Q.o.mono ?_;rintro r E ⟨D,S⟩;obtain⟨xs,J,rfl,U⟩:=S.all;have I:Below w.heap.size w E:=K.o.1.trans (D.mono K.o.1.size);have A:zn E (w.heap.size+1) Fx.no:=(D.block _ (zb K.o.2)).trans K.o.2;have ac:(zcq (.pointer (some ⟨w.heap.size+1,0,none⟩)) (.agg (fcs xs).toArray)).run Tryz.prog E= .ok () (E.setCells (w.heap.size+1) 0 (fcs xs)):=qj (xj A Fx.no_ok) J.len (jp J.2);have HW:=za (qb A Fx.no_ok J);have Y:=za (zr I (Nat.le_succ w.heap.size) (fcs xs) 0);have L:Hid (zg (fun b=>b=w.heap.size+1) [zt] E (E.setCells (w.heap.size+1) 0 (fcs xs))):=za ((zg.refl (fun b=>b=w.heap.size+1) [zt] E).setCells (.inl rfl) A (by simp) _ _);have Z:=za U;have R:=za J;clear S U J I A D Q;generalize V:zck l n (x.getD [])=o at *
  have HO:=za V;clear V;go_wp2_with fail;exact bodyPost_ret (v:= .tuple #[.agg (fcs xs).toArray,.bool o.isSome]) (zv Tryz.results233 _ _ (w.heap.size+1) zt _ (0,0) _ rfl HW.o Tryz.underlying104 rfl (by rw [jt,List.size_toArray,R.o.len]) _ rfl) rfl ⟨Y.o,by rw [HO.o];exact zjp.mk R.o (fun f e=>(Z.o f e).turn L.o (by decide))⟩
end
theorem ja.below {w w':World}{r:Nat→Addr}(h:ja w r)(D:Below w.heap.size w w'):ja w' r:=by
 have c:∀ {a:Addr} {v:Value},w.cell? a=some v→w'.cell? a=some v:=fun {a v} e=>by rw [D.cell (p:=a) (zk e)];exact e
 refine⟨c h.entry,c h.range,c h.check,c h.old,c h.proof,c h.tile,c h.failed,h.apart,fun i E=>?_⟩;obtain⟨cs,t,e⟩:=h.block i E;refine⟨cs,t,?_⟩;rw [D.block _ ?_]
 ·exact e
 ·rcases Nat.lt_or_ge (r i).block w.heap.size with A | A
  ·exact A
  ·simp [Array.getElem?_eq_none A] at e
def told (n:Int):Value:= .agg #[.int .i64 n,.string ⟨#[]⟩]
theorem zqr (h:Nat→Addr)(w:World)(H:ja w h):
  Calls Tryz.prog 23 #[.nilIface] w fun e w'=>e= .returned (told 0)∧Below w.heap.size w w':=by
 obtain⟨h0,h1,h2,r,A,h5,h6,D,E⟩:=H;clear D E h5;have I:∀ o,(w.alloc o).cell? ⟨1,0,none⟩=some (.iface 344 (.pointer (some (h 0)))):=fun o=>by rw [zl _ _ ⟨_,0,none⟩ (zk h0)];exact h0
 have J:∀ o,(w.alloc o).cell? ⟨2,0,none⟩=some (.iface 344 (.pointer (some (h 1)))):=fun o=>by rw [zl _ _ ⟨_,0,none⟩ (zk h1)];exact h1
 have K:∀ o,(w.alloc o).cell? ⟨0,0,none⟩=some (.iface 344 (.pointer (some (h 2)))):=fun o=>by rw [zl _ _ ⟨_,0,none⟩ (zk h2)];exact h2
 have L:∀ o,(w.alloc o).cell? ⟨3,0,none⟩=some (.iface 344 (.pointer (some (h 3)))):=fun o=>by rw [zl _ _ ⟨_,0,none⟩ (zk r)];exact r
 have Q:∀ o,(w.alloc o).cell? ⟨4,0,none⟩=some (.iface 344 (.pointer (some (h 4)))):=fun o=>by rw [zl _ _ ⟨_,0,none⟩ (zk A)];exact A
 have R:∀ o,(w.alloc o).cell? ⟨5,0,none⟩=some (.iface 344 (.pointer (some (h 6)))):=fun o=>by rw [zl _ _ ⟨_,0,none⟩ (zk h6)];exact h6
 clear h0 h1 h2 r A h6;go_enter Tryz.func23,Tryz.ntmps23;go_wp2_with fail;refine bodyPost_ret (v:=told 0) (results_cell_row Tryz.results23 _ _ w.heap.size 31 _ (0,0) _ rfl (zc (zc (heap_alloc_last _ _))) Tryz.underlying31 rfl (by kernel_rfl)) rfl ⟨rfl,?_⟩;exact((ze _ _).trans ((ze _ _).mono (by simp))).trans ((ze _ _).mono (by simp;omega))
theorem zd3 (v:Value)(W:World):(Instr.typeAssert (.iface 344 v) 68 139 true).run Tryz.prog W= .ok (.tuple #[.pointer none,.bool false]) W:=by kernel_rfl
theorem z2p (h:Nat→Addr)(w:World)(hs:ja w h):
  Calls Tryz.prog 23 #[.iface 344 (.pointer (some (h 1)))] w fun e w'=>e= .returned (told 2)∧Below w.heap.size w w':=by
 obtain⟨h0,h1,h2,H,I,h5,h6,A,r⟩:=hs;have D:=za (A 1 0 (by decide) (by decide) (by decide));have E:=za (And.intro (r 0 (by decide)) (r 1 (by decide)));clear A r h5;have g0:∀ o,(w.alloc o).cell? ⟨1,0,none⟩=some (.iface 344 (.pointer (some (h 0)))):=fun o=>by rw [zl _ _ ⟨_,0,none⟩ (zk h0)];exact h0
 have g1:∀ o,(w.alloc o).cell? ⟨2,0,none⟩=some (.iface 344 (.pointer (some (h 1)))):=fun o=>by rw [zl _ _ ⟨_,0,none⟩ (zk h1)];exact h1
 have g2:∀ o,(w.alloc o).cell? ⟨0,0,none⟩=some (.iface 344 (.pointer (some (h 2)))):=fun o=>by rw [zl _ _ ⟨_,0,none⟩ (zk h2)];exact h2
 have g3:∀ o,(w.alloc o).cell? ⟨3,0,none⟩=some (.iface 344 (.pointer (some (h 3)))):=fun o=>by rw [zl _ _ ⟨_,0,none⟩ (zk H)];exact H
 have g4:∀ o,(w.alloc o).cell? ⟨4,0,none⟩=some (.iface 344 (.pointer (some (h 4)))):=fun o=>by rw [zl _ _ ⟨_,0,none⟩ (zk I)];exact I
 have g6:∀ o,(w.alloc o).cell? ⟨5,0,none⟩=some (.iface 344 (.pointer (some (h 6)))):=fun o=>by rw [zl _ _ ⟨_,0,none⟩ (zk h6)];exact h6
 clear h0 h1 h2 H I h6;have ac:=zd3 (.pointer (some (h 1)));have X:∀ K L Q,(binOp .eql 68 (.iface 344 (.pointer (some (h 1)))) (.iface 344 (.pointer (some (h 0))))).run Tryz.prog (((w.alloc K).alloc L).alloc Q)= .ok (.bool false) (((w.alloc K).alloc L).alloc Q):=fun K L Q=>by
  obtain⟨⟨R,t0,U⟩,⟨S,t1,V⟩⟩:=E.o;exact qx D.o ⟨S,t1,zc (zc (zc V))⟩ ⟨R,t0,zc (zc (zc U))⟩
 have ad:∀ W,(binOp .eql 68 (.iface 344 (.pointer (some (h 1)))) (.iface 344 (.pointer (some (h 1))))).run Tryz.prog W= .ok (.bool true) W:=fun W=>by
  obtain⟨i,Y,J⟩:=Option.map_eq_some_iff.1 zdy;obtain⟨j,Z,aa⟩:=Option.map_eq_some_iff.1 zdr;exact run_eql_iface_ptr_same W (h 1) Tryz.underlying68 Tryz.underlying344 Y J Z
 go_enter Tryz.func23,Tryz.ntmps23;go_wp2_with fail;refine wp_loop_rounds 3 ?_;rw [rounds_succ];go_wp2_with fail;rw [rounds_succ];go_wp2_with fail;rw [rounds_succ];go_wp2_with fail;refine bodyPost_ret (v:=told 2) (results_cell_row Tryz.results23 _ _ w.heap.size 31 _ (0,0) _ rfl (zc (zc (heap_alloc_last _ _))) Tryz.underlying31 rfl (by kernel_rfl)) rfl ⟨rfl,?_⟩;exact((ze _ _).trans ((ze _ _).mono (by simp))).trans ((ze _ _).mono (by simp;omega))
section
attribute [local go_sem ↓] yv yl yy yo yj ym yx yk
structure NOk (d:Dk)(n:Nt):Prop where
 nf:d.fs.length≤1000000000
 fl:∀ f∈d.fs,f.2.length≤1000000000
 ly:∀ l∈n.lies,l.data.length≤1000000000
 ll:n.lies.length≤0
 fe:0≤n.fetches∧n.fetches < 4611686018427387904
 td:∀ t∈n.told,0≤t∧t < 4611686018427387904
def yal (h:Nat→Addr)(s:Nat)(p:List UInt8)(w':World)(o:Option Fl)(r:Ending):Prop :=
 (∃ xs f,o=some f∧FOk xs∧j9 w' xs f∧r= .returned (.tuple #[.agg (fcs xs).toArray,.nilIface])) ∨
 (o=none∧∃ g,s≤g∧w'.heap[g]?=some (.cells #[txv p,j4 h 5] 141 (0,0))∧r= .returned (.tuple #[.agg (fcs Fx.no).toArray,qq g]))
theorem zg.setCellsNew {O:Nat→Prop}{T:List Nat}{a w:World}(h:zg O T a w){b:Nat}(I:a.heap.size≤b)(r:List Value)(o:Nat):zg O T a (w.setCells b o r):=by
 obtain⟨D,E,H⟩:=ze7 (w:=w) (b:=b) r o;exact⟨D.trans h.os,E.trans h.tape,H.trans h.output,by rw [vh];exact h.size,fun k A=>by
  rw [qc r o (by omega)];exact h.block k A⟩
theorem zov {O:Nat→Prop}{I D:Nat}{H:Nt}{w h:World}{P:Obj}(K:zg O nT w h)(J:vi h O I D H)(E:zn h (w.heap.size+1) Fx.no):
  zg O nT w ((h.alloc P).drew.setCells (w.heap.size+1) 0 (fcs Fx.no))∧vi ((h.alloc P).drew.setCells (w.heap.size+1) 0 (fcs Fx.no)) O I D H∧zn ((h.alloc P).drew.setCells (w.heap.size+1) 0 (fcs Fx.no)) (w.heap.size+1) Fx.no∧((h.alloc P).drew.setCells (w.heap.size+1) 0 (fcs Fx.no)).heap[h.heap.size]?=some P:=by
 have r:zn (h.alloc P).drew (w.heap.size+1) Fx.no:=zc (o:=P) E;have L:=zb E;have A:=(zg.refl (fun b=>b=w.heap.size+1) [zt] (h.alloc P).drew).setCells (.inl rfl) r (by simp) (fcs Fx.no) 0;refine⟨(K.alloc P).drew.setCellsNew (Nat.le_succ _) _ _,(J.below (ze _ _).drew).turn A (by decide) (by decide) (by decide),qb r Fx.no_ok Fx.no_ok,?_⟩;rw [qc _ _ (by omega)];exact heap_alloc_last h P
theorem zow {O:Nat→Prop}{H D:Nat}{E:Nt}{w h:World}{P:Obj}(J:zg O nT w h)(I:vi h O H D E)(K:zn h (w.heap.size+1) Fx.no):
  zg O nT w ((h.drew.setCells (w.heap.size+1) 0 (fcs Fx.no)).alloc P)∧vi ((h.drew.setCells (w.heap.size+1) 0 (fcs Fx.no)).alloc P) O H D E∧zn ((h.drew.setCells (w.heap.size+1) 0 (fcs Fx.no)).alloc P) (w.heap.size+1) Fx.no∧((h.drew.setCells (w.heap.size+1) 0 (fcs Fx.no)).alloc P).heap[(h.drew.setCells (w.heap.size+1) 0 (fcs Fx.no)).heap.size]?=some P:=by
 have r:zn h.drew (w.heap.size+1) Fx.no:=K;have A:=(zg.refl (fun b=>b=w.heap.size+1) [zt] h.drew).setCells (.inl rfl) r (by simp) (fcs Fx.no) 0;refine⟨(J.drew.setCellsNew (Nat.le_succ _) _ _).alloc P,((I.below (Below.refl _ _).drew).turn A (by decide) (by decide) (by decide)).below (ze _ _),zc (qb r Fx.no_ok Fx.no_ok),heap_alloc_last _ _⟩
theorem zni (S:World)(J:Nat→Addr)(O:Nat→Prop)(nb db cb:Nat)(n:Nt)(d:Dk)(l I:Int)(k:Nat)(aM:0 < k)(hk:k≤4)(aL:I≤9223372036854775807)(w:World)(hW:Below S.heap.size S w)(hE:Env S)(hS:ja S J)
  (hO:∀ b,O b→S.heap.size≤b) (a6:NOk d n) (hD:zq w O db d) (hN:vi w O nb db n) (hc:w.cell? ⟨cb,2,none⟩=some (znj nb)) :
  Calls Tryz.prog 218 #[zo cb,plV (l,I,k)] w fun r w'=>zg O nT w w'∧vi w' O nb db (xm (zu d.fs) n (l,I,k)).2∧yal J w.heap.size (qi l I k) w' (xm (zu d.fs) n (l,I,k)).1 r:=by
 have H:Hid (xm (zu d.fs) n (l,I,(k:Int))=(if (zu d.fs n (qi l I k)).1.2 then zck l k (zu d.fs n (qi l I k)).1.1 else none,(zu d.fs n (qi l I k)).2)):=rfl;unfold plV;simp only;have H0:Hid (Below w.heap.size w ((w.alloc (.cells #[.int .i64 l,.int .i64 I,.int .i64 k] 99)).alloc (.cells qt zt))∧((w.alloc (.cells #[.int .i64 l,.int .i64 I,.int .i64 k] 99)).alloc (.cells qt zt)).heap[w.heap.size]?=some (.cells #[.int .i64 l,.int .i64 I,.int .i64 k] 99 (0,0))∧zn ((w.alloc (.cells #[.int .i64 l,.int .i64 I,.int .i64 k] 99)).alloc (.cells qt zt)) (w.heap.size+1) Fx.no):=by
  refine⟨zz _ _ _,zc (heap_alloc_last _ _),?_⟩;have:=heap_alloc_last (w.alloc (.cells #[.int .i64 l,.int .i64 I,.int .i64 k] 99)) (.cells qt zt);rw [show(w.alloc (.cells #[.int .i64 l,.int .i64 I,.int .i64 k] 99)).heap.size=w.heap.size+1 by simp] at this;exact this
 have HW:=za hW;have HE:=za hE;have HS:=za hS;have HO:=za hO;have Q:=za a6;have HD:=za hD;have HN:=za hN;have HC:=za hc;clear hW hE hS hO a6 hD hN hc;unfold zo;go_enter Tryz.func218,Tryz.ntmps218;go_wp2_with fail;generalize (w.alloc (.cells #[.int .i64 l,.int .i64 I,.int .i64 k] 99)).alloc (.cells qt zt)=W1 at *
 have a0:Below S.heap.size S W1:=HW.o.trans (H0.o.1.mono HW.o.size);refine(zml l I k aL W1 (HE.o.below a0)).mono ?_;rintro r w1 ⟨rfl,ai⟩;have U:Below w.heap.size w w1:=H0.o.1.trans (ai.mono H0.o.1.size);have a9:=za U;have aq:Hid (w1.heap[w.heap.size]?=some (.cells #[.int .i64 l,.int .i64 I,.int .i64 k] 99 (0,0))∧zn w1 (w.heap.size+1) Fx.no):=⟨(ai.block _ (zb H0.o.2.1)).trans H0.o.2.1,(ai.block _ (zb H0.o.2.2)).trans H0.o.2.2⟩
 have HF:=za (zn5 O nb db cb n d (qi l I k) w1 Q.o.nf Q.o.fl Q.o.ly Q.o.ll Q.o.fe Q.o.td (HD.o.stay (O1:=fun _=>False) (T:=[]) (.of_below U) (by simp) (by simp)) (HN.o.below U) (by rw [U.cell (p:=⟨cb,2,none⟩) (zk HC.o)];exact HC.o));have av:=za (HW.o.trans (U.mono HW.o.size));clear U ai a0 H0;unfold zo txv at HF;generalize ay:qi l I k=pn at *
 have X:=za ay;clear ay;generalize aI:zu d.fs n pn=N at *
 clear aI;obtain⟨⟨aH,ok⟩,n'⟩:=N;simp only at *
 go_wp2_with fail;refine HF.o.mono ?_;rintro r w2 ⟨v,x,rfl,ae,ax,a4,a7⟩;have aj:w2.heap[w.heap.size]?=some (.cells #[.int .i64 l,.int .i64 I,.int .i64 k] 99 (0,0)):=ae.keep aq.o.1 (by decide);have a2:zn w2 (w.heap.size+1) Fx.no:=ae.keep aq.o.2 (by decide);have p0:w2.cell? ⟨w.heap.size,0,none⟩=some (.int .i64 l):=(zf aj 0 _ rfl).1;have p1:w2.cell? ⟨w.heap.size,1,none⟩=some (.int .i64 I):=(zf aj 1 _ rfl).1;have p2:w2.cell? ⟨w.heap.size,2,none⟩=some (.int .i64 k):=(zf aj 2 _ rfl).1;have Y:=za (zzq l I k aM hk v x w2 a4);have ar:Hid (zg O nT w w2):=za ((zg.of_below a9.o).trans (ae.mono (fun _ h=> .inl h) (fun _ h=>h)));have ak:Hid (Below S.heap.size S w2):=za (av.o.trans (ae.below HO.o av.o.size));have ap:=za ax;have ag:=za a2;rw [a7] at Y;unfold plV at Y;simp only at Y;clear ae ax a4 a7 aj a2 HF;go_wp2_with fail;refine Y.o.mono ?_;rintro r E ⟨V,a1⟩;obtain⟨xs,af,rfl,a8⟩:=a1.all;generalize aJ:zck l k aH=o at *
 have az:zg O nT w E:=ar.o.then_below V;have aP:w.heap.size+1 < E.heap.size:=Nat.lt_of_lt_of_le (zb ag.o) V.size;have a3:zn E (w.heap.size+1) Fx.no:=(V.block _ (zb ag.o)).trans ag.o;have al:zn (E.alloc (.cells qt zt)) E.heap.size Fx.no:=heap_alloc_last _ _;have aR:(zcq (.pointer (some ⟨E.heap.size,0,none⟩)) (.agg (fcs xs).toArray)).run Tryz.prog (E.alloc (.cells qt zt))= .ok () ((E.alloc (.cells qt zt)).setCells E.heap.size 0 (fcs xs)):=qj (xj al Fx.no_ok) af.len (jp af.2);have ao:=za (qb al Fx.no_ok af);have an:Hid (Below E.heap.size E ((E.alloc (.cells qt zt)).setCells E.heap.size 0 (fcs xs))):=zr (ze _ _) (Nat.le_refl _) _ _;have aD:=za az;have aA:Hid (zn E (w.heap.size+1) Fx.no):=a3;have R:=za af;have aG:=za a8;have aw:Hid (Below S.heap.size S E):=ak.o.trans (V.mono ak.o.size);have aB:=za (ap.o.below V);clear a1 a8 af az a3 al V aJ Y ar ak ap ag;have HG:Hid (∀ D,Below E.heap.size E D→zg O nT w D∧vi D O nb db n'∧zn D (w.heap.size+1) Fx.no∧D.cell? ⟨6,0,none⟩=some (j4 J 5)∧∀ f,o=some f→j9 D xs f):=by
  intro D hb;refine⟨aD.o.then_below hb,aB.o.below hb,(hb.block _ aP).trans aA.o,?_,fun f e=>(aG.o f e).below hb⟩;have aK:=aw.o.trans (hb.mono aw.o.size);exact(HS.o.below aK).tile
 have L:=za (HG.o _ an.o);have a5:((E.alloc (.cells qt zt)).setCells E.heap.size 0 (fcs xs)).cell? ⟨6,0,none⟩=some (.iface 344 (.pointer (some (J 5)))):=L.o.2.2.2.1;have aO:E.heap.size < ((E.alloc (.cells qt zt)).setCells E.heap.size 0 (fcs xs)).heap.size:=zb ao.o;have ah:Hid (w.heap.size≤((E.alloc (.cells qt zt)).setCells E.heap.size 0 (fcs xs)).heap.size):=by show _≤_;omega
 clear HG an aO;by_cases am:ok=true∧o.isSome=true
 ·obtain⟨rfl,ho⟩:=am;obtain⟨f,rfl⟩:=Option.isSome_iff_exists.1 ho;have aQ:=zad (y9 ao.o) R.o.len;have aS:=qj (xj L.o.2.2.1 Fx.no_ok) R.o.len (jp R.o.2);have aF:=za (qb L.o.2.2.1 Fx.no_ok R.o);have aE:=za (L.o.1.setCellsNew (Nat.le_succ w.heap.size) (fcs xs) 0);have au:=za ((zg.refl (fun b=>b=w.heap.size+1) [zt] _).setCells (.inl rfl) L.o.2.2.1 (by simp) (fcs xs) 0);clear ho;go_wp2_with fail;refine bodyPost_ret (v:= .tuple #[.agg (fcs xs).toArray,.nilIface]) (zv Tryz.results218 _ _ (w.heap.size+1) zt _ (0,0) _ rfl aF.o Tryz.underlying104 rfl (by rw [jt,List.size_toArray,R.o.len]) _ rfl) rfl ⟨aE.o,?_,?_⟩
  ·rw [H.o];exact L.o.2.1.turn au.o (by decide) (by decide) (by decide)
  ·rw [H.o,X.o];exact .inl ⟨xs,f,rfl,R.o,(L.o.2.2.2.2 f rfl).turn au.o (by decide),rfl⟩
 ·have aN:(if ok then o else none)=none:=by
   cases ok with
   | false=>rfl
   | true=>cases o with
    | none=>rfl
    | some f=>exact absurd ⟨rfl,rfl⟩ am
  have Z:=fun w0=>zkj w0;rw [zrg] at Z;have aC:=za aN;rw [aC.o] at H;cases ok with
  | false =>
   go_wp2_with fail;generalize (E.alloc (.cells qt zt)).setCells E.heap.size 0 (fcs xs)=D at *
   have K:zn D (w.heap.size+1) Fx.no:=L.o.2.2.1;have ac:(zcq (.pointer (some ⟨w.heap.size+1,0,none⟩)) (.agg (fcs Fx.no).toArray)).run Tryz.prog D.drew= .ok () (D.drew.setCells (w.heap.size+1) 0 (fcs Fx.no)):=qj (w:=D.drew) (xj K Fx.no_ok) Fx.no_ok.len (jp Fx.no_ok.2);have ad:∀ o,(zcq (.pointer (some ⟨w.heap.size+1,0,none⟩)) (.agg (fcs Fx.no).toArray)).run Tryz.prog (D.alloc o).drew= .ok () ((D.alloc o).drew.setCells (w.heap.size+1) 0 (fcs Fx.no)):=fun o=>qj (w:=(D.alloc o).drew) (xj (w:=(D.alloc o).drew) (xs:=Fx.no) (zc K) Fx.no_ok) Fx.no_ok.len (jp Fx.no_ok.2);have aa:(D.drew.setCells (w.heap.size+1) 0 (fcs Fx.no)).cell? ⟨6,0,none⟩=some (.iface 344 (.pointer (some (J 5)))):=by
    have h1:(6:Nat) < S.heap.size:=zk HS.o.tile;have h2:=HW.o.size;have h3:(6:Nat)≠w.heap.size+1:=by omega
    rw [World.cell?_of_block (w:=D) (qc (w:=D.drew) (fcs Fx.no) 0 h3)];exact a5
   have W:=za K;clear K;go_region
   ·have A:=za (zov (P:=(.cells #[.string ⟨pn.toArray⟩,.iface 344 (.pointer (some (J 5)))] 141)) L.o.1 L.o.2.1 W.o);clear ac ad aa Z;go_wp2_with fail;refine bodyPost_ret (v:= .tuple #[.agg (fcs Fx.no).toArray,qq (D.heap.size)]) (zv Tryz.results218 _ _ (w.heap.size+1) zt _ (0,0) _ rfl A.o.2.2.1 Tryz.underlying104 rfl (by rw [jt,List.size_toArray,Fx.no_ok.len]) _ rfl) rfl ⟨A.o.1,by rw [H.o];exact A.o.2.1,?_⟩;rw [H.o,X.o];exact .inr ⟨rfl,_,ah.o,A.o.2.2.2,rfl⟩
   ·have A:=za (zow (P:=(.cells #[.string ⟨pn.toArray⟩,.iface 344 (.pointer (some (J 5)))] 141)) L.o.1 L.o.2.1 W.o);clear ac ad aa Z;go_wp2_with fail;refine bodyPost_ret (v:= .tuple #[.agg (fcs Fx.no).toArray,qq ((D.drew.setCells (w.heap.size+1) 0 (fcs Fx.no)).heap.size)]) (zv Tryz.results218 _ _ (w.heap.size+1) zt _ (0,0) _ rfl A.o.2.2.1 Tryz.underlying104 rfl (by rw [jt,List.size_toArray,Fx.no_ok.len]) _ rfl) rfl ⟨A.o.1,by rw [H.o];exact A.o.2.1,?_⟩;rw [H.o,X.o];exact .inr ⟨rfl,_,by rw [vh];exact ah.o,A.o.2.2.2,rfl⟩
  | true =>
   cases o with
   | some f=>exact absurd ⟨rfl,rfl⟩ am
   | none =>
    go_wp2_with fail;generalize (E.alloc (.cells qt zt)).setCells E.heap.size 0 (fcs xs)=D at *
    have K:zn D (w.heap.size+1) Fx.no:=L.o.2.2.1;have ac:(zcq (.pointer (some ⟨w.heap.size+1,0,none⟩)) (.agg (fcs Fx.no).toArray)).run Tryz.prog D.drew= .ok () (D.drew.setCells (w.heap.size+1) 0 (fcs Fx.no)):=qj (w:=D.drew) (xj K Fx.no_ok) Fx.no_ok.len (jp Fx.no_ok.2);have ad:∀ o,(zcq (.pointer (some ⟨w.heap.size+1,0,none⟩)) (.agg (fcs Fx.no).toArray)).run Tryz.prog (D.alloc o).drew= .ok () ((D.alloc o).drew.setCells (w.heap.size+1) 0 (fcs Fx.no)):=fun o=>qj (w:=(D.alloc o).drew) (xj (w:=(D.alloc o).drew) (xs:=Fx.no) (zc K) Fx.no_ok) Fx.no_ok.len (jp Fx.no_ok.2);have aa:(D.drew.setCells (w.heap.size+1) 0 (fcs Fx.no)).cell? ⟨6,0,none⟩=some (.iface 344 (.pointer (some (J 5)))):=by
     have h1:(6:Nat) < S.heap.size:=zk HS.o.tile;have h2:=HW.o.size;have h3:(6:Nat)≠w.heap.size+1:=by omega
     rw [World.cell?_of_block (w:=D) (qc (w:=D.drew) (fcs Fx.no) 0 h3)];exact a5
    have W:=za K;clear K;go_region
    ·have A:=za (zov (P:=(.cells #[.string ⟨pn.toArray⟩,.iface 344 (.pointer (some (J 5)))] 141)) L.o.1 L.o.2.1 W.o);clear ac ad aa Z;go_wp2_with fail;refine bodyPost_ret (v:= .tuple #[.agg (fcs Fx.no).toArray,qq (D.heap.size)]) (zv Tryz.results218 _ _ (w.heap.size+1) zt _ (0,0) _ rfl A.o.2.2.1 Tryz.underlying104 rfl (by rw [jt,List.size_toArray,Fx.no_ok.len]) _ rfl) rfl ⟨A.o.1,by rw [H.o];exact A.o.2.1,?_⟩;rw [H.o,X.o];exact .inr ⟨rfl,_,ah.o,A.o.2.2.2,rfl⟩
    ·have A:=za (zow (P:=(.cells #[.string ⟨pn.toArray⟩,.iface 344 (.pointer (some (J 5)))] 141)) L.o.1 L.o.2.1 W.o);clear ac ad aa Z;go_wp2_with fail;refine bodyPost_ret (v:= .tuple #[.agg (fcs Fx.no).toArray,qq ((D.drew.setCells (w.heap.size+1) 0 (fcs Fx.no)).heap.size)]) (zv Tryz.results218 _ _ (w.heap.size+1) zt _ (0,0) _ rfl A.o.2.2.1 Tryz.underlying104 rfl (by rw [jt,List.size_toArray,Fx.no_ok.len]) _ rfl) rfl ⟨A.o.1,by rw [H.o];exact A.o.2.1,?_⟩;rw [H.o,X.o];exact .inr ⟨rfl,_,by rw [vh];exact ah.o,A.o.2.2.2,rfl⟩
end
abbrev tyP (t:Nat):Value:= .pointer (some ⟨16,t,none⟩)
abbrev tyV (t:Nat):Value:= .iface 260 (.agg #[tyP t])
theorem z04 (v:Value)(w:World):(ReflectliteType.typeOf #[.iface 344 v]).run Tryz.prog w= .ok (tyV 344) w:=by kernel_rfl
theorem zlo (n:Nat)(v:Value)(w:World):(Go.method (n+1) 260 v "Comparable").run Tryz.prog w= .ok (274,v) w:=by kernel_rfl
theorem zu4 (n:Nat)(v:Value)(w:World):(Go.method (n+1) 139 v "Unwrap").run Tryz.prog w= .ok (268,v) w:=by kernel_rfl
theorem zxe (v:Value)(h:TypeId)(w:World):(Instr.typeAssert (.iface 139 v) h 262 true).run Tryz.prog w= .ok (.tuple #[.nilIface,.bool false]) w:=run_typeAssert_lacksB Tryz.underlying262 (by kernel_rfl) (by kernel_rfl) v h w
theorem zlk (v:Value)(h:TypeId)(w:World):(Instr.typeAssert (.iface 139 v) h 265 true).run Tryz.prog w= .ok (.tuple #[.iface 139 v,.bool true]) w:=run_typeAssert_hasB Tryz.underlying265 (by kernel_rfl) v h w
theorem z4x (w:World):(callFunc 274 #[.agg #[tyP 344]]).run Tryz.prog w= .ok (.value (.bool true)) w:=by kernel_rfl
theorem zqs (r:Nat)(b:Addr)(w:World)(h1:w.cell? ⟨r,1,none⟩=some (.iface 344 (.pointer (some b)))):
  Calls Tryz.prog 53 #[.iface 139 (.pointer (some ⟨r,0,none⟩)),.iface 344 (.pointer (some b))] w fun e w'=>e= .returned (.bool true)∧w'=w:=by
 obtain⟨i,A,h⟩:=Option.map_eq_some_iff.1 zdy;obtain⟨j,D,E⟩:=Option.map_eq_some_iff.1 zdr;have H:=@run_callFunc_extern Tryz.prog 99 _ ReflectliteType.typeOf Tryz.func99 (by kernel_rfl) (by kernel_rfl) (by kernel_rfl) (by kernel_rfl);have I:=z04;have J:=z4x;have K:=zlo;have L:=zxe;have Q:=zlk;have R:=zu4;have S:=run_eql_iface_ptr_same (P:=Tryz.prog) w b Tryz.underlying68 Tryz.underlying344 A h D;have U:=run_eql_iface_types (P:=Tryz.prog) 139 344 (.pointer (some ⟨r,0,none⟩)) (.pointer (some b)) Tryz.underlying68 (by decide) w;go_enter Tryz.func53,Tryz.ntmps53;go_wp2;refine wp_loop_rounds 2 ?_;rw [rounds_succ];go_wp2;rw [rounds_succ];go_wp2;go_ret;exact⟨rfl,rfl⟩
theorem z91 (b:Addr)(w:World):
  Calls Tryz.prog 53 #[.nilIface,.iface 344 (.pointer (some b))] w fun e w'=>e= .returned (.bool false)∧w'=w:=by
 have y:(binOp .eql 68 .nilIface (.iface 344 (.pointer (some b)))).run Tryz.prog w= .ok (.bool false) w:=by kernel_rfl
 go_enter Tryz.func53,Tryz.ntmps53;go_wp2;go_ret;exact⟨rfl,rfl⟩
abbrev z0i:Array Value:=#[.bool false,.bool false,.int .u8 0,.int .u8 0,.int .u8 0,.int .u8 0,.int .u8 0,.int .u8 0,.int .u8 0,.int .u8 0,.slice none 0 0]
theorem z9g:(Builtin.zeroCells z0i 0).toList=fcs (List.replicate 0 Px.no):=by kernel_rfl
theorem z86:(Builtin.zeroCells z0i 1).toList=fcs (List.replicate 1 Px.no):=by kernel_rfl
theorem z87:(Builtin.zeroCells z0i 2).toList=fcs (List.replicate 2 Px.no):=by kernel_rfl
theorem z9s:(Builtin.zeroCells z0i 3).toList=fcs (List.replicate 3 Px.no):=by kernel_rfl
theorem yaf (n:Nat)(h:n < 4):(Builtin.zeroCells z0i n).toList=fcs (List.replicate n Px.no):=by
 match n,h with
 | 0,_=>exact z9g
 | 1,_=>exact z86
 | 2,_=>exact z87
 | 3,_=>exact z9s
theorem zvq (n:Nat):∀ x∈List.replicate n Px.no,x.ok:=fun x h=>by rw [List.eq_of_mem_replicate h];exact Px.no_ok
theorem zn.there' {w:World}{fb:Nat}{xs:List Px}(h:zn w fb xs)(A:FOk xs)(j:Nat)(r:j < 44):(w.cell? ⟨fb,j,none⟩).isSome=true∧w.frozen? ⟨fb,j,none⟩=false:=by
 have:=xj h A j r;rwa [Nat.zero_add] at this
theorem z1n {fb:Nat}{xs:List Px}(r:FOk xs){k:Nat}(h0:0 < k)(X:k < 4){w:World}(h:zn w fb xs)(c:Nat)(R:TypeId):
  (Builtin.clear_ #[339] R #[.slice (some ⟨fb,k*11,none⟩) (4 - k) c]).run Tryz.prog w= .ok (.tuple #[]) (w.setCells fb (k*11) (fcs (List.replicate (4 - k) .no))) ∧
  zn (w.setCells fb (k*11) (fcs (List.replicate (4 - k) .no))) fb (xs.take k++List.replicate (4 - k) .no):=by
 have J:(fcs (List.replicate (4 - k) Px.no)).length=11*(4 - k):=by rw [zh6 (zvq _),List.length_replicate]
 have A:=run_storeCells_cells (P:=Tryz.prog) fb (k*11) (fcs (List.replicate (4 - k) .no)) 0 w
  (fun j L=>by rw [Nat.add_zero];exact(h.there' r _ (by omega)).1)
  (fun j L=>by rw [Nat.add_zero];exact(h.there' r _ (by omega)).2)
  (jp (zvq _))
 simp only [Nat.add_zero] at A;have K:(Builtin.zeroCells z0i (4 - k)).toList=fcs (List.replicate (4 - k) Px.no):=yaf (4 - k) (by omega);obtain⟨m,hm⟩:∃ m,4 - k=m+1:=⟨3 - k,by omega⟩
 refine⟨?_,?_⟩
 ·rw [hm] at A K ⊢;simp [Builtin.clear_,run_underlying Tryz.underlying339,Value.cells];rw [K,A];rfl
 ·unfold zn;rw [zas _ _ h (by rw [J,r.len];omega),J];congr 3;obtain⟨a,b,c',d,rfl⟩:=zfk r.1;have S:=Px.cs_len (r.2 a (by simp));have U:=Px.cs_len (r.2 b (by simp));have V:=Px.cs_len (r.2 c' (by simp));have W:=Px.cs_len (r.2 d (by simp));have Q:∀(ys D:List Px),(∀ y∈ys,y.ok)→(fcs (ys++D)).take (ys.length*11)=fcs ys:=fun ys D I=>by
   have:fcs (ys++D)=fcs ys++fcs D:=by simp [fcs]
   rw [this,show ys.length*11=(fcs ys).length by rw [zh6 I];omega,List.take_left]
  have E:(fcs [a,b,c',d]).drop (k*11+11*(4 - k))=[]:=List.drop_eq_nil_of_le (by rw [r.len];omega);have H:fcs ([a,b,c',d].take k++List.replicate (4 - k) Px.no)=fcs ([a,b,c',d].take k)++fcs (List.replicate (4 - k) Px.no):=by simp [fcs]
  have e:=Q ([a,b,c',d].take k) ([a,b,c',d].drop k) (fun y I=>r.2 y (List.mem_of_mem_take I));rw [List.take_append_drop,show([a,b,c',d].take k).length=k by simp;omega] at e;rw [E,H,e];simp
end Go.Proofs.YtndkblnpbjffhaaGreatDoor
