import Derived.Test.YtndkblnpbjffhaaGreatDoorG13
import Derived.Test.YtndkblnpbjffhaaGreatDoorG14
set_option maxHeartbeats 8000000
set_option maxRecDepth 100000
open Go.RowKit
namespace Go.Proofs.YtndkblnpbjffhaaGreatDoor
section
def zgi (room:Int)(L:LsP):LsP:=if room < (L.length:Int) then L.tail else L
theorem zwc (L:LsP)(b:Nat)(p:Pl)(v:List Value):LsP.ks (L++[(b,p,v)])=L.ks++[(p,b)]:=by simp [LsP.ks]
theorem zrc (L:LsP)(p:Pl):(L.drop p).get p=none:=by
 unfold LsP.get LsP.drop;have:(L.filter fun x=>!decide (x.2.1=p)).find? (fun x=>decide (x.2.1=p))=none:=by
  rw [List.find?_eq_none];intro x h;have:=(List.mem_filter.1 h).2;simpa using this
 rw [this]
theorem zfo.add {w:World}{A r:Nat}{p:Pl}{v:List Value}(hv:v.length=44)(K:∀ x∈v,x.oneCell'=true){L:LsP}{nx pv:Nat→Nat}(h:zfo w A L nx pv)(R:w.heap[r]?=some (.cells (lkP p v (pv A) A) LkP (0,0)))(E:r∉A::L.map (·.1)):
  zfo ((w.setCell ⟨pv A,48,none⟩ (.pointer (some ⟨r,0,none⟩))).setCell ⟨A,47,none⟩ (.pointer (some ⟨r,0,none⟩))) A (L++[(r,p,v)]) (upd (upd nx (pv A) r) r A) (upd (upd pv A r) r (pv A)):=by
 have Q:=h.circ;have J:r≠pv A:=fun e=>E (e▸Q.pv_mem);have I:r≠A:=fun e=>E (by simp [e]);have old:∀ {c:Nat} {q:Pl} {u:List Value},c≠r→u.length=44→w.heap[c]?=some (.cells (lkP q u (pv c) (nx c)) LkP (0,0))→((w.setCell ⟨pv A,48,none⟩ (.pointer (some ⟨r,0,none⟩))).setCell ⟨A,47,none⟩ (.pointer (some ⟨r,0,none⟩))).heap[c]?=some (.cells (lkP q u (upd (upd pv A r) r (pv A) c) (upd (upd nx (pv A) r) r A c)) LkP (0,0)):=by
  intro c q u H hu e;rw [jh _ r _ c H,jh _ r _ c H];exact zvh hu (znw hu e)
 refine⟨old I.symm zbf h.ends,fun x D=>?_,?_,fun x D=>?_⟩
 ·rcases List.mem_append.1 D with D | D
  ·exact old (fun e=>E (by rw [← e];exact List.mem_cons_of_mem _ (List.mem_map.2 ⟨x,D,rfl⟩))) (h.len x D).1 (h.link x D)
  ·obtain rfl:x=(r,p,v):=by simpa using D
   simp only;rw [vt,vt,heap_setCell_other _ _ _ _ I,heap_setCell_other _ _ _ _ J];exact R
 ·rw [List.map_append];exact Q.add E
 ·rcases List.mem_append.1 D with D | D
  ·exact h.len x D
  ·obtain rfl:x=(r,p,v):=by simpa using D
   exact⟨hv,K⟩
def zo9 (V:Value):Sem Value:=Instr.loadAt 104 V
theorem yv (V:Value):Instr.loadAt 104 V=zo9 V:=rfl
theorem zad {w:World}{b o:Nat}{cs:List Value}(h:w.rangeAt b o cs)(r:cs.length=44):(zo9 (.pointer (some ⟨b,o,none⟩))).run Tryz.prog w= .ok (.agg cs.toArray) w :=
 run_loadAt_mid w b o _ cs _ h Tryz.underlying104 rfl (by rw [jt,r])
def zx8 (h:Array (Nat×Value)):Sem Value:=Instr.build LkP h
theorem zq7 (h:Array (Nat×Value)):Instr.build LkP h=zx8 h:=rfl
theorem zw {n:Nat}{v:List Value}(h:v.length=n+1):∃ x r,v=x::r∧r.length=n:=by
 cases v with
 | nil=>simp at h
 | cons x r=>exact⟨x,r,rfl,by simpa using h⟩
theorem z94 (v:List Value)(h:v.length=44):∃ x0 x1 x2 x3 x4 x5 x6 x7 x8 x9 r A D E H I J K L Q R S U V W X Y Z aa ac ad ae af ag ah ai aj ak al am an ao ap aq:Value,v=[x0,x1,x2,x3,x4,x5,x6,x7,x8,x9,r,A,D,E,H,I,J,K,L,Q,R,S,U,V,W,X,Y,Z,aa,ac,ad,ae,af,ag,ah,ai,aj,ak,al,am,an,ao,ap,aq]:=by
 obtain⟨x0,r0,e0,h0⟩:=zw h;obtain⟨x1,r1,e1,h1⟩:=zw h0;obtain⟨x2,r2,e2,h2⟩:=zw h1;obtain⟨x3,r3,e3,h3⟩:=zw h2;obtain⟨x4,r4,e4,h4⟩:=zw h3;obtain⟨x5,r5,e5,h5⟩:=zw h4;obtain⟨x6,r6,e6,h6⟩:=zw h5;obtain⟨x7,r7,e7,h7⟩:=zw h6;obtain⟨x8,r8,e8,h8⟩:=zw h7;obtain⟨x9,r9,e9,h9⟩:=zw h8;obtain⟨r,b3,ar,aS⟩:=zw h9;obtain⟨A,b4,au,aU⟩:=zw aS;obtain⟨D,b5,av,aV⟩:=zw aU;obtain⟨E,b6,aw,aW⟩:=zw aV;obtain⟨H,b7,ax,aX⟩:=zw aW;obtain⟨I,b8,ay,aY⟩:=zw aX;obtain⟨J,b9,az,aZ⟩:=zw aY;obtain⟨K,bA,a0,ba⟩:=zw aZ;obtain⟨L,bB,a1,bb⟩:=zw ba;obtain⟨Q,bC,a2,bc⟩:=zw bb;obtain⟨R,bD,a3,h20⟩:=zw bc;obtain⟨S,bE,a4,bd⟩:=zw h20;obtain⟨U,bF,a5,be⟩:=zw bd;obtain⟨V,bG,a6,bf⟩:=zw be;obtain⟨W,bH,a7,bg⟩:=zw bf;obtain⟨X,bI,a8,bh⟩:=zw bg;obtain⟨Y,bJ,a9,bi⟩:=zw bh;obtain⟨Z,bK,aA,bj⟩:=zw bi;obtain⟨aa,bL,aB,bk⟩:=zw bj;obtain⟨ac,bM,aC,bl⟩:=zw bk;obtain⟨ad,bN,aD,bm⟩:=zw bl;obtain⟨ae,bO,aE,bn⟩:=zw bm;obtain⟨af,bP,aF,bo⟩:=zw bn;obtain⟨ag,bQ,aG,bp⟩:=zw bo;obtain⟨ah,bR,aH,bq⟩:=zw bp;obtain⟨ai,bS,aI,br⟩:=zw bq;obtain⟨aj,bT,aJ,bs⟩:=zw br;obtain⟨ak,bU,aK,bt⟩:=zw bs;obtain⟨al,bV,aL,bu⟩:=zw bt;obtain⟨am,bW,aM,bw⟩:=zw bu;obtain⟨an,bX,aN,bx⟩:=zw bw;obtain⟨ao,bY,aO,bz⟩:=zw bx;obtain⟨ap,bZ,aP,b0⟩:=zw bz;obtain⟨aq,b2,aQ,b1⟩:=zw b0;have aR:b2=[]:=List.length_eq_zero_iff.1 b1;refine⟨x0,x1,x2,x3,x4,x5,x6,x7,x8,x9,r,A,D,E,H,I,J,K,L,Q,R,S,U,V,W,X,Y,Z,aa,ac,ad,ae,af,ag,ah,ai,aj,ak,al,am,an,ao,ap,aq,?_⟩;rw [e0,e1,e2,e3,e4,e5,e6,e7,e8,e9,ar,au,av,aw,ax,ay,az,a0,a1,a2,a3,a4,a5,a6,a7,a8,a9,aA,aB,aC,aD,aE,aF,aG,aH,aI,aJ,aK,aL,aM,aN,aO,aP,aQ,aR]
theorem zu9 (p:Pl)(v:List Value)(h:v.length=44)(o n:Nat)(w:World):
  (zx8 #[(0,.agg #[.int .i64 p.1,.int .i64 p.2.1,.int .i64 p.2.2]),(1,.agg v.toArray),(2,.pointer (some ⟨o,0,none⟩)),(3,.pointer (some ⟨n,0,none⟩))]).run Tryz.prog w= .ok (.agg (lkP p v o n)) w:=by
 obtain⟨x0,x1,x2,x3,x4,x5,x6,x7,x8,x9,r,A,D,E,H,I,J,K,L,Q,R,S,U,V,W,X,Y,Z,aa,ac,ad,ae,af,ag,ah,ai,aj,ak,al,am,an,ao,ap,aq,rfl⟩:=z94 v h;kernel_rfl
theorem zz0 (v:List Value)(h:v.length=44):(Tryz.prog.info? 104).map (·.size)=some v.length:=by rw [jt,h]
attribute [local go_sem ↓] yv zq7
theorem z6w (O:Nat→Prop)(U:Nat)(room:Int)(L:LsP)(p:Pl)(hp:zct p)(v:List Value)(hv:v.length=44)(aG:∀ x∈v,x.oneCell'=true)(w:World)(h:zdh w O U room L)(hn:L.length≤1000000000000):
  Calls Tryz.prog 144 #[zo U,plV p,.agg v.toArray] w fun r w'=>r= .returned (.tuple #[])∧zg O [LkP] w w'∧∃ H,w.heap.size≤H∧H < w'.heap.size∧zdh w' (Ext O w w') U room (zgi room (L.drop p++[(H,p,v)])):=by
 have HD:=za (zot O U room L p hp ((w.alloc (.cells #[.int .i64 p.1,.int .i64 p.2.1,.int .i64 p.2.2] 99)).alloc (.cells v.toArray 104)) (h.below (zz w _ _) (fun _ h=>h)));have HP:=za hp;have HN:Hid ((L.drop p).length≤1000000000000):=Nat.le_trans (List.length_filter_le _ _) hn;have a4:=za (zrc L p);have HV:=za (And.intro hv aG);clear h hp hn hv aG;generalize L.drop p=L1 at *
 unfold plV zo at *
 go_enter Tryz.func144,Tryz.ntmps144;go_wp2_with fail;refine HD.o.mono ?_;rintro r Q ⟨rfl,am,aO⟩;have ad:Q.heap[w.heap.size]?=some (.cells #[.int .i64 p.1,.int .i64 p.2.1,.int .i64 p.2.2] 99 (0,0)):=am.keep (zc (heap_alloc_last w _)) (by decide);have aE:Q.heap[w.heap.size+1]?=some (.cells v.toArray 104 (0,0)):=am.keep (by have:=heap_alloc_last (w.alloc (.cells #[.int .i64 p.1,.int .i64 p.2.1,.int .i64 p.2.2] 99)) (.cells v.toArray 104);simpa using this) (by decide);have au:Hid (zg O [LkP] w Q):=(zg.of_below (zz w _ _)).trans (am.mono (fun k hk=> .inl hk) (fun _ h=>h));obtain⟨X,A,nx,pv,hm⟩:=aO;have HM:=za hm;have e2:Q.cell? ⟨U,2,none⟩=some (.pointer (some ⟨A,0,none⟩)):=(zf hm.mem 2 _ rfl).1;have e4:Q.cell? ⟨A,47,none⟩=some (.pointer (some ⟨pv A,0,none⟩)):=(zf hm.ring.ends 47 _ (zpz zbf)).1;have k0:Q.cell? ⟨w.heap.size,0,none⟩=some (.int .i64 p.1):=(zf ad 0 _ rfl).1;have k1:Q.cell? ⟨w.heap.size,1,none⟩=some (.int .i64 p.2.1):=(zf ad 1 _ rfl).1;have k2:Q.cell? ⟨w.heap.size,2,none⟩=some (.int .i64 p.2.2):=(zf ad 2 _ rfl).1;have rr:Q.rangeAt (w.heap.size+1) 0 v:=y9 aE;have an:=za ad;have z0:¬ U=Q.heap.size:=by have:=zb hm.mem;omega
 have z1:¬ A=Q.heap.size:=by have:=zb hm.ring.ends;omega
 have z2:¬ w.heap.size=Q.heap.size:=by have:=zb ad;omega
 have hu:=Tryz.underlying104;have hi:=zz0 v HV.o.1;have av:=HV.o.1;have aP:=HV.o.2;have aN:=zu9 p v HV.o.1 (pv A) A;have a7:Hid (∀ w',w'=Q.drew→(zo9 (.pointer (some ⟨w.heap.size+1,0,none⟩))).run Tryz.prog w'= .ok (.agg v.toArray) w'):=fun w' e=>by subst e;exact zad (by simpa using rr) av
 have a6:Hid (∀ o,(zo9 (.pointer (some ⟨w.heap.size+1,0,none⟩))).run Tryz.prog (Q.alloc o).drew= .ok (.agg v.toArray) (Q.alloc o).drew):=fun o=>zad (by simpa using World.rangeAt_alloc rr o) av;clear HD hm ad am aE rr hu hi av aP;go_wp2_with fail;go_region_held3 (fun w'=>w'.cell? ⟨U,2,none⟩=some (.pointer (some ⟨A,0,none⟩))∧w'.cell? ⟨A,47,none⟩=some (.pointer (some ⟨pv A,0,none⟩))∧w'.cell? ⟨w.heap.size,0,none⟩=some (.int .i64 p.1)∧w'.cell? ⟨w.heap.size,1,none⟩=some (.int .i64 p.2.1)∧w'.cell? ⟨w.heap.size,2,none⟩=some (.int .i64 p.2.2)∧(zo9 (.pointer (some ⟨w.heap.size+1,0,none⟩))).run Tryz.prog w'= .ok (.agg v.toArray) w') ((first | (refine⟨?_,?_,?_,?_,?_,a7.o _ rfl⟩<;>go_keep) | (refine⟨?_,?_,?_,?_,?_,a6.o _⟩<;>go_keep))) (fail);rename_i af;clear af z0 z1 z2 e2 e4 k0 k1 k2 a7 a6 aN;have Y:Hid (Below Q.heap.size Q (Q.alloc (.cells (lkP p v (pv A) A) LkP)).drew):=(ze _ _).drew;have ae:Hid ((Q.alloc (.cells (lkP p v (pv A) A) LkP)).drew.heap[Q.heap.size]?=some (.cells (lkP p v (pv A) A) LkP (0,0))):=heap_alloc_last _ _;generalize (Q.alloc (.cells (lkP p v (pv A) A) LkP)).drew=S at *
 have ap:Hid (w.heap.size≤Q.heap.size):=au.o.size;have E:Hid (zbu S O U X A nx pv room L1):=by
  have hm:=HM.o;refine⟨hm.own,(Y.o.block _ (zb hm.mem)).trans hm.mem,hm.ring.same fun k c e=>Y.o.block k (zb e),hm.map.same (Y.o.block _ hm.map.lt),hm.ok⟩
 have a8:Hid (zg O [LkP] w S):=au.o.then_below Y.o;have ao:Hid (S.heap[w.heap.size]?=some (.cells #[.int .i64 p.1,.int .i64 p.2.1,.int .i64 p.2.2] 99 (0,0))):=(Y.o.block _ (zb an.o)).trans an.o;have aj:Hid (Q.heap.size∉A::L1.map (·.1)):=by
  intro J;rcases List.mem_cons.1 J with e | e
  ·have:=zb HM.o.ring.ends;omega
  ·obtain⟨x,J,ex⟩:=List.mem_map.1 e;have:=zb (HM.o.ring.link x J);omega
 clear au HM an Y;generalize Q.heap.size=H at *
 have aa:∃ q u,u.length=44∧S.heap[pv A]?=some (.cells (lkP q u (pv (pv A)) (nx (pv A))) LkP (0,0)):=by
  rcases List.mem_cons.1 E.o.ring.circ.pv_mem with e | e
  ·rw [e];exact⟨_,_,zbf,E.o.ring.ends⟩
  ·obtain⟨x,J,ex⟩:=List.mem_map.1 e;rw [← ex];exact⟨_,_,(E.o.ring.len x J).1,E.o.ring.link x J⟩
 obtain⟨q,u,aw,aa⟩:=aa;have oP:Hid (O (pv A)):=by
  rcases List.mem_cons.1 E.o.ring.circ.pv_mem with e | e
  ·rw [e];exact E.o.own.2.2.1
  ·obtain⟨x,J,ex⟩:=List.mem_map.1 e;rw [← ex];exact E.o.own.2.2.2 x J
 have n4:S.cell? ⟨H,47,none⟩=some (.pointer (some ⟨pv A,0,none⟩)):=(zf ae.o 47 _ (zpz HV.o.1)).1;have n5:S.cell? ⟨H,48,none⟩=some (.pointer (some ⟨A,0,none⟩)):=(zf ae.o 48 _ (zpb HV.o.1)).1;have p5:S.cell? ⟨pv A,48,none⟩=some (.pointer (some ⟨nx (pv A),0,none⟩)):=(zf aa 48 _ (zpb aw)).1;have g5:S.frozen? ⟨pv A,48,none⟩=false:=(zf aa 48 _ (zpb aw)).2;have e4:S.cell? ⟨A,47,none⟩=some (.pointer (some ⟨pv A,0,none⟩)):=(zf E.o.ring.ends 47 _ (zpz zbf)).1;have g4:S.frozen? ⟨A,47,none⟩=false:=(zf E.o.ring.ends 47 _ (zpz zbf)).2;have z0:¬ pv A=H:=fun e=>aj.o (e▸E.o.ring.circ.pv_mem);have z1:¬ A=H:=fun e=>aj.o (by simp [e]);have ar:=za aa;clear aa aw;go_wp2_with fail;go_region_held3 (fun w'=>w'.cell? ⟨H,47,none⟩=some (.pointer (some ⟨pv A,0,none⟩))∧w'.cell? ⟨H,48,none⟩=some (.pointer (some ⟨A,0,none⟩))) (go_keep) (fail);rename_i af;clear af;have HR:Hid (zg O [LkP] w ((S.setCell ⟨pv A,48,none⟩ (.pointer (some ⟨H,0,none⟩))).setCell ⟨A,47,none⟩ (.pointer (some ⟨H,0,none⟩))).drew∧zfo ((S.setCell ⟨pv A,48,none⟩ (.pointer (some ⟨H,0,none⟩))).setCell ⟨A,47,none⟩ (.pointer (some ⟨H,0,none⟩))).drew A (L1++[(H,p,v)]) (upd (upd nx (pv A) H) H A) (upd (upd pv A H) H (pv A)) ∧
   (H < ((S.setCell ⟨pv A,48,none⟩ (.pointer (some ⟨H,0,none⟩))).setCell ⟨A,47,none⟩ (.pointer (some ⟨H,0,none⟩))).drew.heap.size) ∧
   ∀(k:Nat),(∀ c:Array Value,S.heap[k]?≠some (Obj.cells c LkP (0,0)))→((S.setCell ⟨pv A,48,none⟩ (.pointer (some ⟨H,0,none⟩))).setCell ⟨A,47,none⟩ (.pointer (some ⟨H,0,none⟩))).drew.heap[k]?=S.heap[k]?):=by
  refine⟨?_,(E.o.ring.add HV.o.1 HV.o.2 ae.o aj.o).same fun k c _=>rfl,?_,?_⟩
  ·have t1:zg O [LkP] w (S.setCell ⟨pv A,48,none⟩ (.pointer (some ⟨H,0,none⟩))):=a8.o.set (.inl oP.out) ar.o (by simp) _;exact(t1.set (.inl E.o.own.2.2.1) (znw zbf E.o.ring.ends) (by simp) _).drew
  ·have:=zb ae.o;simpa [World.setCell,World.drew] using this
  ·intro k hk;have e1:k≠A:=fun e=>hk _ (e▸E.o.ring.ends);have e2:k≠pv A:=fun e=>hk _ (e▸ar.o);show((S.setCell _ _).setCell _ _).heap[k]?=_;rw [heap_setCell_other _ _ _ _ e1,heap_setCell_other _ _ _ _ e2]
 generalize ((S.setCell ⟨pv A,48,none⟩ (.pointer (some ⟨H,0,none⟩))).setCell ⟨A,47,none⟩ (.pointer (some ⟨H,0,none⟩))).drew=W3 at *
 clear n4 n5 p5 g5 e4 g4 z0 z1 ar oP;have ah:W3.heap[U]?=some (.cells #[.int .i64 room,.map (some X),zo A] MeP (0,0)):=by
  rw [HR.o.2.2.2 U (fun c e=>by rw [E.o.mem] at e;simp only [Option.some.injEq,Obj.cells.injEq] at e;exact absurd e.2.1 (by decide))];exact E.o.mem
 have W:W3.heap[w.heap.size]?=some (.cells #[.int .i64 p.1,.int .i64 p.2.1,.int .i64 p.2.2] 99 (0,0)):=by
  rw [HR.o.2.2.2 w.heap.size (fun c e=>by rw [ao.o] at e;simp only [Option.some.injEq,Obj.cells.injEq] at e;exact absurd e.2.1 (by decide))];exact ao.o
 have ax:jq W3.drew X L1.ks:=by
  refine E.o.map.same ?_;show W3.heap[X]?=_;refine HR.o.2.2.2 X (fun c e=>E.o.map.not e rfl)
 have aD:L1.ks.get p=none:=by rw [zi6,a4.o];rfl
 obtain⟨R,aF,aC,ac⟩:=ax.put Tryz.underlying161 HP.o (by have:=HN.o;unfold maxLen;simp [LsP.ks];omega) aD H;unfold plV zo at aF;have V:W3.grownBy R (some X):=⟨ac.os,ac.tape,ac.output,ac.size,ac.block⟩
 have ag:jq W3 X L1.ks:=ax.same rfl;have ay:=(V.block U (zb ah) (ag.not ah)).trans ah;have ak:=(V.block w.heap.size (zb W) (ag.not W)).trans W;have a1:W3.cell? ⟨U,1,none⟩=some (.map (some X)):=(zf ah 1 _ rfl).1;have b0:W3.cell? ⟨w.heap.size,0,none⟩=some (.int .i64 p.1):=(zf W 0 _ rfl).1;have b1:W3.cell? ⟨w.heap.size,1,none⟩=some (.int .i64 p.2.1):=(zf W 1 _ rfl).1;have b2:W3.cell? ⟨w.heap.size,2,none⟩=some (.int .i64 p.2.2):=(zf W 2 _ rfl).1;have c1:R.cell? ⟨U,1,none⟩=some (.map (some X)):=(zf ay 1 _ rfl).1;have d0:R.cell? ⟨w.heap.size,0,none⟩=some (.int .i64 p.1):=(zf ak 0 _ rfl).1;have d1:R.cell? ⟨w.heap.size,1,none⟩=some (.int .i64 p.2.1):=(zf ak 1 _ rfl).1;have d2:R.cell? ⟨w.heap.size,2,none⟩=some (.int .i64 p.2.2):=(zf ak 2 _ rfl).1;have I:Hid (zbu R (Ext O w R) U X A (upd (upd nx (pv A) H) H A) (upd (upd pv A H) H (pv A)) room (L1++[(H,p,v)])):=by
  refine⟨⟨.inl E.o.own.1,.inl E.o.own.2.1,.inl E.o.own.2.2.1,fun x J=>?_⟩,ay,HR.o.2.1.same fun k c e=>V.block k (zb e) (ag.not e),by rw [zwc];exact aC,fun x J=>?_⟩
  ·rcases List.mem_append.1 J with J | J
   ·exact .inl (E.o.own.2.2.2 x J)
   ·obtain rfl:x=(H,p,v):=by simpa using J
    exact .inr ⟨ap.o,Nat.lt_of_lt_of_le HR.o.2.2.1 V.size⟩
  ·rcases List.mem_append.1 J with J | J
   ·exact E.o.ok x J
   ·obtain rfl:x=(H,p,v):=by simpa using J
    exact HP.o
 have a9:Hid (zg O [LkP] w R):=HR.o.1.map (.inl E.o.own.2.1) ag V;have a5:Hid (H < R.heap.size):=Nat.lt_of_lt_of_le HR.o.2.2.1 V.size;clear ah W ax aD aC ac V ag ay ak E a8 ao aj ae HR;go_wp2_with fail;go_region_held3 (fun w'=>w'.cell? ⟨U,1,none⟩=some (.map (some X))∧w'.cell? ⟨w.heap.size,0,none⟩=some (.int .i64 p.1)∧w'.cell? ⟨w.heap.size,1,none⟩=some (.int .i64 p.2.1)∧w'.cell? ⟨w.heap.size,2,none⟩=some (.int .i64 p.2.2)) (go_keep) (fail);rename_i af;clear af aF a1 b0 b1 b2 d0 d1 d2 a4;generalize upd (upd nx (pv A) H) H A=a0 at *
 generalize upd (upd pv A H) H (pv A)=aH at *
 have aS:Hid ((L1++[(H,p,v)]).length=L1.length+1):=by show _=_;simp
 have aJ:Hid (L1++[(H,p,v)]≠[]):=by show _≠_;simp
 generalize aA:L1++[(H,p,v)]=Z at *
 have a3:=za aA;clear aA;have aV:∀ n ty,(Builtin.len_ #[161] ty #[.map (some X)]).run Tryz.prog (R.drewN n)= .ok (.int .i64 (Z.length:Int)) (R.drewN n):=fun n ty=>by
  have:=(I.o.map.same (w':=R.drewN n) rfl).len Tryz.underlying161 ty;rw [this];simp [LsP.ks]
 have r0:R.cell? ⟨U,0,none⟩=some (.int .i64 room):=(zf I.o.mem 0 _ rfl).1;have aR:=za HN.o;by_cases hc:room < (Z.length:Int)
 ·have aq:Hid (zgi room Z=Z.tail):=if_pos hc;have r2:R.cell? ⟨U,2,none⟩=some (.pointer (some ⟨A,0,none⟩)):=(zf I.o.mem 2 _ rfl).1;obtain⟨x,L5,eL⟩:∃ x r,Z=x::r:=by
   cases h:Z with
   | nil=>exact absurd h aJ.o
   | cons x r=>exact⟨x,r,rfl⟩
  have aQ:=za eL;have aB:a0 A=x.1:=by
   have:=I.o.ring.circ;rw [eL,List.map_cons] at this;exact this.first.1
  have J:=I.o.ring.link x (by rw [eL];simp);have r5:R.cell? ⟨A,48,none⟩=some (.pointer (some ⟨x.1,0,none⟩)):=by
   have:=(zf I.o.ring.ends 48 _ (zpb zbf)).1;rw [aB] at this;exact this
  have x0:R.cell? ⟨x.1,0,none⟩=some (.int .i64 x.2.1.1):=(zf J 0 _ rfl).1;have x1:R.cell? ⟨x.1,1,none⟩=some (.int .i64 x.2.1.2.1):=(zf J 1 _ rfl).1;have x2:R.cell? ⟨x.1,2,none⟩=some (.int .i64 x.2.1.2.2):=(zf J 2 _ rfl).1;have aM:=za (I.o.ok x (by rw [eL];simp));have aL:Hid (Z.drop x.2.1=Z.tail):=by
   show _=_;obtain⟨D,-,-,al,-⟩:=I.o.map;rw [eL] at al ⊢;unfold LsP.ks at al;rw [List.map_map,List.map_cons,List.nodup_cons] at al;unfold LsP.drop;rw [List.filter_cons];simp only [decide_true,Bool.not_true,Bool.false_eq_true,if_false,List.tail_cons];rw [List.filter_eq_self];intro y hy;have:y.2.1≠x.2.1:=fun e=>al.1 (List.mem_map.2 ⟨y,hy,e⟩);simpa using this
  clear eL aB J;have a2:=za (fun n=>zot (Ext O w R) U room Z x.2.1 aM.o (R.drewN n) ⟨X,A,a0,aH,⟨I.o.own,I.o.mem,I.o.ring.same fun _ _ _=>rfl,I.o.map.same rfl,I.o.ok⟩⟩);unfold plV zo at a2;obtain⟨xb,⟨xl,xi,xw⟩,xv⟩:=x;go_wp2_with fail;go_quiet (fail);go_wp2_with fail;refine(a2.o _).mono ?_;rintro r w5 ⟨rfl,az,K⟩;rw [aL.o] at K;have aK:Hid (zg O [LkP] w w5):=a9.o.trans (az.mono (fun _ h=>h) (fun _ h=>h)).undrewK;have ai:R.heap.size≤w5.heap.size:=az.size;obtain⟨h5,e5,n5,p5,K⟩:=K;have aI:Hid (zdh w5 (Ext O w w5) U room Z.tail):=⟨h5,e5,n5,p5,⟨⟨Ext.more ai _ K.own.1,Ext.more ai _ K.own.2.1,Ext.more ai _ K.own.2.2.1,fun x J=>Ext.more ai _ (K.own.2.2.2 x J)⟩,K.mem,K.ring,K.map,K.ok⟩⟩
  clear az K;go_wp2_with fail;go_end0;exact⟨rfl,aK.o,H,ap.o,Nat.lt_of_lt_of_le a5.o ai,by rw [a3.o,aq.o];exact aI.o⟩
 ·have aq:Hid (zgi room Z=Z):=if_neg hc;have aU:(Z.length:Int)≤room:=by omega
  go_wp2_with fail;go_quiet (fail);go_wp2_with fail;go_end0;exact⟨rfl,a9.o.drewN _,H,ap.o,a5.o,by rw [a3.o,aq.o];exact⟨X,A,a0,aH,⟨I.o.own,I.o.mem,I.o.ring.same fun _ _ _=>rfl,I.o.map.same rfl,I.o.ok⟩⟩⟩
end
theorem zty (O:Nat→Prop)(H R h:Nat)(room:Int)(l:Ks)(o n:Option Addr)(w:World)(hO:O H∧O R∧O h)(E:w.heap[H]?=some (.cells #[.int .i64 room,.map (some R),zo h] MeP (0,0)))
  (J:w.heap[h]?=some (.cells ((.int .i64 0:: .int .i64 0:: .int .i64 0::(noV++[.pointer o,.pointer n])).toArray) LkP (0,0))) (D:jq w R l) :
  Calls Tryz.prog 72 #[zo H] w fun r w'=>r= .returned (.tuple #[])∧zg O [LkP] w w'∧zdh w' O H room []∧w'.heap.size=w.heap.size:=by
 obtain⟨Q,ae,X,K⟩:=D.clear Tryz.underlying161 0;have Y:Q.heap.size=w.heap.size:=by
  obtain⟨es,c,hm⟩:=D.isMap;have e:=ae;simp [Builtin.clear_,run_underlying Tryz.underlying161,MapKept.run_getObj_map hm,MapKept.run_setObj_map _ hm,Result.andThen] at e;rw [← e];simp
 have L:=(K.block H (zb E) (D.not E)).trans E;have A:=(K.block h (zb J) (D.not J)).trans J;have m1:w.cell? ⟨H,1,none⟩=some (.map (some R)):=(zf E 1 _ rfl).1;have m2:Q.cell? ⟨H,2,none⟩=some (.pointer (some ⟨h,0,none⟩)):=(zf L 2 _ rfl).1;have e4:Q.cell? ⟨h,47,none⟩=some (.pointer o):=(zf A 47 (.pointer o) rfl).1;have g4:Q.frozen? ⟨h,47,none⟩=false:=(zf A 47 (.pointer o) rfl).2;have e5:Q.cell? ⟨h,48,none⟩=some (.pointer n):=(zf A 48 (.pointer n) rfl).1;have g5:Q.frozen? ⟨h,48,none⟩=false:=(zf A 48 (.pointer n) rfl).2;have z0:¬ h=H:=fun e=>by
  have h1:some (Obj.cells _ _ _)=some (Obj.cells _ _ _):=A.symm.trans (by rw [e];exact L);simp only [Option.some.injEq,Obj.cells.injEq] at h1;exact absurd h1.2.1 (by decide)
 have z1:¬ H=h:=fun e=>z0 e.symm;have V:=za hO;have U:=za X;have aa:Hid (zg O [LkP] w Q):=(zg.refl O [LkP] w).map (.inl hO.2.1) D K;have I:=za (And.intro L A);have Z:=za Y;unfold zo;clear hO D E J X K L A Y;go_enter Tryz.func72,Tryz.ntmps72;go_wp2_with fail;go_region_held3 (fun w'=>w'.cell? ⟨H,2,none⟩=some (.pointer (some ⟨h,0,none⟩))) (go_keep) (fail);rename_i ad;clear ad;go_wp2_with fail;go_end0;have W:=qo I.o.2 47 (.pointer (some ⟨h,0,none⟩));have ac:=qo W 48 (.pointer (some ⟨h,0,none⟩));refine⟨rfl,((aa.o.set (.inl V.o.2.2) I.o.2 (by simp) _).set (.inl V.o.2.2) W (by simp) _).drew,⟨R,h,fun _=>h,fun _=>h,⟨V.o.1,V.o.2.1,V.o.2.2,fun x S=>by simp at S⟩,?_,⟨ac,fun x S=>by simp at S,zks h,fun x S=>by simp at S⟩,?_,fun x S=>by simp at S⟩,?_⟩
 ·show((Q.setCell _ _).setCell _ _).heap[H]?=_;rw [heap_setCell_other _ _ _ _ z1,heap_setCell_other _ _ _ _ z1];exact I.o.1
 ·refine U.o.same ?_;show((Q.setCell _ _).setCell _ _).heap[R]?=_;have zh:R≠h:=fun e=>U.o.not I.o.2 (by rw [e]);rw [heap_setCell_other _ _ _ _ zh,heap_setCell_other _ _ _ _ zh]
 ·simp [World.setCell,World.drew,Z.o]
abbrev z8f:Array Value:=#[.int .i64 0,.int .i64 0,.int .i64 0,.bool false,.bool false,.int .u8 0,.int .u8 0,.int .u8 0,.int .u8 0,.int .u8 0,.int .u8 0,.int .u8 0,.int .u8 0,.slice none 0 0,.bool false,.bool false,.int .u8 0,.int .u8 0,.int .u8 0,.int .u8 0,.int .u8 0,.int .u8 0,.int .u8 0,.int .u8 0,.slice none 0 0,.bool false,.bool false,.int .u8 0,.int .u8 0,.int .u8 0,.int .u8 0,.int .u8 0,.int .u8 0,.int .u8 0,.int .u8 0,.slice none 0 0,.bool false,.bool false,.int .u8 0,.int .u8 0,.int .u8 0,.int .u8 0,.int .u8 0,.int .u8 0,.int .u8 0,.int .u8 0,.slice none 0 0,.pointer none,.pointer none]
theorem z3k (room:Int)(w:World):
  Calls Tryz.prog 37 #[.int .i64 room] w fun r w'=>∃ K,r= .returned (zo K)∧Below w.heap.size w w'∧zdh w' (fun k=>w.heap.size≤k∧k < w'.heap.size) K room []:=by
 have V:=@run_makeMap Tryz.prog;go_enter Tryz.func37,Tryz.ntmps37;go_wp2_with fail;have L:(w.alloc (.map #[] 0)).heap.size=w.heap.size+1:=by simp
 have h1:=heap_alloc_last w (.map #[] 0);have h2:=heap_alloc_last (w.alloc (.map #[] 0)) (.cells z8f LkP);rw [L] at h2;have Q:((w.alloc (.map #[] 0)).alloc (.cells z8f LkP)).heap.size=w.heap.size+1+1:=by simp
 have A:=heap_alloc_last ((w.alloc (.map #[] 0)).alloc (.cells z8f LkP)) (.cells #[.int .i64 room,.map (some w.heap.size),.pointer (some ⟨w.heap.size+1,0,none⟩)] MeP);rw [Q] at A;have D:Below w.heap.size w (((w.alloc (.map #[] 0)).alloc (.cells z8f LkP)).alloc (.cells #[.int .i64 room,.map (some w.heap.size),.pointer (some ⟨w.heap.size+1,0,none⟩)] MeP)):=jn _ _ _ _;refine(zty (fun k=>w.heap.size≤k) (w.heap.size+1+1) w.heap.size (w.heap.size+1) room [] none none _ ⟨by omega,by omega,by omega⟩ A (zc h2) (zhp (c:=0) (zc (zc h1)))).mono ?_;rintro r I ⟨rfl,J,hm,H⟩;have R:Hid (Below w.heap.size w I):=D.trans (J.below (fun _ h=>h) D.size);have S:Hid (zdh I (fun k=>w.heap.size≤k∧k < I.heap.size) (w.heap.size+1+1) room []):=by
  obtain⟨E,U,nx,pv,h⟩:=hm;exact⟨E,U,nx,pv,⟨⟨h.own.1,zb h.mem⟩,⟨h.own.2.1,h.map.lt⟩,⟨h.own.2.2.1,zb h.ring.ends⟩,fun x W=>by simp at W⟩,h.mem,h.ring,h.map,h.ok⟩
 clear J hm D h1 h2 A L Q H;go_wp2_with fail;go_ret;exact⟨_,rfl,R.o,S.o⟩
end Go.Proofs.YtndkblnpbjffhaaGreatDoor
