import Derived.Test.YtlcllcgngjhoaaaGreatDoorG24
set_option maxHeartbeats 8000000
set_option maxRecDepth 100000
set_option linter.all false
namespace Go.Proofs.YtlcllcgngjhoaaaGreatDoor
open Go.RowKit Go.Proofs.Tryz
def zxh:=@run_loadAt_mid
variable {b eb nb o:Nat}{w:World}
section
def zn0 (a:Int)(L:LsP):LsP:=if a < (L.length:Int) then L.tail else L
theorem z7i (L:LsP)(b:Nat)(p:Pl)(v:List Value):LsP.ks (L++[(b,p,v)])=L.ks++[(p,b)]:=by simp [LsP.ks]
theorem z05 (L:LsP)(p:Pl):(L.drop p).get p=none:=by
 unfold LsP.get LsP.drop;have:(L.filter fun x=>!decide (x.2.1=p)).find? (fun x=>decide (x.2.1=p))=none:=by
  rw [vx];intro x a;have:=(zfd.1 a).2;simpa using this
 rw [this]
theorem zl8.add {p:Pl}{v:List Value}(hv:v.length=44)(l:∀ x∈v,x.oneCell'=true){L:LsP}{j d:Nat→Nat}(h:zl8 w eb L j d)(o:w.heap[nb]?=some (.cells (lkP p v (d eb) eb) LkP (0,0)))(a:nb∉eb::L.map (·.1)):
  zl8 ((w.setCell ⟨d eb,48,none⟩ (.pointer (some ⟨nb,0,none⟩))).setCell ⟨eb,47,none⟩ (.pointer (some ⟨nb,0,none⟩))) eb (L++[(nb,p,v)]) (upd (upd j (d eb) nb) nb eb) (upd (upd d eb nb) nb (d eb)):=by
 have m:=h.circ;have k:nb≠d eb:=fun e=>a (e▸m.pv_mem);have g:nb≠eb:=fun e=>a (by simp [e]);have i:∀ {c:Nat} {q:Pl} {u:List Value},c≠nb→u.length=44→w.heap[c]?=some (.cells (lkP q u (d c) (j c)) LkP (0,0))→((w.setCell ⟨d eb,48,none⟩ (.pointer (some ⟨nb,0,none⟩))).setCell ⟨eb,47,none⟩ (.pointer (some ⟨nb,0,none⟩))).heap[c]?=some (.cells (lkP q u (upd (upd d eb nb) nb (d eb) c) (upd (upd j (d eb) nb) nb eb c)) LkP (0,0)):=by
  intro c q u f n e;rw [zb3 _ nb _ c f,zb3 _ nb _ c f];exact z88 n (zxj n e)
 refine⟨i g.symm zgn h.ends,fun x b=>?_,?_,fun x b=>?_⟩
 ·rcases yt.1 b with b | b
  ·exact i (fun e=>a (by rw [← e];exact zc0 _ (yl.2 ⟨x,b,rfl⟩))) (h.len x b).1 (h.link x b)
  ·obtain rfl:x=(nb,p,v):=by simpa using b
   simp only;rw [zem,zem,yh _ _ _ _ g,yh _ _ _ _ k];exact o
 ·rw [yy];exact m.add a
 ·rcases yt.1 b with b | b
  ·exact h.len x b
  ·obtain rfl:x=(nb,p,v):=by simpa using b
   exact⟨hv,l⟩
def zy8 (V:Value):Sem Value:=Instr.loadAt 154 V
theorem jy (V:Value):Instr.loadAt 154 V=zy8 V:=rfl
theorem ze0 {a:List Value}(h:w.rangeAt b o a)(c:a.length=44):(zy8 (.pointer (some ⟨b,o,none⟩))).run prog w= .ok (.agg a.toArray) w :=
 zxh w b o _ a _ h underlying154 rfl (by rw [zcs,c])
def z94 (parts:Array (Nat×Value)):Sem Value:=Instr.build LkP parts
theorem z0p (parts:Array (Nat×Value)):Instr.build LkP parts=z94 parts:=rfl
theorem xp {n:Nat}{v:List Value}(h:v.length=n+1):∃ x r,v=x::r∧r.length=n:=by
 cases v with
 | nil=>simp at h
 | cons x r=>exact⟨x,r,rfl,by simpa using h⟩
theorem yne (v:List Value)(h:v.length=44):∃ x0 x1 x2 x3 x4 x5 x6 x7 x8 x9 a b c d e f g i j k l m n o p q r s t u w x y z A B C D E F G H I J:Value,v=[x0,x1,x2,x3,x4,x5,x6,x7,x8,x9,a,b,c,d,e,f,g,i,j,k,l,m,n,o,p,q,r,s,t,u,w,x,y,z,A,B,C,D,E,F,G,H,I,J]:=by
 obtain⟨x0,r0,e0,h0⟩:=xp h;obtain⟨x1,r1,e1,h1⟩:=xp h0;obtain⟨x2,r2,e2,h2⟩:=xp h1;obtain⟨x3,r3,e3,h3⟩:=xp h2;obtain⟨x4,r4,e4,h4⟩:=xp h3;obtain⟨x5,r5,e5,h5⟩:=xp h4;obtain⟨x6,r6,e6,h6⟩:=xp h5;obtain⟨x7,r7,e7,h7⟩:=xp h6;obtain⟨x8,r8,e8,h8⟩:=xp h7;obtain⟨x9,r9,e9,h9⟩:=xp h8;obtain⟨a,a6,K,aw⟩:=xp h9;obtain⟨b,a7,L,ax⟩:=xp aw;obtain⟨c,a8,M,ay⟩:=xp ax;obtain⟨d,a9,N,az⟩:=xp ay;obtain⟨e,ba,O,aA⟩:=xp az;obtain⟨f,bb,P,aB⟩:=xp aA;obtain⟨g,bc,Q,aC⟩:=xp aB;obtain⟨i,bd,R,aD⟩:=xp aC;obtain⟨j,be,S,aE⟩:=xp aD;obtain⟨k,bf,T,aF⟩:=xp aE;obtain⟨l,bg,U,aG⟩:=xp aF;obtain⟨m,bh,V,aH⟩:=xp aG;obtain⟨n,bi,W,aI⟩:=xp aH;obtain⟨o,bj,X,aJ⟩:=xp aI;obtain⟨p,bk,Y,aK⟩:=xp aJ;obtain⟨q,bl,Z,aL⟩:=xp aK;obtain⟨r,bm,aa,aM⟩:=xp aL;obtain⟨s,bn,ab,aN⟩:=xp aM;obtain⟨t,bo,ad,aO⟩:=xp aN;obtain⟨u,bp,ae,aP⟩:=xp aO;obtain⟨w,bq,af,aQ⟩:=xp aP;obtain⟨x,br,ag,aR⟩:=xp aQ;obtain⟨y,bs,ah,aS⟩:=xp aR;obtain⟨z,bt,ai,aU⟩:=xp aS;obtain⟨A,bu,aj,aV⟩:=xp aU;obtain⟨B,bw,ak,aW⟩:=xp aV;obtain⟨C,bx,al,aX⟩:=xp aW;obtain⟨D,bz,am,aY⟩:=xp aX;obtain⟨E,bA,an,aZ⟩:=xp aY;obtain⟨F,bB,ao,a0⟩:=xp aZ;obtain⟨G,bC,ap,a1⟩:=xp a0;obtain⟨H,bD,aq,a2⟩:=xp a1;obtain⟨I,bE,ar,a3⟩:=xp a2;obtain⟨J,a5,au,a4⟩:=xp a3;have av:a5=[]:=j5.1 a4;refine⟨x0,x1,x2,x3,x4,x5,x6,x7,x8,x9,a,b,c,d,e,f,g,i,j,k,l,m,n,o,p,q,r,s,t,u,w,x,y,z,A,B,C,D,E,F,G,H,I,J,?_⟩;rw [e0,e1,e2,e3,e4,e5,e6,e7,e8,e9,K,L,M,N,O,P,Q,R,S,T,U,V,W,X,Y,Z,aa,ab,ad,ae,af,ag,ah,ai,aj,ak,al,am,an,ao,ap,aq,ar,au,av]
theorem z6v (p:Pl)(v:List Value)(h:v.length=44)(o n:Nat)(w:World):
  (z94 #[(0,.agg #[.int .i64 p.1,.int .i64 p.2.1,.int .i64 p.2.2]),(1,.agg v.toArray),(2,.pointer (some ⟨o,0,none⟩)),(3,.pointer (some ⟨n,0,none⟩))]).run prog w= .ok (.agg (lkP p v o n)) w:=by
 obtain⟨O,P,Q,R,S,T,U,V,W,X,a,b,c,d,e,f,g,i,j,k,l,m,q,r,s,t,u,x,y,z,A,B,C,D,E,F,G,H,I,J,K,L,M,N,rfl⟩:=yne v h
 kernel_rfl
theorem ycm (v:List Value)(h:v.length=44):(prog.info? 154).map (·.size)=some v.length:=by rw [zcs,h]
attribute [local go_sem ↓] jy z0p
theorem yi4 (O:Nat→Prop)(G:Nat)(f:Int)(L:LsP)(p:Pl)(hp:zip p)(v:List Value)(hv:v.length=44)(aD:∀ x∈v,x.oneCell'=true)(w:World)(h:zjg w O G f L)(hn:L.length≤1000000000000):
  Calls prog 176 #[yx G,plV p,.agg v.toArray] w fun r t=>r= .returned (.tuple #[])∧zq O [LkP] w t∧∃ d,w.heap.size≤d∧d < t.heap.size∧zjg t (jz O w t) G f (zn0 f (L.drop p++[(d,p,v)])):=by
 have HD:=zf (zyv O G f L p hp ((w.alloc (.cells #[.int .i64 p.1,.int .i64 p.2.1,.int .i64 p.2.2] 150)).alloc (.cells v.toArray 154)) (h.below (xu w _ _) (fun _ h=>h)));have HP:=zf hp;have HN:Hid ((L.drop p).length≤1000000000000):=zu (zcp _ _) hn;have ar:=zf (z05 L p);have HV:=zf (And.intro hv aD);clear h hp hn hv aD;generalize L.drop p=T at *;unfold plV yx at *;go_enter func176,ntmps176;go_wp2_with fail;refine HD.o.mono ?_;rintro r z ⟨rfl,ab,aK⟩;have R:z.heap[w.heap.size]?=some (.cells #[.int .i64 p.1,.int .i64 p.2.1,.int .i64 p.2.2] 150 (0,0)):=ab.keep (zj (zg w _)) (by decide);have aC:z.heap[w.heap.size+1]?=some (.cells v.toArray 154 (0,0)):=ab.keep (by have:=zg (w.alloc (.cells #[.int .i64 p.1,.int .i64 p.2.1,.int .i64 p.2.2] 150)) (.cells v.toArray 154);simpa using this) (by decide);have ak:Hid (zq O [LkP] w z):=(zq.of_below (xu w _ _)).trans (ab.mono (fun k hk=> .inl hk) (fun _ h=>h));obtain⟨K,a,nx,i,M⟩:=aK;have HM:=zf M;have e2:z.cell? ⟨G,2,none⟩=some (.pointer (some ⟨a,0,none⟩)):=(zw M.mem 2 _ rfl).1;have e4:z.cell? ⟨a,47,none⟩=some (.pointer (some ⟨i a,0,none⟩)):=(zw M.ring.ends 47 _ (zy7 zgn)).1;have k0:z.cell? ⟨w.heap.size,0,none⟩=some (.int .i64 p.1):=(zw R 0 _ rfl).1;have k1:z.cell? ⟨w.heap.size,1,none⟩=some (.int .i64 p.2.1):=(zw R 1 _ rfl).1;have k2:z.cell? ⟨w.heap.size,2,none⟩=some (.int .i64 p.2.2):=(zw R 2 _ rfl).1;have rr:z.rangeAt (w.heap.size+1) 0 v:=j6 aC;have af:=zf R;have z0:¬ G=z.heap.size:=by have:=zi M.mem;omega
 have z1:¬ a=z.heap.size:=by have:=zi M.ring.ends;omega
 have z2:¬ w.heap.size=z.heap.size:=by have:=zi R;omega
 have hu:=underlying154;have hi:=ycm v HV.o.1;have al:=HV.o.1;have aB:=HV.o.2;have Z:=z6v p v HV.o.1 (i a) a;have aw:Hid (∀ t,t=z.drew→(zy8 (.pointer (some ⟨w.heap.size+1,0,none⟩))).run prog t= .ok (.agg v.toArray) t):=fun t e=>by subst e;exact ze0 (by simpa using rr) al
 have av:Hid (∀ o,(zy8 (.pointer (some ⟨w.heap.size+1,0,none⟩))).run prog (z.alloc o).drew= .ok (.agg v.toArray) (z.alloc o).drew):=fun o=>ze0 (by simpa using World.rangeAt_alloc rr o) al;clear HD M R ab aC rr hu hi al aB;go_wp2_with fail
 go_region_held3 (fun t=>t.cell? ⟨G,2,none⟩=some (.pointer (some ⟨a,0,none⟩))∧t.cell? ⟨a,47,none⟩=some (.pointer (some ⟨i a,0,none⟩))∧t.cell? ⟨w.heap.size,0,none⟩=some (.int .i64 p.1)∧t.cell? ⟨w.heap.size,1,none⟩=some (.int .i64 p.2.1)∧t.cell? ⟨w.heap.size,2,none⟩=some (.int .i64 p.2.2)∧(zy8 (.pointer (some ⟨w.heap.size+1,0,none⟩))).run prog t= .ok (.agg v.toArray) t) ((first | (refine⟨?_,?_,?_,?_,?_,aw.o _ rfl⟩<;>go_keep) | (refine⟨?_,?_,?_,?_,?_,av.o _⟩<;>go_keep))) (fail)
 rename_i A;clear A z0 z1 z2 e2 e4 k0 k1 k2 aw av Z;have N:Hid (Below z.heap.size z (z.alloc (.cells (lkP p v (i a) a) LkP)).drew):=(zk _ _).drew;have S:Hid ((z.alloc (.cells (lkP p v (i a) a) LkP)).drew.heap[z.heap.size]?=some (.cells (lkP p v (i a) a) LkP (0,0))):=zg _ _;generalize (z.alloc (.cells (lkP p v (i a) a) LkP)).drew=E at *;have ah:Hid (w.heap.size≤z.heap.size):=ak.o.size;have b:Hid (zhg E O G K a nx i f T):=by
  have M:=HM.o;refine⟨M.own,(N.o.block _ (zi M.mem)).trans M.mem,M.ring.same fun k c e=>N.o.block k (zi e),M.map.same (N.o.block _ M.map.lt),M.ok⟩
 have ax:Hid (zq O [LkP] w E):=ak.o.then_below N.o;have ag:Hid (E.heap[w.heap.size]?=some (.cells #[.int .i64 p.1,.int .i64 p.2.1,.int .i64 p.2.2] 150 (0,0))):=(N.o.block _ (zi af.o)).trans af.o;have Y:Hid (z.heap.size∉a::T.map (·.1)):=by
  intro m;rcases jr.1 m with e | e
  ·have:=zi HM.o.ring.ends;omega
  ·obtain⟨x,m,ex⟩:=yl.1 e;have:=zi (HM.o.ring.link x m);omega
 clear ak HM af N;generalize z.heap.size=d at *;have Q:∃ q u,u.length=44∧E.heap[i a]?=some (.cells (lkP q u (i (i a)) (nx (i a))) LkP (0,0)):=by
  rcases jr.1 b.o.ring.circ.pv_mem with e | e
  ·rw [e];exact⟨_,_,zgn,b.o.ring.ends⟩
  ·obtain⟨x,m,ex⟩:=yl.1 e;rw [← ex];exact⟨_,_,(b.o.ring.len x m).1,b.o.ring.link x m⟩
 obtain⟨q,u,am,Q⟩:=Q;have oP:Hid (O (i a)):=by
  rcases jr.1 b.o.ring.circ.pv_mem with e | e
  ·rw [e];exact b.o.own.2.2.1
  ·obtain⟨x,m,ex⟩:=yl.1 e;rw [← ex];exact b.o.own.2.2.2 x m
 have n4:E.cell? ⟨d,47,none⟩=some (.pointer (some ⟨i a,0,none⟩)):=(zw S.o 47 _ (zy7 HV.o.1)).1;have n5:E.cell? ⟨d,48,none⟩=some (.pointer (some ⟨a,0,none⟩)):=(zw S.o 48 _ (zy6 HV.o.1)).1;have p5:E.cell? ⟨i a,48,none⟩=some (.pointer (some ⟨nx (i a),0,none⟩)):=(zw Q 48 _ (zy6 am)).1;have g5:E.frozen? ⟨i a,48,none⟩=false:=(zw Q 48 _ (zy6 am)).2;have e4:E.cell? ⟨a,47,none⟩=some (.pointer (some ⟨i a,0,none⟩)):=(zw b.o.ring.ends 47 _ (zy7 zgn)).1;have g4:E.frozen? ⟨a,47,none⟩=false:=(zw b.o.ring.ends 47 _ (zy7 zgn)).2;have z0:¬ i a=d:=fun e=>Y.o (e▸b.o.ring.circ.pv_mem);have z1:¬ a=d:=fun e=>Y.o (by simp [e]);have aj:=zf Q;clear Q am;go_wp2_with fail
 go_region_held3 (fun t=>t.cell? ⟨d,47,none⟩=some (.pointer (some ⟨i a,0,none⟩))∧t.cell? ⟨d,48,none⟩=some (.pointer (some ⟨a,0,none⟩))) (go_keep) (fail)
 rename_i A;clear A
 have HR:Hid (zq O [LkP] w ((E.setCell ⟨i a,48,none⟩ (.pointer (some ⟨d,0,none⟩))).setCell ⟨a,47,none⟩ (.pointer (some ⟨d,0,none⟩))).drew∧zl8 ((E.setCell ⟨i a,48,none⟩ (.pointer (some ⟨d,0,none⟩))).setCell ⟨a,47,none⟩ (.pointer (some ⟨d,0,none⟩))).drew a (T++[(d,p,v)]) (upd (upd nx (i a) d) d a) (upd (upd i a d) d (i a)) ∧
   (d < ((E.setCell ⟨i a,48,none⟩ (.pointer (some ⟨d,0,none⟩))).setCell ⟨a,47,none⟩ (.pointer (some ⟨d,0,none⟩))).drew.heap.size) ∧
   ∀(k:Nat),(∀ c:Array Value,E.heap[k]?≠some (Obj.cells c LkP (0,0)))→((E.setCell ⟨i a,48,none⟩ (.pointer (some ⟨d,0,none⟩))).setCell ⟨a,47,none⟩ (.pointer (some ⟨d,0,none⟩))).drew.heap[k]?=E.heap[k]?):=by
  refine⟨?_,(b.o.ring.add HV.o.1 HV.o.2 S.o Y.o).same fun k c _=>rfl,?_,?_⟩
  ·have t1:zq O [LkP] w (E.setCell ⟨i a,48,none⟩ (.pointer (some ⟨d,0,none⟩))):=ax.o.set (.inl oP.out) aj.o (by simp) _;exact(t1.set (.inl b.o.own.2.2.1) (zxj zgn b.o.ring.ends) (by simp) _).drew
  ·have:=zi S.o;simpa [World.setCell,World.drew] using this
  ·intro k hk;have e1:k≠a:=fun e=>hk _ (e▸b.o.ring.ends);have e2:k≠i a:=fun e=>hk _ (e▸aj.o);show((E.setCell _ _).setCell _ _).heap[k]?=_;rw [yh _ _ _ _ e1,yh _ _ _ _ e2]
 generalize ((E.setCell ⟨i a,48,none⟩ (.pointer (some ⟨d,0,none⟩))).setCell ⟨a,47,none⟩ (.pointer (some ⟨d,0,none⟩))).drew=X at *;clear n4 n5 p5 g5 e4 g4 z0 z1 aj oP;have B:X.heap[G]?=some (.cells #[.int .i64 f,.map (some K),yx a] MeP (0,0)):=by
  rw [HR.o.2.2.2 G (fun c e=>by rw [b.o.mem] at e;simp only [zr,vw] at e;exact absurd e.2.1 (by decide))];exact b.o.mem
 have j:X.heap[w.heap.size]?=some (.cells #[.int .i64 p.1,.int .i64 p.2.1,.int .i64 p.2.2] 150 (0,0)):=by
  rw [HR.o.2.2.2 w.heap.size (fun c e=>by rw [ag.o] at e;simp only [zr,vw] at e;exact absurd e.2.1 (by decide))];exact ag.o
 have I:zb6 X.drew K T.ks:=by
  refine b.o.map.same ?_;show X.heap[K]?=_;refine HR.o.2.2.2 K (fun c e=>b.o.map.not e rfl)
 have aA:T.ks.get p=none:=by rw [zrt,ar.o];rfl
 obtain⟨C,ae,V,l⟩:=I.put underlying202 HP.o (by have:=HN.o;unfold maxLen;simp [LsP.ks];omega) aA d;unfold plV yx at ae;have H:X.grownBy C (some K):=⟨l.os,l.tape,l.output,l.size,l.block⟩;have U:zb6 X K T.ks:=I.same rfl;have J:=(H.block G (zi B) (U.not B)).trans B;have F:=(H.block w.heap.size (zi j) (U.not j)).trans j;have a1:X.cell? ⟨G,1,none⟩=some (.map (some K)):=(zw B 1 _ rfl).1;have b0:X.cell? ⟨w.heap.size,0,none⟩=some (.int .i64 p.1):=(zw j 0 _ rfl).1;have b1:X.cell? ⟨w.heap.size,1,none⟩=some (.int .i64 p.2.1):=(zw j 1 _ rfl).1;have b2:X.cell? ⟨w.heap.size,2,none⟩=some (.int .i64 p.2.2):=(zw j 2 _ rfl).1;have c1:C.cell? ⟨G,1,none⟩=some (.map (some K)):=(zw J 1 _ rfl).1;have d0:C.cell? ⟨w.heap.size,0,none⟩=some (.int .i64 p.1):=(zw F 0 _ rfl).1;have d1:C.cell? ⟨w.heap.size,1,none⟩=some (.int .i64 p.2.1):=(zw F 1 _ rfl).1;have d2:C.cell? ⟨w.heap.size,2,none⟩=some (.int .i64 p.2.2):=(zw F 2 _ rfl).1;have g:Hid (zhg C (jz O w C) G K a (upd (upd nx (i a) d) d a) (upd (upd i a d) d (i a)) f (T++[(d,p,v)])):=by
  refine⟨⟨.inl b.o.own.1,.inl b.o.own.2.1,.inl b.o.own.2.2.1,fun x m=>?_⟩,J,HR.o.2.1.same fun k c e=>H.block k (zi e) (U.not e),by rw [z7i];exact V,fun x m=>?_⟩
  ·rcases yt.1 m with m | m
   ·exact .inl (b.o.own.2.2.2 x m)
   ·obtain rfl:x=(d,p,v):=by simpa using m
    exact .inr ⟨ah.o,zx HR.o.2.2.1 H.size⟩
  ·rcases yt.1 m with m | m
   ·exact b.o.ok x m
   ·obtain rfl:x=(d,p,v):=by simpa using m
    exact HP.o
 have ay:Hid (zq O [LkP] w C):=HR.o.1.map (.inl b.o.own.2.1) U H;have au:Hid (d < C.heap.size):=zx HR.o.2.2.1 H.size;clear B j I aA V l H U J F b ax ag Y S HR;go_wp2_with fail
 go_region_held3 (fun t=>t.cell? ⟨G,1,none⟩=some (.map (some K))∧t.cell? ⟨w.heap.size,0,none⟩=some (.int .i64 p.1)∧t.cell? ⟨w.heap.size,1,none⟩=some (.int .i64 p.2.1)∧t.cell? ⟨w.heap.size,2,none⟩=some (.int .i64 p.2.2)) (go_keep) (fail)
 rename_i A;clear A ae a1 b0 b1 b2 d0 d1 d2 ar;generalize upd (upd nx (i a) d) d a=ao at *;generalize upd (upd i a d) d (i a)=aE at *;have aO:Hid ((T++[(d,p,v)]).length=T.length+1):=by show _=_;simp
 have aG:Hid (T++[(d,p,v)]≠[]):=by show _≠_;simp
 generalize az:T++[(d,p,v)]=P at *;have aq:=zf az;clear az;have aL:∀ n ty,(Builtin.len_ #[202] ty #[.map (some K)]).run prog (C.drewN n)= .ok (.int .i64 (P.length:Int)) (C.drewN n):=fun n ty=>by
  have:=(g.o.map.same (w':=C.drewN n) rfl).len underlying202 ty;rw [this];simp [LsP.ks]
 have r0:C.cell? ⟨G,0,none⟩=some (.int .i64 f):=(zw g.o.mem 0 _ rfl).1;have aN:=zf HN.o
 by_cases hc:f < (P.length:Int)
 ·have ai:Hid (zn0 f P=P.tail):=if_pos hc;have r2:C.cell? ⟨G,2,none⟩=some (.pointer (some ⟨a,0,none⟩)):=(zw g.o.mem 2 _ rfl).1;obtain⟨x,L5,eL⟩:∃ x r,P=x::r:=by
   cases h:P with
   | nil=>exact absurd h aG.o
   | cons x r=>exact⟨x,r,rfl⟩
  have aM:=zf eL;have ad:ao a=x.1:=by
   have:=g.o.ring.circ;rw [eL,ve] at this;exact this.first.1
  have m:=g.o.ring.link x (by rw [eL];simp);have r5:C.cell? ⟨a,48,none⟩=some (.pointer (some ⟨x.1,0,none⟩)):=by
   have:=(zw g.o.ring.ends 48 _ (zy6 zgn)).1;rw [ad] at this;exact this
  have x0:C.cell? ⟨x.1,0,none⟩=some (.int .i64 x.2.1.1):=(zw m 0 _ rfl).1;have x1:C.cell? ⟨x.1,1,none⟩=some (.int .i64 x.2.1.2.1):=(zw m 1 _ rfl).1;have x2:C.cell? ⟨x.1,2,none⟩=some (.int .i64 x.2.1.2.2):=(zw m 2 _ rfl).1;have aJ:=zf (g.o.ok x (by rw [eL];simp));have aI:Hid (P.drop x.2.1=P.tail):=by
   show _=_;obtain⟨D,-,-,aa,-⟩:=g.o.map;rw [eL] at aa ⊢;unfold LsP.ks at aa;rw [zgv,ve,zbj] at aa;unfold LsP.drop;rw [zl1];simp only [decide_true,Bool.not_true,zas,zd3,List.tail_cons];rw [za1];intro y hy;have:y.2.1≠x.2.1:=fun e=>aa.1 (yl.2 ⟨y,hy,e⟩);simpa using this
  clear eL ad m;have ap:=zf (fun n=>zyv (jz O w C) G f P x.2.1 aJ.o (C.drewN n) ⟨K,a,ao,aE,⟨g.o.own,g.o.mem,g.o.ring.same fun _ _ _=>rfl,g.o.map.same rfl,g.o.ok⟩⟩);unfold plV yx at ap;obtain⟨xb,⟨xl,xi,xw⟩,xv⟩:=x;go_wp2_with fail
  go_quiet (fail)
  go_wp2_with fail;refine(ap.o _).mono ?_;rintro r w5 ⟨rfl,an,s⟩;rw [aI.o] at s;have aH:Hid (zq O [LkP] w w5):=ay.o.trans (an.mono (fun _ h=>h) (fun _ h=>h)).undrewK;have W:C.heap.size≤w5.heap.size:=an.size;obtain⟨h5,e5,n5,p5,s⟩:=s;have aF:Hid (zjg w5 (jz O w w5) G f P.tail):=⟨h5,e5,n5,p5,⟨⟨jz.more W _ s.own.1,jz.more W _ s.own.2.1,jz.more W _ s.own.2.2.1,fun x m=>jz.more W _ (s.own.2.2.2 x m)⟩,s.mem,s.ring,s.map,s.ok⟩⟩;clear an s;go_wp2_with fail
  go_end0
  exact⟨rfl,aH.o,d,ah.o,zx au.o W,by rw [aq.o,ai.o];exact aF.o⟩
 ·have ai:Hid (zn0 f P=P):=if_neg hc;have aP:(P.length:Int)≤f:=by omega
  go_wp2_with fail
  go_quiet (fail)
  go_wp2_with fail
  go_end0
  exact⟨rfl,ay.o.drewN _,d,ah.o,au.o,by rw [aq.o,ai.o];exact⟨K,a,ao,aE,⟨g.o.own,g.o.mem,g.o.ring.same fun _ _ _=>rfl,g.o.map.same rfl,g.o.ok⟩⟩⟩
end
theorem z3e (O:Nat→Prop)(k s d:Nat)(q:Int)(l:Ks)(o n:Option Addr)(w:World)(F:O k∧O s∧O d)(h:w.heap[k]?=some (.cells #[.int .i64 q,.map (some s),yx d] MeP (0,0)))
 (i:w.heap[d]?=some (.cells ((.int .i64 0:: .int .i64 0:: .int .i64 0::(noV++[.pointer o,.pointer n])).toArray) LkP (0,0))) (b:zb6 w s l) :
  Calls prog 105 #[yx k] w fun r C=>r= .returned (.tuple #[])∧zq O [LkP] w C∧zjg C O k q []∧C.heap.size=w.heap.size:=by
 obtain⟨p,A,j,f⟩:=b.clear underlying202 0;have B:p.heap.size=w.heap.size:=by
  obtain⟨es,c,I⟩:=b.isMap;have e:=A;simp [Builtin.clear_,zcu underlying202,zkw I,zkx _ I,Result.andThen] at e;rw [← e];simp
 have g:=(f.block k (zi h) (b.not h)).trans h;have a:=(f.block d (zi i) (b.not i)).trans i;have R:w.cell? ⟨k,1,none⟩=some (.map (some s)):=(zw h 1 _ rfl).1;have S:p.cell? ⟨k,2,none⟩=some (.pointer (some ⟨d,0,none⟩)):=(zw g 2 _ rfl).1;have M:p.cell? ⟨d,47,none⟩=some (.pointer o):=(zw a 47 (.pointer o) rfl).1;have P:p.frozen? ⟨d,47,none⟩=false:=(zw a 47 (.pointer o) rfl).2;have N:p.cell? ⟨d,48,none⟩=some (.pointer n):=(zw a 48 (.pointer n) rfl).1;have Q:p.frozen? ⟨d,48,none⟩=false:=(zw a 48 (.pointer n) rfl).2;have L:¬ d=k:=fun e=>by
  have H:some (Obj.cells _ _ _)=some (Obj.cells _ _ _):=a.symm.trans (by rw [e];exact g);simp only [zr,vw] at H;exact absurd H.2.1 (by decide)
 have J:¬ k=d:=fun e=>L e.symm;have y:=zf F;have v:=zf j;have E:Hid (zq O [LkP] w p):=(zq.refl O [LkP] w).map (.inl F.2.1) b f;have m:=zf (And.intro g a);have D:=zf B;unfold yx;clear F b h i j f g a B;go_enter func105,ntmps105;go_wp2_with fail
 go_region_held3 (fun C=>C.cell? ⟨k,2,none⟩=some (.pointer (some ⟨d,0,none⟩))) (go_keep) (fail)
 rename_i t;clear t;go_wp2_with fail
 go_end0
 have z:=zav m.o.2 47 (.pointer (some ⟨d,0,none⟩));have G:=zav z 48 (.pointer (some ⟨d,0,none⟩));refine⟨rfl,((E.o.set (.inl y.o.2.2) m.o.2 (by simp) _).set (.inl y.o.2.2) z (by simp) _).drew,⟨s,d,fun _=>d,fun _=>d,⟨y.o.1,y.o.2.1,y.o.2.2,fun x u=>by simp at u⟩,?_,⟨G,fun x u=>by simp at u,zst d,fun x u=>by simp at u⟩,?_,fun x u=>by simp at u⟩,?_⟩
 ·show((p.setCell _ _).setCell _ _).heap[k]?=_;rw [yh _ _ _ _ J,yh _ _ _ _ J];exact m.o.1
 ·refine v.o.same ?_;show((p.setCell _ _).setCell _ _).heap[s]?=_;have K:s≠d:=fun e=>v.o.not m.o.2 (by rw [e]);rw [yh _ _ _ _ K,yh _ _ _ _ K]
 ·simp [World.setCell,World.drew,D.o]
abbrev ylq:Array Value:=#[.int .i64 0,.int .i64 0,.int .i64 0,.bool false,.bool false,.int .u8 0,.int .u8 0,.int .u8 0,.int .u8 0,.int .u8 0,.int .u8 0,.int .u8 0,.int .u8 0,.slice none 0 0,.bool false,.bool false,.int .u8 0,.int .u8 0,.int .u8 0,.int .u8 0,.int .u8 0,.int .u8 0,.int .u8 0,.int .u8 0,.slice none 0 0,.bool false,.bool false,.int .u8 0,.int .u8 0,.int .u8 0,.int .u8 0,.int .u8 0,.int .u8 0,.int .u8 0,.int .u8 0,.slice none 0 0,.bool false,.bool false,.int .u8 0,.int .u8 0,.int .u8 0,.int .u8 0,.int .u8 0,.int .u8 0,.int .u8 0,.int .u8 0,.slice none 0 0,.pointer none,.pointer none]
theorem yh7 (a:Int)(w:World):
  Calls prog 76 #[.int .i64 a] w fun r i=>∃ p,r= .returned (yx p)∧Below w.heap.size w i∧zjg i (fun k=>w.heap.size≤k∧k < i.heap.size) p a []:=by
 have y:=@run_makeMap prog;go_enter func76,ntmps76;go_wp2_with fail;have q:(w.alloc (.map #[] 0)).heap.size=w.heap.size+1:=by simp
 have l:=zg w (.map #[] 0);have b:=zg (w.alloc (.map #[] 0)) (.cells ylq LkP);rw [q] at b;have s:((w.alloc (.map #[] 0)).alloc (.cells ylq LkP)).heap.size=w.heap.size+1+1:=by simp
 have d:=zg ((w.alloc (.map #[] 0)).alloc (.cells ylq LkP)) (.cells #[.int .i64 a,.map (some w.heap.size),.pointer (some ⟨w.heap.size+1,0,none⟩)] MeP);rw [s] at d;have e:Below w.heap.size w (((w.alloc (.map #[] 0)).alloc (.cells ylq LkP)).alloc (.cells #[.int .i64 a,.map (some w.heap.size),.pointer (some ⟨w.heap.size+1,0,none⟩)] MeP)):=zca _ _ _ _;refine(z3e (fun k=>w.heap.size≤k) (w.heap.size+1+1) w.heap.size (w.heap.size+1) a [] none none _ ⟨by omega,by omega,by omega⟩ d (zj b) (zo4 (c:=0) (zj (zj l)))).mono ?_;rintro r j ⟨rfl,n,m,g⟩;have t:Hid (Below w.heap.size w j):=e.trans (n.below (fun _ h=>h) e.size);have u:Hid (zjg j (fun k=>w.heap.size≤k∧k < j.heap.size) (w.heap.size+1+1) a []):=by
  obtain⟨f,v,A,B,h⟩:=m;exact⟨f,v,A,B,⟨⟨h.own.1,zi h.mem⟩,⟨h.own.2.1,h.map.lt⟩,⟨h.own.2.2.1,zi h.ring.ends⟩,fun x z=>by simp at z⟩,h.mem,h.ring,h.map,h.ok⟩
 clear n m e l b d q s g;go_wp2_with fail;go_ret;exact⟨_,rfl,t.o,u.o⟩
variable {B fb j k:Nat}{O:Nat→Prop}{T:List Nat}{a w0:World}{t:TypeId}{v:Value}
structure Px where
 there:Bool
 fits:Bool
 hash:zc
 ent:Value
def Px.cs (x:Px):List Value:= .bool x.there:: .bool x.fits::((x.hash.map bv)++[x.ent])
def Px.ok (x:Px):Prop:=x.hash.length=8∧∃ a n c,x.ent= .slice a n c
def vf (a:List Px):List Value:=(a.map Px.cs).flatten
def FOk (a:List Px):Prop:=a.length=4∧∀ x∈a,x.ok
theorem Px.cs_len {x:Px}(h:x.ok):x.cs.length=11:=by simp [Px.cs,h.1]
theorem Px.cs_one {x:Px}(h:x.ok):∀ v∈x.cs,v.oneCell'=true:=by
 obtain⟨-,a,n,c,e⟩:=h;intro v hv;simp only [Px.cs,jr,yt,yl,zf3,z4f] at hv;rcases hv with rfl | rfl | ⟨b,-,rfl⟩ | rfl
 ·rfl
 ·rfl
 ·simp [bv,Value.oneCell']
 ·rw [e];rfl
theorem zpo {a:List Px}(h:∀ x∈a,x.ok):(vf a).length=11*a.length:=by
 induction a with
 | nil=>rfl
 | cons x a c =>
  have:vf (x::a)=x.cs++vf a:=by simp [vf]
  rw [this,zy,Px.cs_len (h x (by simp)),c (fun y b=>h y (by simp [b])),y9];omega
theorem zcl {b:List Px}(h:∀ x∈b,x.ok):∀ v∈vf b,v.oneCell'=true:=by
 intro v hv;unfold vf at hv;obtain⟨l,c,a⟩:=List.mem_flatten.1 hv;obtain⟨x,d,rfl⟩:=yl.1 c;exact Px.cs_one (h x d) v a
theorem FOk.len {a:List Px}(h:FOk a):(vf a).length=44:=by rw [zpo h.2,h.1]
theorem ym6 {a:List Px}(h:∀ x∈a,x.ok)(k:Nat)(b:k < a.length)(j:Nat)(g:j < 11):(vf a)[k*11+j]?=a[k].cs[j]?:=by
 induction a generalizing k with
 | nil=>simp at b
 | cons x a f =>
  have e:vf (x::a)=x.cs++vf a:=by simp [vf]
  have c:=Px.cs_len (h x (by simp));rw [e];cases k with
  | zero =>
   rw [zsn,xk,qd (by omega)]
   rfl
  | succ k =>
   rw [qi (by omega),c,show(k+1)*11+j - 11=k*11+j by omega,f (fun y d=>h y (by simp [d])) k (by simpa using b)]
   rfl
theorem zrl {a:List Px}(h:∀ x∈a,x.ok)(k:Nat)(b:k < a.length)(x:Px)(_:x.ok):vf (a.set k x)=(vf a).take (k*11)++(x.cs++(vf a).drop (k*11+11)):=by
 induction a generalizing k with
 | nil=>simp at b
 | cons y a f =>
  have e:∀(z:Px) (r:List Px),vf (z::r)=z.cs++vf r:=by simp [vf]
  have c:=Px.cs_len (h y (by simp));cases k with
  | zero =>
   rw [List.set_cons_zero,e,e,zsn,xk,List.take_zero,zal,← c,zdx]
  | succ k =>
   rw [zoa,e,e,f (fun z d=>h z (by simp [d])) k (by simpa using b)];rw [show(k+1)*11=y.cs.length+k*11 by omega,List.take_length_add_append,show y.cs.length+k*11+11=y.cs.length+(k*11+11) by omega,List.drop_length_add_append,xt]
theorem zfs {a:List Value}(c:List Value)(o:Nat)(h:w.heap[b]?=some (.cells a.toArray t (0,0)))(g:o+c.length≤a.length):
  (w.setCells b o c).heap[b]?=some (.cells (a.take o++(c++a.drop (o+c.length))).toArray t (0,0)):=by
 induction c generalizing w o a with
 | nil =>
  have:w.setCells b o []=w:=rfl;rw [this,h];simp
 | cons v c i =>
  have e:w.setCells b o (v::c)=(w.setCell ⟨b,o,none⟩ v).setCells b (o+1) c:=rfl;simp only [y9] at g;have d:(w.setCell ⟨b,o,none⟩ v).heap[b]?=some (.cells (a.set o v).toArray t (0,0)):=by
   have:=zqj w b o a.toArray t v h;simpa using this
  rw [e,i (o+1) d (by simp;omega)];congr 3;rw [List.set_eq_take_append_cons_drop,if_pos (by omega)];have j:(a.take o).length=o:=by simp;omega
  have f:o+1=(a.take o).length+1:=by omega
  rw [y9,show(a.take o++v::a.drop (o+1)).take (o+1)=a.take o++[v] by
   rw [f,List.take_length_add_append];simp]
  rw [show(a.take o++v::a.drop (o+1)).drop (o+1+c.length)=a.drop (o+(c.length+1)) by
   rw [show o+1+c.length=(a.take o).length+(c.length+1) by omega,List.drop_length_add_append,znt,List.drop_drop];congr 1;omega]
  simp
theorem zar (a:List Value)(o:Nat)(h:k≠b):(w.setCells b o a).heap[k]?=w.heap[k]?:=by
 induction a generalizing w o with
 | nil=>rfl
 | cons v a c =>
  have e:w.setCells b o (v::a)=(w.setCell ⟨b,o,none⟩ v).setCells b (o+1) a:=rfl;rw [e,c,yh _ _ _ _ h]
theorem zdu (a:List Value)(o:Nat):(w.setCells b o a).heap.size=w.heap.size:=by
 induction a generalizing w o with
 | nil=>rfl
 | cons v a c =>
  have e:w.setCells b o (v::a)=(w.setCell ⟨b,o,none⟩ v).setCells b (o+1) a:=rfl;rw [e,c];simp [World.setCell]
theorem zl4 (a:List Value)(o:Nat):(w.setCells b o a).os=w.os∧(w.setCells b o a).tape=w.tape∧(w.setCells b o a).output=w.output:=by
 induction a generalizing w o with
 | nil=>exact⟨rfl,rfl,rfl⟩
 | cons v a c =>
  have e:w.setCells b o (v::a)=(w.setCell ⟨b,o,none⟩ v).setCells b (o+1) a:=rfl;rw [e];exact c (w:=w.setCell ⟨b,o,none⟩ v) (o+1)
theorem zq.setCells (h:zq O T a w){c:Array Value}{x:Nat×Nat}(g:jz O a w b)(e:w.heap[b]?=some (.cells c t x))(i:t∈T)(f:List Value)(o:Nat):zq O T a (w.setCells b o f):=by
 obtain⟨j,l,m⟩:=zl4 (w:=w) (b:=b) f o;refine h.trans ⟨j,l,m,by rw [zdu];exact zm _,fun k n=>?_⟩
 by_cases d:k=b
 ·subst d;exact .inr ⟨g,.inl ⟨c,t,x,e,i⟩⟩
 ·exact .inl (zar f o d)
theorem xn (a:Below B w0 w)(h:B≤b)(c:List Value)(o:Nat):Below B w0 (w.setCells b o c):=by
 obtain⟨e,f,g⟩:=zl4 (w:=w) (b:=b) c o;exact⟨e.trans a.os,f.trans a.tape,g.trans a.output,by rw [zdu];exact a.size,fun k d=>by rw [zar c o (by omega)];exact a.block k d⟩
abbrev xg:Nat:=154
abbrev zbk:Nat:=152
abbrev zrf:Nat:=110
def yu (w:World)(fb:Nat)(xs:List Px):Prop:=w.heap[fb]?=some (.cells (vf xs).toArray xg (0,0))
theorem yu.cell {a:List Px}(h:yu w fb a)(d:∀ x∈a,x.ok)(c:k < a.length)(b:j < 11)(hv:a[k].cs[j]?=some v):
  w.cell? ⟨fb,k*11+j,none⟩=some v∧w.frozen? ⟨fb,k*11+j,none⟩=false :=
 zw h _ v (by rw [jw,ym6 d k c j b];exact hv)
theorem yu.piece {a:List Px}(h:yu w fb a)(d:∀ x∈a,x.ok)(c:k < a.length):w.rangeAt fb (k*11) a[k].cs:=by
 intro j v hv;have b:j < a[k].cs.length:=(xy.1 hv).1;rw [Px.cs_len (d _ (yd c))] at b;exact(h.cell d c b hv).1
theorem yu.hash {xs:List Px}(h:yu w fb xs)(c:∀ x∈xs,x.ok)(b:k < xs.length):w.rangeAt fb (k*11+2) (xs[k].hash.map bv):=by
 intro j v hv;have a:j < (xs[k].hash.map bv).length:=(xy.1 hv).1;have d:=(c _ (yd b)).1;simp only [yi] at a;rw [zes];refine(h.cell c b (j:=2+j) (by omega) ?_).1;unfold Px.cs;rw [show 2+j=j+1+1 by omega,zac,zac,qd (by simpa using a)];exact hv
theorem yu.there {xs:List Px}(h:yu w fb xs)(b:∀ x∈xs,x.ok)(a:k < xs.length){n:Nat}(e:o+n≤11):w.there fb (k*11+o) n:=by
 intro j c;have d:=Px.cs_len (b _ (yd a));rw [zes];have:=h.cell b a (j:=o+j) (by omega) (v:=xs[k].cs[o+j]'(by omega)) (zt _);exact⟨by rw [this.1];rfl,this.2⟩
theorem yu.set {a:List Px}(h:yu w fb a)(c:∀ x∈a,x.ok)(e:k < a.length){x:Px}(b:x.ok):yu (w.setCells fb (k*11) x.cs) fb (a.set k x):=by
 unfold yu;have f:=zpo c;have d:=Px.cs_len b;rw [zfs x.cs (k*11) h (by omega),zrl c k e x b,d]
theorem ztn {a:List Px}(c:∀ x∈a,x.ok)(k:Nat){x:Px}(b:x.ok):∀ y∈a.set k x,y.ok:=fun y d=>by
 rcases List.mem_or_eq_of_mem_set d with h | h
 ·exact c y h
 ·rw [h];exact b
theorem yu.set1 {a:List Px}(h:yu w fb a)(c:∀ x∈a,x.ok)(d:k < a.length){x:Px}(m:j < 11)(g:x.ok)(e:x.cs=a[k].cs.set j v):yu (w.setCell ⟨fb,k*11+j,none⟩ v) fb (a.set k x):=by
 unfold yu;have f:(w.setCell ⟨fb,k*11+j,none⟩ v).heap[fb]?=some (.cells ((vf a).set (k*11+j) v).toArray xg (0,0)):=by
  have:=zqj w fb (k*11+j) (vf a).toArray xg v h;simpa using this
 rw [f,zrl c k d x g,e];congr 3;have n:=zpo c;have l:=Px.cs_len (c _ (yd d));have b:vf a=(vf a).take (k*11)++(a[k].cs++(vf a).drop (k*11+11)):=by
  have:=zrl c k d a[k] (c _ (yd d));rw [List.set_getElem_self] at this;exact this
 have i:((vf a).take (k*11)).length=k*11:=by simp;omega
 conv=>lhs;rw [b]
 rw [List.set_append_right _ _ (by omega),i,zc1,List.set_append_left _ _ (by omega)]
end Go.Proofs.YtlcllcgngjhoaaaGreatDoor
