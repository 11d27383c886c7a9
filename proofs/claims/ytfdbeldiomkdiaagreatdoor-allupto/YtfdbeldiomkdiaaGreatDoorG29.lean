import Derived.Test.YtfdbeldiomkdiaaGreatDoorG28
set_option maxHeartbeats 8000000
set_option maxRecDepth 100000
set_option linter.all false
namespace Go.Proofs.YtfdbeldiomkdiaaGreatDoor
open Go.RowKit Go.Proofs.Tryz
def Pz:=@run_storeAt_mid
def Rz:=@run_loadAt_mid
variable {L:EJ}{eb nb o:Nat}{nx pv:Nat->Nat}{w:World}
section
def KI (a:Int)(L:EJ):EJ:=if a<(L.length:Int) then L.tail else L
def Yw (L:EJ)(b:Nat)(p:Pl)(v:List Value):EJ.ks (L++[(b,p,v)])=L.ks++[(p,b)]:=by simp[EJ.ks]
def Uz (L:EJ)(p:Pl):(L.drop p).get p=none:=by
 unfold EJ.get EJ.drop;have:(L.filter λx=>!decide (x.2.1=p)).find? (λx=>decide (x.2.1=p))=none:=by
  rw[Bj];intro x a;have:=(CX.1 a).2;simpa using this
 rw[this]
def KE.add {p:Pl}{v:List Value}(hv:v.length=44)(i:∀x∈v,x.oneCell'=true)(h:KE w eb L nx pv)(m:w.heap[nb]?=some (.cells (Nz p v (pv eb) eb) Gu (0,0)))(a:nb∉eb::L.map (·.1)):
  KE ((w.setCell ⟨pv eb,48,none⟩ (.pointer (some ⟨nb,0,none⟩))).setCell ⟨eb,47,none⟩ (.pointer (some ⟨nb,0,none⟩))) eb (L++[(nb,p,v)]) (EY (EY nx (pv eb) nb) nb eb) (EY (EY pv eb nb) nb (pv eb)):=by
 have k:=h.aD;have g:nb≠pv eb:=λe=>a (e▸k.aO);have f:nb≠eb:=λe=>a (by simp[e]);have j:∀{c:Nat}{q:Pl}{u:List Value},c≠nb->u.length=44->w.heap[c]?=some (.cells (Nz q u (pv c) (nx c)) Gu (0,0))->((w.setCell ⟨pv eb,48,none⟩ (.pointer (some ⟨nb,0,none⟩))).setCell ⟨eb,47,none⟩ (.pointer (some ⟨nb,0,none⟩))).heap[c]?=some (.cells (Nz q u (EY (EY pv eb nb) nb (pv eb) c) (EY (EY nx (pv eb) nb) nb eb c)) Gu (0,0)):=by
  intro c q u d l e;rw[Bi _ nb _ c d,Bi _ nb _ c d];exact YZ l (R5 l e)
 refine⟨j f.symm E8 h.ends,λx b=>?_,?_,λx b=>?_⟩
 ·rcases yj.1 b with b|b
  ·exact j (λe=>a (by rw[<- e];exact BV _ (yi.2 ⟨x,b,rfl⟩))) (h.len x b).1 (h.link x b)
  ·obtain rfl:x=(nb,p,v):=by simpa using b
   simp only;rw[Dh,Dh,yh _ _ _ _ f,yh _ _ _ _ g];exact m
 ·rw[yv];exact k.add a
 ·rcases yj.1 b with b|b
  ·exact h.len x b
  ·obtain rfl:x=(nb,p,v):=by simpa using b
   exact⟨hv,i⟩
def SP (V:Value):Sem Value:=Instr.loadAt 219 V
def j9 (V:Value):Instr.loadAt 219 V=SP V:=rfl
def Es {b:Nat}{a:List Value}(h:w.rangeAt b o a)(c:a.length=44):(SP (.pointer (some ⟨b,o,none⟩))).run prog w=.ok (.agg a.toArray) w:=
 Rz w b o _ a _ h underlying219 rfl (by rw[Ds,c])
def Z8 (parts:Array (Nat×Value)):Sem Value:=Instr.build Gu parts
def Ub (parts:Array (Nat×Value)):Instr.build Gu parts=Z8 parts:=rfl
def xu {n:Nat}{v:List Value}(h:v.length=n+1):∃x r,v=x::r/\r.length=n:=by
 cases v with
 |nil=>simp at h
 |cons x r=>exact⟨x,r,rfl,by simpa using h⟩
def zng (v:List Value)(h:v.length=44):∃x0 x1 x2 x3 x4 x5 x6 x7 x8 x9 a b c d e f g i j k l m n o p q r s t u w x y z A B C D E F G H I J:Value,v=[x0,x1,x2,x3,x4,x5,x6,x7,x8,x9,a,b,c,d,e,f,g,i,j,k,l,m,n,o,p,q,r,s,t,u,w,x,y,z,A,B,C,D,E,F,G,H,I,J]:=by
 obtain⟨x0,r0,e0,h0⟩:=xu h;obtain⟨x1,r1,e1,h1⟩:=xu h0;obtain⟨x2,r2,e2,h2⟩:=xu h1;obtain⟨x3,r3,e3,h3⟩:=xu h2;obtain⟨x4,r4,e4,h4⟩:=xu h3;obtain⟨x5,r5,e5,h5⟩:=xu h4;obtain⟨x6,r6,e6,h6⟩:=xu h5;obtain⟨x7,r7,e7,h7⟩:=xu h6;obtain⟨x8,r8,e8,h8⟩:=xu h7;obtain⟨x9,r9,e9,h9⟩:=xu h8;obtain⟨a,a5,K,aw⟩:=xu h9;obtain⟨b,a6,L,ay⟩:=xu aw;obtain⟨c,a7,M,az⟩:=xu ay;obtain⟨d,a8,N,aA⟩:=xu az;obtain⟨e,a9,O,aB⟩:=xu aA;obtain⟨f,ba,P,aC⟩:=xu aB;obtain⟨g,bb,Q,aD⟩:=xu aC;obtain⟨i,bc,R,aE⟩:=xu aD;obtain⟨j,bd,S,aF⟩:=xu aE;obtain⟨k,be,T,aG⟩:=xu aF;obtain⟨l,bf,U,ax⟩:=xu aG;obtain⟨m,bg,V,aH⟩:=xu ax;obtain⟨n,bh,W,aI⟩:=xu aH;obtain⟨o,bi,X,aJ⟩:=xu aI;obtain⟨p,bj,Y,aK⟩:=xu aJ;obtain⟨q,bk,Z,aL⟩:=xu aK;obtain⟨r,bl,aa,aM⟩:=xu aL;obtain⟨s,bm,ab,aN⟩:=xu aM;obtain⟨t,bn,ad,aO⟩:=xu aN;obtain⟨u,bo,ae,aP⟩:=xu aO;obtain⟨w,bp,af,aQ⟩:=xu aP;obtain⟨x,bq,ag,aR⟩:=xu aQ;obtain⟨y,br,ah,aS⟩:=xu aR;obtain⟨z,bs,ai,aU⟩:=xu aS;obtain⟨A,bt,aj,aV⟩:=xu aU;obtain⟨B,bu,ak,aW⟩:=xu aV;obtain⟨C,bw,al,aX⟩:=xu aW;obtain⟨D,bx,am,aY⟩:=xu aX;obtain⟨E,bz,an,aZ⟩:=xu aY;obtain⟨F,bA,ao,a0⟩:=xu aZ;obtain⟨G,bB,ap,a1⟩:=xu a0;obtain⟨H,bC,aq,a2⟩:=xu a1;obtain⟨I,bD,ar,a3⟩:=xu a2;obtain⟨J,bE,au,a4⟩:=xu a3;have av:=vw.1 a4;refine⟨x0,x1,x2,x3,x4,x5,x6,x7,x8,x9,a,b,c,d,e,f,g,i,j,k,l,m,n,o,p,q,r,s,t,u,w,x,y,z,A,B,C,D,E,F,G,H,I,J,?_⟩;rw[e0,e1,e2,e3,e4,e5,e6,e7,e8,e9,K,L,M,N,O,P,Q,R,S,T,U,V,W,X,Y,Z,aa,ab,ad,ae,af,ag,ah,ai,aj,ak,al,am,an,ao,ap,aq,ar,au,av]
def XT (p:Pl)(v:List Value)(h:v.length=44)(o n:Nat)(w:World):
  (Z8 #[(0,.agg #[.int .i64 p.1,.int .i64 p.2.1,.int .i64 p.2.2]),(1,.agg v.toArray),(2,.pointer (some ⟨o,0,none⟩)),(3,.pointer (some ⟨n,0,none⟩))]).run prog w=.ok (.agg (Nz p v o n)) w:=by
 obtain⟨O,P,Q,R,S,T,U,V,W,X,a,b,c,d,e,f,g,i,j,k,l,m,q,r,s,t,u,x,y,z,A,B,C,D,E,F,G,H,I,J,K,L,M,N,rfl⟩:=zng v h
 kernel_rfl
def zb2 (v:List Value)(h:v.length=44):(prog.info? 219).map (·.size)=some v.length:=by rw[Ds,h]
attribute [local go_sem ↓] j9 Ub
def zie (O:Nat->Prop)(G:Nat)(f:Int)(L:EJ)(p:Pl)(hp:FV p)(v:List Value)(hv:v.length=44)(aG:∀x∈v,x.oneCell'=true)(w:World)(h:G0 w O G f L)(hn:L.length<=1000000000000):
  Calls prog 232 #[yu G,Fc p,.agg v.toArray] w λr t=>r=.returned (.tuple #[])/\zl O [Gu] w t/\∃d,w.heap.size<=d/\d<t.heap.size/\G0 t (qv O w t) G f (KI f (L.drop p++[(d,p,v)])):=by
 have HD:=ze (SF O G f L p hp ((w.alloc (.cells #[.int .i64 p.1,.int .i64 p.2.1,.int .i64 p.2.2] 215)).alloc (.cells v.toArray 219)) (h.below (qg w _ _) (λ_ h=>h)));have HP:=ze hp;have HN:Hid ((L.drop p).length<=1000000000000):=zt (BL _ _) hn;have av:=ze (Uz L p);have HV:=ze (And.intro hv aG);clear h hp hn hv aG;generalize L.drop p=Y at *;unfold Fc yu at *;go_enter func232,ntmps232;go_wp2_with fail;refine HD.o.mono ?_;rintro r B ⟨rfl,ad,aN⟩;have R:B.heap[w.heap.size]?=some (.cells #[.int .i64 p.1,.int .i64 p.2.1,.int .i64 p.2.2] 215 (0,0)):=ad.keep (zr (zf w _)) (by decide);have aF:B.heap[w.heap.size+1]?=some (.cells v.toArray 219 (0,0)):=ad.keep (by have:=zf (w.alloc (.cells #[.int .i64 p.1,.int .i64 p.2.1,.int .i64 p.2.2] 215)) (.cells v.toArray 219);simpa using this) (by decide);have am:Hid (zl O [Gu] w B):=(zl.aa (qg w _ _)).trans (ad.mono (λk hk=>.inl hk) (λ_ h=>h));obtain⟨K,a,nx,i,M⟩:=aN;have HM:=ze M;have e2:B.cell? ⟨G,2,none⟩=some (.pointer (some ⟨a,0,none⟩)):=(zm M.mem 2 _ rfl).1;have e4:B.cell? ⟨a,47,none⟩=some (.pointer (some ⟨i a,0,none⟩)):=(zm M.ring.ends 47 _ (SO E8)).1;have k0:B.cell? ⟨w.heap.size,0,none⟩=some (.int .i64 p.1):=(zm R 0 _ rfl).1;have k1:B.cell? ⟨w.heap.size,1,none⟩=some (.int .i64 p.2.1):=(zm R 1 _ rfl).1;have k2:B.cell? ⟨w.heap.size,2,none⟩=some (.int .i64 p.2.2):=(zm R 2 _ rfl).1;have rr:B.rangeAt (w.heap.size+1) 0 v:=vv aF;have ag:=ze R;have z0:¬G=B.heap.size:=by have:=zg M.mem;omega
 have z1:¬a=B.heap.size:=by have:=zg M.ring.ends;omega
 have z2:¬w.heap.size=B.heap.size:=by have:=zg R;omega
 have hu:=underlying219;have hi:=zb2 v HV.o.1;have an:=HV.o.1;have aE:=HV.o.2;have Z:=XT p v HV.o.1 (i a) a;have ay:Hid (∀t,t=B.drew->(SP (.pointer (some ⟨w.heap.size+1,0,none⟩))).run prog t=.ok (.agg v.toArray) t):=λt e=>by subst e;exact Es (by simpa using rr) an
 have ax:Hid (∀o,(SP (.pointer (some ⟨w.heap.size+1,0,none⟩))).run prog (B.alloc o).drew=.ok (.agg v.toArray) (B.alloc o).drew):=λo=>Es (by simpa using World.rangeAt_alloc rr o) an;clear HD M R ad aF rr hu hi an aE
 go_wp2
 go_region_held3 (λt=>t.cell? ⟨G,2,none⟩=some (.pointer (some ⟨a,0,none⟩))/\t.cell? ⟨a,47,none⟩=some (.pointer (some ⟨i a,0,none⟩))/\t.cell? ⟨w.heap.size,0,none⟩=some (.int .i64 p.1)/\t.cell? ⟨w.heap.size,1,none⟩=some (.int .i64 p.2.1)/\t.cell? ⟨w.heap.size,2,none⟩=some (.int .i64 p.2.2)/\(SP (.pointer (some ⟨w.heap.size+1,0,none⟩))).run prog t=.ok (.agg v.toArray) t) ((first|(refine⟨?_,?_,?_,?_,?_,ay.o _ rfl⟩<;>go_keep)|(refine⟨?_,?_,?_,?_,?_,ax.o _⟩<;>go_keep))) (fail)
 rename_i z;clear z z0 z1 z2 e2 e4 k0 k1 k2 ay ax Z;have N:Hid (zc B (B.alloc (.cells (Nz p v (i a) a) Gu)).drew):=(zi _ _).drew;have S:Hid ((B.alloc (.cells (Nz p v (i a) a) Gu)).drew.heap[B.heap.size]?=some (.cells (Nz p v (i a) a) Gu (0,0))):=zf _ _;generalize (B.alloc (.cells (Nz p v (i a) a) Gu)).drew=E at *;have aj:Hid (w.heap.size<=B.heap.size):=am.o.size;have b:Hid (Fa E O G K a nx i f Y):=by
  have M:=HM.o;refine⟨M.own,(N.o.block _ (zg M.mem)).trans M.mem,M.ring.same λk c e=>N.o.block k (zg e),M.map.same (N.o.block _ M.map.lt),M.ok⟩
 have az:Hid (zl O [Gu] w E):=am.o.ah N.o;have ai:Hid (E.heap[w.heap.size]?=some (.cells #[.int .i64 p.1,.int .i64 p.2.1,.int .i64 p.2.2] 215 (0,0))):=(N.o.block _ (zg ag.o)).trans ag.o;have X:Hid (B.heap.size∉a::Y.map (·.1)):=by
  intro m;rcases jl.1 m with e|e
  ·have:=zg HM.o.ring.ends;omega
  ·obtain⟨x,m,ex⟩:=yi.1 e;have:=zg (HM.o.ring.link x m);omega
 clear am HM ag N;generalize B.heap.size=d at *;have Q:∃q u,u.length=44/\E.heap[i a]?=some (.cells (Nz q u (i (i a)) (nx (i a))) Gu (0,0)):=by
  rcases jl.1 b.o.ring.aD.aO with e|e
  ·rw[e];exact⟨_,_,E8,b.o.ring.ends⟩
  ·obtain⟨x,m,ex⟩:=yi.1 e;rw[<- ex];exact⟨_,_,(b.o.ring.len x m).1,b.o.ring.link x m⟩
 obtain⟨q,u,ao,Q⟩:=Q;have oP:Hid (O (i a)):=by
  rcases jl.1 b.o.ring.aD.aO with e|e
  ·rw[e];exact b.o.own.2.2.1
  ·obtain⟨x,m,ex⟩:=yi.1 e;rw[<- ex];exact b.o.own.2.2.2 x m
 have n4:E.cell? ⟨d,47,none⟩=some (.pointer (some ⟨i a,0,none⟩)):=(zm S.o 47 _ (SO HV.o.1)).1;have n5:E.cell? ⟨d,48,none⟩=some (.pointer (some ⟨a,0,none⟩)):=(zm S.o 48 _ (SN HV.o.1)).1;have p5:E.cell? ⟨i a,48,none⟩=some (.pointer (some ⟨nx (i a),0,none⟩)):=(zm Q 48 _ (SN ao)).1;have g5:E.frozen? ⟨i a,48,none⟩=false:=(zm Q 48 _ (SN ao)).2;have e4:E.cell? ⟨a,47,none⟩=some (.pointer (some ⟨i a,0,none⟩)):=(zm b.o.ring.ends 47 _ (SO E8)).1;have g4:E.frozen? ⟨a,47,none⟩=false:=(zm b.o.ring.ends 47 _ (SO E8)).2;have z0:¬i a=d:=λe=>X.o (e▸b.o.ring.aD.aO);have z1:¬a=d:=λe=>X.o (by simp[e]);have al:=ze Q;clear Q ao
 go_wp2
 go_region_held3 (λt=>t.cell? ⟨d,47,none⟩=some (.pointer (some ⟨i a,0,none⟩))/\t.cell? ⟨d,48,none⟩=some (.pointer (some ⟨a,0,none⟩))) (go_keep) (fail)
 rename_i z;clear z
 have HR:Hid (zl O [Gu] w ((E.setCell ⟨i a,48,none⟩ (.pointer (some ⟨d,0,none⟩))).setCell ⟨a,47,none⟩ (.pointer (some ⟨d,0,none⟩))).drew/\KE ((E.setCell ⟨i a,48,none⟩ (.pointer (some ⟨d,0,none⟩))).setCell ⟨a,47,none⟩ (.pointer (some ⟨d,0,none⟩))).drew a (Y++[(d,p,v)]) (EY (EY nx (i a) d) d a) (EY (EY i a d) d (i a)) /\
   (d<((E.setCell ⟨i a,48,none⟩ (.pointer (some ⟨d,0,none⟩))).setCell ⟨a,47,none⟩ (.pointer (some ⟨d,0,none⟩))).drew.heap.size) /\
   ∀(k:Nat),(∀c:Array Value,E.heap[k]?≠some (Obj.cells c Gu (0,0)))->((E.setCell ⟨i a,48,none⟩ (.pointer (some ⟨d,0,none⟩))).setCell ⟨a,47,none⟩ (.pointer (some ⟨d,0,none⟩))).drew.heap[k]?=E.heap[k]?):=by
  refine⟨?_,(b.o.ring.add HV.o.1 HV.o.2 S.o X.o).same λk c _=>rfl,?_,?_⟩
  ·have t1:zl O [Gu] w (E.setCell ⟨i a,48,none⟩ (.pointer (some ⟨d,0,none⟩))):=az.o.set (.inl oP.out) al.o (by simp) _;exact(t1.set (.inl b.o.own.2.2.1) (R5 E8 b.o.ring.ends) (by simp) _).drew
  ·have:=zg S.o;simpa[World.setCell,World.drew]using this
  ·intro k hk;have e1:k≠a:=λe=>hk _ (e▸b.o.ring.ends);have e2:k≠i a:=λe=>hk _ (e▸al.o);show((E.setCell _ _).setCell _ _).heap[k]?=_;rw[yh _ _ _ _ e1,yh _ _ _ _ e2]
 generalize ((E.setCell ⟨i a,48,none⟩ (.pointer (some ⟨d,0,none⟩))).setCell ⟨a,47,none⟩ (.pointer (some ⟨d,0,none⟩))).drew=W at *;clear n4 n5 p5 g5 e4 g4 z0 z1 al oP;have A:W.heap[G]?=some (.cells #[.int .i64 f,.map (some K),yu a] MeP (0,0)):=by
  rw[HR.o.2.2.2 G (λc e=>by rw[b.o.mem]at e;simp only[zn,An]at e;exact absurd e.2.1 (by decide))];exact b.o.mem
 have j:W.heap[w.heap.size]?=some (.cells #[.int .i64 p.1,.int .i64 p.2.1,.int .i64 p.2.2] 215 (0,0)):=by
  rw[HR.o.2.2.2 w.heap.size (λc e=>by rw[ai.o]at e;simp only[zn,An]at e;exact absurd e.2.1 (by decide))];exact ai.o
 have I:BC W.drew K Y.ks:=by
  refine b.o.map.same ?_;show W.heap[K]?=_;refine HR.o.2.2.2 K (λc e=>b.o.map.not e rfl)
 have aC:Y.ks.get p=none:=by rw[Nw,av.o];rfl
 obtain⟨C,af,U,l⟩:=I.put underlying284 HP.o (by have:=HN.o;unfold maxLen;simp[EJ.ks];omega) aC d;unfold Fc yu at af;have H:W.grownBy C (some K):=⟨l.os,l.tape,l.output,l.size,l.block⟩;have T:BC W K Y.ks:=I.same rfl;have J:=(H.block G (zg A) (T.not A)).trans A;have F:=(H.block w.heap.size (zg j) (T.not j)).trans j;have a1:W.cell? ⟨G,1,none⟩=some (.map (some K)):=(zm A 1 _ rfl).1;have b0:W.cell? ⟨w.heap.size,0,none⟩=some (.int .i64 p.1):=(zm j 0 _ rfl).1;have b1:W.cell? ⟨w.heap.size,1,none⟩=some (.int .i64 p.2.1):=(zm j 1 _ rfl).1;have b2:W.cell? ⟨w.heap.size,2,none⟩=some (.int .i64 p.2.2):=(zm j 2 _ rfl).1;have c1:C.cell? ⟨G,1,none⟩=some (.map (some K)):=(zm J 1 _ rfl).1;have d0:C.cell? ⟨w.heap.size,0,none⟩=some (.int .i64 p.1):=(zm F 0 _ rfl).1;have d1:C.cell? ⟨w.heap.size,1,none⟩=some (.int .i64 p.2.1):=(zm F 1 _ rfl).1;have d2:C.cell? ⟨w.heap.size,2,none⟩=some (.int .i64 p.2.2):=(zm F 2 _ rfl).1;have g:Hid (Fa C (qv O w C) G K a (EY (EY nx (i a) d) d a) (EY (EY i a d) d (i a)) f (Y++[(d,p,v)])):=by
  refine⟨⟨.inl b.o.own.1,.inl b.o.own.2.1,.inl b.o.own.2.2.1,λx m=>?_⟩,J,HR.o.2.1.same λk c e=>H.block k (zg e) (T.not e),by rw[Yw];exact U,λx m=>?_⟩
  ·rcases yj.1 m with m|m
   ·exact .inl (b.o.own.2.2.2 x m)
   ·obtain rfl:x=(d,p,v):=by simpa using m
    exact .inr ⟨aj.o,zq HR.o.2.2.1 H.size⟩
  ·rcases yj.1 m with m|m
   ·exact b.o.ok x m
   ·obtain rfl:x=(d,p,v):=by simpa using m
    exact HP.o
 have aA:Hid (zl O [Gu] w C):=HR.o.1.map (.inl b.o.own.2.1) T H;have aw:Hid (d<C.heap.size):=zq HR.o.2.2.1 H.size;clear A j I aC U l H T J F b az ai X S HR
 go_wp2
 go_region_held3 (λt=>t.cell? ⟨G,1,none⟩=some (.map (some K))/\t.cell? ⟨w.heap.size,0,none⟩=some (.int .i64 p.1)/\t.cell? ⟨w.heap.size,1,none⟩=some (.int .i64 p.2.1)/\t.cell? ⟨w.heap.size,2,none⟩=some (.int .i64 p.2.2)) (go_keep) (fail)
 rename_i z;clear z af a1 b0 b1 b2 d0 d1 d2 av;generalize EY (EY nx (i a) d) d a=aq at *;generalize EY (EY i a d) d (i a)=aH at *;have aJ:Hid (Y++[(d,p,v)]≠[]):=by show _≠_;simp
 generalize aB:Y++[(d,p,v)]=P at *;have au:=ze aB;clear aB;have aP:∀n ty,(Builtin.len_ #[284] ty #[.map (some K)]).run prog (C.drewN n)=.ok (.int .i64 (P.length:Int)) (C.drewN n):=λn ty=>by
  have:=(g.o.map.same (w':=C.drewN n) rfl).len underlying284 ty;rw[this];simp[EJ.ks]
 have r0:C.cell? ⟨G,0,none⟩=some (.int .i64 f):=(zm g.o.mem 0 _ rfl).1
 by_cases hc:f<(P.length:Int)
 ·have ak:Hid (KI f P=P.tail):=if_pos hc;have r2:C.cell? ⟨G,2,none⟩=some (.pointer (some ⟨a,0,none⟩)):=(zm g.o.mem 2 _ rfl).1;obtain⟨x,L5,eL⟩:∃x r,P=x::r:=by
   cases h:P with
   |nil=>exact absurd h aJ.o
   |cons x r=>exact⟨x,r,rfl⟩
  have ae:aq a=x.1:=by
   have:=g.o.ring.aD;rw[eL,j4]at this;exact this.first.1
  have m:=g.o.ring.link x (by rw[eL];simp);have r5:C.cell? ⟨a,48,none⟩=some (.pointer (some ⟨x.1,0,none⟩)):=by
   have:=(zm g.o.ring.ends 48 _ (SN E8)).1;rw[ae]at this;exact this
  have x0:C.cell? ⟨x.1,0,none⟩=some (.int .i64 x.2.1.1):=(zm m 0 _ rfl).1;have x1:C.cell? ⟨x.1,1,none⟩=some (.int .i64 x.2.1.2.1):=(zm m 1 _ rfl).1;have x2:C.cell? ⟨x.1,2,none⟩=some (.int .i64 x.2.1.2.2):=(zm m 2 _ rfl).1;have aM:=ze (g.o.ok x (by rw[eL];simp));have aL:Hid (P.drop x.2.1=P.tail):=by
   show _=_;obtain⟨D,-,-,ab,-⟩:=g.o.map;rw[eL]at ab ⊢;unfold EJ.ks at ab;rw[EG,j4,AK]at ab;unfold EJ.drop;rw[Jn];simp only[decide_true,Bool.not_true,vz,CM,List.tail_cons];rw[Ay];intro y hy;have:y.2.1≠x.2.1:=λe=>ab.1 (yi.2 ⟨y,hy,e⟩);simpa using this
  clear eL ae m;have ar:=ze (λn=>SF (qv O w C) G f P x.2.1 aM.o (C.drewN n) ⟨K,a,aq,aH,⟨g.o.own,g.o.mem,g.o.ring.same λ_ _ _=>rfl,g.o.map.same rfl,g.o.ok⟩⟩);unfold Fc yu at ar;obtain⟨xb,⟨xl,xi,xw⟩,xv⟩:=x
  go_wp2
  go_quiet (fail)
  go_wp2_with fail;refine(ar.o _).mono ?_;rintro r w5 ⟨rfl,ap,s⟩;rw[aL.o]at s;have aK:Hid (zl O [Gu] w w5):=aA.o.trans (ap.mono (λ_ h=>h) (λ_ h=>h)).bG;have V:C.heap.size<=w5.heap.size:=ap.size;obtain⟨h5,e5,n5,p5,s⟩:=s;have aI:Hid (G0 w5 (qv O w w5) G f P.tail):=⟨h5,e5,n5,p5,⟨⟨qv.more V _ s.own.1,qv.more V _ s.own.2.1,qv.more V _ s.own.2.2.1,λx m=>qv.more V _ (s.own.2.2.2 x m)⟩,s.mem,s.ring,s.map,s.ok⟩⟩;clear ap s
  go_wp2
  go_end0
  exact⟨rfl,aK.o,d,aj.o,zq aw.o V,by rw[au.o,ak.o];exact aI.o⟩
 ·have ak:Hid (KI f P=P):=if_neg hc;have aQ:(P.length:Int)<=f:=by omega
  go_wp2
  go_quiet (fail)
  go_wp2
  go_end0
  exact⟨rfl,aA.o.drewN _,d,aj.o,aw.o,by rw[au.o,ak.o];exact⟨K,a,aq,aH,⟨g.o.own,g.o.mem,g.o.ring.same λ_ _ _=>rfl,g.o.map.same rfl,g.o.ok⟩⟩⟩
end
def VP (O:Nat->Prop)(k s d:Nat)(q:Int)(l:Ks)(o n:Option Addr)(w:World)(F:O k/\O s/\O d)(h:w.heap[k]?=some (.cells #[.int .i64 q,.map (some s),yu d] MeP (0,0)))
 (i:w.heap[d]?=some (.cells ((.int .i64 0:: .int .i64 0:: .int .i64 0::(Wx++[.pointer o,.pointer n])).toArray) Gu (0,0))) (b:BC w s l) :
  Calls prog 182 #[yu k] w λr C=>r=.returned (.tuple #[])/\zl O [Gu] w C/\G0 C O k q []/\C.heap.size=w.heap.size:=by
 obtain⟨p,A,j,f⟩:=b.clear underlying284 0;have B:p.heap.size=w.heap.size:=by
  obtain⟨P,c,I⟩:=b.isMap;have e:=A;simp[Builtin.clear_,Cj underlying284,Ik I,Il _ I,Result.andThen]at e;rw[<- e];simp
 have g:=(f.block k (zg h) (b.not h)).trans h;have a:=(f.block d (zg i) (b.not i)).trans i;have S:w.cell? ⟨k,1,none⟩=some (.map (some s)):=(zm h 1 _ rfl).1;have T:p.cell? ⟨k,2,none⟩=some (.pointer (some ⟨d,0,none⟩)):=(zm g 2 _ rfl).1;have M:p.cell? ⟨d,47,none⟩=some (.pointer o):=(zm a 47 (.pointer o) rfl).1;have Q:p.frozen? ⟨d,47,none⟩=false:=(zm a 47 (.pointer o) rfl).2;have N:p.cell? ⟨d,48,none⟩=some (.pointer n):=(zm a 48 (.pointer n) rfl).1;have R:p.frozen? ⟨d,48,none⟩=false:=(zm a 48 (.pointer n) rfl).2;have L:¬d=k:=λe=>by
  have H:some (Obj.cells _ _ _)=some (Obj.cells _ _ _):=a.symm.trans (by rw[e];exact g);simp only[zn,An]at H;exact absurd H.2.1 (by decide)
 have J:¬k=d:=λe=>L e.symm;have y:=ze F;have v:=ze j;have E:Hid (zl O [Gu] w p):=(zl.refl O [Gu] w).map (.inl F.2.1) b f;have m:=ze (And.intro g a);have D:=ze B;unfold yu;clear F b h i j f g a B;go_enter func182,ntmps182
 go_wp2
 go_region_held3 (λC=>C.cell? ⟨k,2,none⟩=some (.pointer (some ⟨d,0,none⟩))) (go_keep) (fail)
 rename_i t;clear t
 go_wp2
 go_end0
 have z:=Aw m.o.2 47 (.pointer (some ⟨d,0,none⟩));have G:=Aw z 48 (.pointer (some ⟨d,0,none⟩));refine⟨rfl,((E.o.set (.inl y.o.2.2) m.o.2 (by simp) _).set (.inl y.o.2.2) z (by simp) _).drew,⟨s,d,λ_=>d,λ_=>d,⟨y.o.1,y.o.2.1,y.o.2.2,λx u=>by simp at u⟩,?_,⟨G,λx u=>by simp at u,Oc d,λx u=>by simp at u⟩,?_,λx u=>by simp at u⟩,?_⟩
 ·show((p.setCell _ _).setCell _ _).heap[k]?=_;rw[yh _ _ _ _ J,yh _ _ _ _ J];exact m.o.1
 ·refine v.o.same ?_;show((p.setCell _ _).setCell _ _).heap[s]?=_;have K:s≠d:=λe=>v.o.not m.o.2 (by rw[e]);rw[yh _ _ _ _ K,yh _ _ _ _ K]
 ·simp[World.setCell,World.drew,D.o]
abbrev zk2:Array Value:=#[.int .i64 0,.int .i64 0,.int .i64 0,.bool false,.bool false,.int .u8 0,.int .u8 0,.int .u8 0,.int .u8 0,.int .u8 0,.int .u8 0,.int .u8 0,.int .u8 0,.slice none 0 0,.bool false,.bool false,.int .u8 0,.int .u8 0,.int .u8 0,.int .u8 0,.int .u8 0,.int .u8 0,.int .u8 0,.int .u8 0,.slice none 0 0,.bool false,.bool false,.int .u8 0,.int .u8 0,.int .u8 0,.int .u8 0,.int .u8 0,.int .u8 0,.int .u8 0,.int .u8 0,.slice none 0 0,.bool false,.bool false,.int .u8 0,.int .u8 0,.int .u8 0,.int .u8 0,.int .u8 0,.int .u8 0,.int .u8 0,.int .u8 0,.slice none 0 0,.pointer none,.pointer none]
def zhj (a:Int)(w:World):
  Calls prog 138 #[.int .i64 a] w λr d=>∃i,r=.returned (yu i)/\zc w d/\G0 d (λk=>w.heap.size<=k/\k<d.heap.size) i a []:=by
 have s:=@run_makeMap prog;go_enter func138,ntmps138;go_wp2_with fail;have A:(w.alloc (.map #[] 0)).heap.size=w.heap.size+1:=by simp
 have p:=zf w (.map #[] 0);have e:=zf (w.alloc (.map #[] 0)) (.cells zk2 Gu);rw[A]at e;have B:((w.alloc (.map #[] 0)).alloc (.cells zk2 Gu)).heap.size=w.heap.size+1+1:=by simp
 have f:=zf ((w.alloc (.map #[] 0)).alloc (.cells zk2 Gu)) (.cells #[.int .i64 a,.map (some w.heap.size),.pointer (some ⟨w.heap.size+1,0,none⟩)] MeP);rw[B]at f;have g:zc w (((w.alloc (.map #[] 0)).alloc (.cells zk2 Gu)).alloc (.cells #[.int .i64 a,.map (some w.heap.size),.pointer (some ⟨w.heap.size+1,0,none⟩)] MeP)):=Bv _ _ _ _;refine(VP (λk=>w.heap.size<=k) (w.heap.size+1+1) w.heap.size (w.heap.size+1) a [] none none _ ⟨by omega,by omega,by omega⟩ f (zr e) (L8 (c:=0) (zr (zr p)))).mono ?_;rintro r j ⟨rfl,u,q,t⟩;have l:=ze (g.trans (u.below (λ_ h=>h) g.size));have m:Hid (G0 j (λk=>w.heap.size<=k/\k<j.heap.size) (w.heap.size+1+1) a []):=by
  obtain⟨b,n,y,z,h⟩:=q;exact⟨b,n,y,z,⟨⟨h.own.1,zg h.mem⟩,⟨h.own.2.1,h.map.lt⟩,⟨h.own.2.2.1,zg h.ring.ends⟩,λx v=>by simp at v⟩,h.mem,h.ring,h.map,h.ok⟩
 go_wp2
 go_ret;exact⟨_,rfl,l.o,m.o⟩
variable {B fb j k:Nat}{O:Nat->Prop}{T:List Nat}{t:TypeId}{v:Value}{w0:World}
structure Px where
 there:Bool
 fits:Bool
 hash:zb
 bA:Value
def Px.cs (x:Px):List Value:=.bool x.there:: .bool x.fits::((x.hash.map bv)++[x.bA])
def Px.ok (x:Px):Prop:=x.hash.length=8/\∃a n c,x.bA=.slice a n c
def Cc (a:List Px):List Value:=(a.map Px.cs).flatten
def FR (a:List Px):Prop:=a.length=4/\∀x∈a,x.ok
def Px.ay {x:Px}(h:x.ok):x.cs.length=11:=by simp[Px.cs,h.1]
def Px.aR {x:Px}(h:x.ok):∀v∈x.cs,v.oneCell'=true:=by
 obtain⟨-,a,n,c,e⟩:=h;intro v hv;simp only[Px.cs,jl,yj,yi,Cx,N6]at hv;rcases hv with rfl|rfl|⟨b,-,rfl⟩|rfl
 ·rfl
 ·rfl
 ·simp[bv,Value.oneCell']
 ·rw[e];rfl
def PM {a:List Px}(h:∀x∈a,x.ok):(Cc a).length=11*a.length:=by
 induction a with
 |nil=>rfl
 |cons x a c =>
  have:Cc (x::a)=x.cs++Cc a:=by simp[Cc]
  rw[this,zw,Px.ay (h x (by simp)),c (λy b=>h y (by simp[b])),xf];omega
def DE {b:List Px}(h:∀x∈b,x.ok):∀v∈Cc b,v.oneCell'=true:=by
 intro v hv;unfold Cc at hv;obtain⟨l,c,a⟩:=List.mem_flatten.1 hv;obtain⟨x,d,rfl⟩:=yi.1 c;exact Px.aR (h x d) v a
def FR.len {a:List Px}(h:FR a):(Cc a).length=44:=by rw[PM h.2,h.1]
def zm7 {a:List Px}(h:∀x∈a,x.ok)(k:Nat)(b:k<a.length)(j:Nat)(g:j<11):(Cc a)[k*11+j]?=a[k].cs[j]?:=by
 induction a generalizing k with
 |nil=>simp at b
 |cons x a f =>
  have e:Cc (x::a)=x.cs++Cc a:=by simp[Cc]
  have c:=Px.ay (h x (by simp));rw[e];cases k with
  |zero =>
   rw[NV,xk,qh (by omega)]
   rfl
  |succ k =>
   rw[qq (by omega),c,show(k+1)*11+j-11=k*11+j by omega,f (λy d=>h y (by simp[d])) k (by simpa using b)]
   rfl
def Nn {a:List Px}(h:∀x∈a,x.ok)(k:Nat)(b:k<a.length)(x:Px)(_:x.ok):Cc (a.set k x)=(Cc a).take (k*11)++(x.cs++(Cc a).drop (k*11+11)):=by
 induction a generalizing k with
 |nil=>simp at b
 |cons y a f =>
  have e:∀(z:Px) (r:List Px),Cc (z::r)=z.cs++Cc r:=by simp[Cc]
  have c:=Px.ay (h y (by simp));cases k with
  |zero =>
   rw[List.set_cons_zero,e,e,NV,xk,List.take_zero,Cn,<- c,CE]
  |succ k =>
   rw[KU,e,e,f (λz d=>h z (by simp[d])) k (by simpa using b)];rw[show(k+1)*11=y.cs.length+k*11 by omega,List.take_length_add_append,show y.cs.length+k*11+11=y.cs.length+(k*11+11) by omega,List.drop_length_add_append,qk]
def EP {b:Nat}{a:List Value}(c:List Value)(o:Nat)(h:w.heap[b]?=some (.cells a.toArray t (0,0)))(g:o+c.length<=a.length):
  (w.setCells b o c).heap[b]?=some (.cells (a.take o++(c++a.drop (o+c.length))).toArray t (0,0)):=by
 induction c generalizing w o a with
 |nil =>
  have:w.setCells b o []=w:=rfl;rw[this,h];simp
 |cons v c i =>
  have e:w.setCells b o (v::c)=(w.setCell ⟨b,o,none⟩ v).setCells b (o+1) c:=rfl;simp only[xf]at g;have d:(w.setCell ⟨b,o,none⟩ v).heap[b]?=some (.cells (a.set o v).toArray t (0,0)):=by
   have:=Mz w b o a.toArray t v h;simpa using this
  rw[e,i (o+1) d (by simp;omega)];congr 3;rw[List.set_eq_take_append_cons_drop,if_pos (by omega)];have j:(a.take o).length=o:=by simp;omega
  have f:o+1=(a.take o).length+1:=by omega
  rw[xf,show(a.take o++v::a.drop (o+1)).take (o+1)=a.take o++[v] by
   rw[f,List.take_length_add_append];simp]
  rw[show(a.take o++v::a.drop (o+1)).drop (o+1+c.length)=a.drop (o+(c.length+1)) by
   rw[show o+1+c.length=(a.take o).length+(c.length+1) by omega,List.drop_length_add_append,K9,List.drop_drop];congr 1;omega]
  simp
def Br {b:Nat}(a:List Value)(o:Nat)(h:k≠b):(w.setCells b o a).heap[k]?=w.heap[k]?:=by
 induction a generalizing w o with
 |nil=>rfl
 |cons v a c =>
  have e:w.setCells b o (v::a)=(w.setCell ⟨b,o,none⟩ v).setCells b (o+1) a:=rfl;rw[e,c,yh _ _ _ _ h]
def DY {b:Nat}(a:List Value)(o:Nat):(w.setCells b o a).heap.size=w.heap.size:=by
 induction a generalizing w o with
 |nil=>rfl
 |cons v a c =>
  have e:w.setCells b o (v::a)=(w.setCell ⟨b,o,none⟩ v).setCells b (o+1) a:=rfl;rw[e,c];simp[World.setCell]
def Jv {b:Nat}(a:List Value)(o:Nat):(w.setCells b o a).os=w.os/\(w.setCells b o a).tape=w.tape/\(w.setCells b o a).output=w.output:=by
 induction a generalizing w o with
 |nil=>exact⟨rfl,rfl,rfl⟩
 |cons v a c =>
  have e:w.setCells b o (v::a)=(w.setCell ⟨b,o,none⟩ v).setCells b (o+1) a:=rfl;rw[e];exact c (w:=w.setCell ⟨b,o,none⟩ v) (o+1)
def zl.setCells {a:World}(h:zl O T a w){b:Nat}{c:Array Value}{x:Nat×Nat}(g:qv O a w b)(e:w.heap[b]?=some (.cells c t x))(i:t∈T)(f:List Value)(o:Nat):zl O T a (w.setCells b o f):=by
 obtain⟨j,l,m⟩:=Jv (w:=w) (b:=b) f o;refine h.trans ⟨j,l,m,by rw[DY];exact zk _,λk n=>?_⟩
 by_cases d:k=b
 ·subst d;exact .inr ⟨g,.inl ⟨c,t,x,e,i⟩⟩
 ·exact .inl (Br f o d)
def xo {b:Nat}(a:Below B w0 w)(h:B<=b)(c:List Value)(o:Nat):Below B w0 (w.setCells b o c):=by
 obtain⟨e,f,g⟩:=Jv (w:=w) (b:=b) c o;exact⟨e.trans a.os,f.trans a.tape,g.trans a.output,by rw[DY];exact a.size,λk d=>by rw[Br c o (by omega)];exact a.block k d⟩
abbrev qo:Nat:=219
abbrev Cq:Nat:=217
abbrev Nc:Nat:=91
def xy (w:World)(fb:Nat)(xs:List Px):Prop:=w.heap[fb]?=some (.cells (Cc xs).toArray qo (0,0))
def xy.cell {a:List Px}(h:xy w fb a)(d:∀x∈a,x.ok)(c:k<a.length)(b:j<11)(hv:a[k].cs[j]?=some v):
  w.cell? ⟨fb,k*11+j,none⟩=some v/\w.frozen? ⟨fb,k*11+j,none⟩=false:=
 zm h _ v (by rw[vy,zm7 d k c j b];exact hv)
def xy.piece {a:List Px}(h:xy w fb a)(d:∀x∈a,x.ok)(c:k<a.length):w.rangeAt fb (k*11) a[k].cs:=by
 intro j v hv;have b:=(qm.1 hv).1;rw[Px.ay (d _ (ye c))]at b;exact(h.cell d c b hv).1
def xy.hash {xs:List Px}(h:xy w fb xs)(c:∀x∈xs,x.ok)(b:k<xs.length):w.rangeAt fb (k*11+2) (xs[k].hash.map bv):=by
 intro j v hv;have a:=(qm.1 hv).1;have d:=(c _ (ye b)).1;simp only[yg]at a;rw[AP];refine(h.cell c b (j:=2+j) (by omega) ?_).1;unfold Px.cs;rw[show 2+j=j+1+1 by omega,Aq,Aq,qh (by simpa using a)];exact hv
def xy.there {xs:List Px}(h:xy w fb xs)(b:∀x∈xs,x.ok)(a:k<xs.length){n:Nat}(e:o+n<=11):w.there fb (k*11+o) n:=by
 intro j c;have d:=Px.ay (b _ (ye a));rw[AP];have:=h.cell b a (j:=o+j) (by omega) (v:=xs[k].cs[o+j]'(by omega)) (zo _);exact⟨by rw[this.1];rfl,this.2⟩
def xy.set {a:List Px}(h:xy w fb a)(c:∀x∈a,x.ok)(e:k<a.length){x:Px}(b:x.ok):xy (w.setCells fb (k*11) x.cs) fb (a.set k x):=by
 unfold xy;have f:=PM c;have d:=Px.ay b;rw[EP x.cs (k*11) h (by omega),Nn c k e x b,d]
def OG {a:List Px}(c:∀x∈a,x.ok)(k:Nat){x:Px}(b:x.ok):∀y∈a.set k x,y.ok:=λy d=>by
 rcases List.mem_or_eq_of_mem_set d with h|h
 ·exact c y h
 ·rw[h];exact b
def xy.aE {a:List Px}(h:xy w fb a)(c:∀x∈a,x.ok)(d:k<a.length){x:Px}(m:j<11)(g:x.ok)(e:x.cs=a[k].cs.set j v):xy (w.setCell ⟨fb,k*11+j,none⟩ v) fb (a.set k x):=by
 unfold xy;have f:(w.setCell ⟨fb,k*11+j,none⟩ v).heap[fb]?=some (.cells ((Cc a).set (k*11+j) v).toArray qo (0,0)):=by
  have:=Mz w fb (k*11+j) (Cc a).toArray qo v h;simpa using this
 rw[f,Nn c k d x g,e];congr 3;have n:=PM c;have l:=Px.ay (c _ (ye d));have b:Cc a=(Cc a).take (k*11)++(a[k].cs++(Cc a).drop (k*11+11)):=by
  have:=Nn c k d a[k] (c _ (ye d));rw[List.set_getElem_self]at this;exact this
 have i:((Cc a).take (k*11)).length=k*11:=by simp;omega
 conv=>lhs;rw[b]
 rw[List.set_append_right _ _ (by omega),i,Em,List.set_append_left _ _ (by omega)]
variable {h:zb}
def Zi (a v:Value):Sem Unit:=Instr.storeAt 219 a v
def jx (a v:Value):Instr.storeAt 219 a v=Zi a v:=rfl
def Wo (a:Value):Sem Value:=Instr.loadAt 217 a
def ve (a:Value):Instr.loadAt 217 a=Wo a:=rfl
def MP (a v:Value):Sem Unit:=Instr.storeAt 217 a v
def jy (a v:Value):Instr.storeAt 217 a v=MP a v:=rfl
def Uc (parts:Array (Nat×Value)):Sem Value:=Instr.build 217 parts
def ju (parts:Array (Nat×Value)):Instr.build 217 parts=Uc parts:=rfl
def zfh (parts:Array (Nat×Value)):Sem Value:=Instr.build 219 parts
def jt (parts:Array (Nat×Value)):Instr.build 219 parts=zfh parts:=rfl
def DS (a:Value):Sem Value:=Instr.loadAt 91 a
def vd (a:Value):Instr.loadAt 91 a=DS a:=rfl
def K4 (a v:Value):Sem Unit:=Instr.storeAt 91 a v
def jw (a v:Value):Instr.storeAt 91 a v=K4 a v:=rfl
def Ov:(prog.info? 217).map (·.size)=some 11:=by kernel_rfl
def Ou:(prog.info? 91).map (·.size)=some 8:=by kernel_rfl
def Co {b:Nat}{a:List Value}(h:w.there b o 44)(c:a.length=44)(d:∀v∈a,v.oneCell'=true):(Zi (.pointer (some ⟨b,o,none⟩)) (.agg a.toArray)).run prog w=.ok () (w.setCells b o a):=by
 have:=Pz (P:=prog) w b o 219 a.toArray (by rw[ql,c];exact h) (by rw[Ds,ql,c]) (FW d);simpa[Zi]using this
def QG {b:Nat}{a:List Value}(h:w.rangeAt b o a)(c:a.length=11):(Wo (.pointer (some ⟨b,o,none⟩))).run prog w=.ok (.agg a.toArray) w:=
 Rz w b o _ a _ h underlying217 rfl (by rw[Ov,c])
def Gs {b:Nat}{a:List Value}(h:w.there b o 11)(c:a.length=11)(d:∀v∈a,v.oneCell'=true):(MP (.pointer (some ⟨b,o,none⟩)) (.agg a.toArray)).run prog w=.ok () (w.setCells b o a):=by
 have:=Pz (P:=prog) w b o 217 a.toArray (by rw[ql,c];exact h) (by rw[Ov,ql,c]) (FW d);simpa[MP]using this
def AN {b:Nat}(c:w.rangeAt b o (h.map bv))(a:h.length=8):(DS (.pointer (some ⟨b,o,none⟩))).run prog w=.ok (.agg (hv h)) w:=
 Rz w b o _ (h.map bv) _ c underlying91 rfl (by rw[Ou,yg,a])
def ZA:∀v∈h.map bv,v.oneCell'=true:=λv hv=>by
 obtain⟨b,-,rfl⟩:=yi.1 hv;simp[bv,Value.oneCell']
def Gr {b:Nat}(c:w.there b o 8)(a:h.length=8):(K4 (.pointer (some ⟨b,o,none⟩)) (.agg (hv h))).run prog w=.ok () (w.setCells b o (h.map bv)):=by
 have:=Pz (P:=prog) w b o 91 (h.map bv).toArray (by rw[ql,yg,a];exact c) (by rw[Ou,ql,yg,a]) (FW ZA);simpa[K4,hv]using this
def Vq (h:zb)(b:h.length=8)(v:Value)(a:v.oneCell'=true)(w:World):(Uc #[(0,.bool true),(2,.agg (hv h)),(3,v)]).run prog w=.ok (.agg (Px.cs ⟨true,false,h,v⟩).toArray) w:=by
 obtain⟨c,d,e,f,g,i,j,k,rfl⟩:=XC h b;cases v<;>first|(simp[Value.oneCell']at a;done)|kernel_rfl
def XS (h:zb)(a:h.length=8)(w:World):(Uc #[(0,.bool true),(1,.bool true),(2,.agg (hv h))]).run prog w=.ok (.agg (Px.cs ⟨true,true,h,.slice none 0 0⟩).toArray) w:=by
 obtain⟨b,c,d,e,f,g,i,j,rfl⟩:=XC h a
 kernel_rfl
def Px.no:Px:=⟨false,false,BE,.slice none 0 0⟩
def za4 (w:World):(Uc #[]).run prog w=.ok (.agg Px.no.cs.toArray) w:=by kernel_rfl
def za2 (w:World):(zfh #[]).run prog w=.ok (.agg Wx.toArray) w:=by kernel_rfl
def Fx.no:List Px:=[.no,.no,.no,.no]
def zk3:Wx=Cc Fx.no:=rfl
def Px.aq:Px.no.ok:=⟨rfl,_,_,_,rfl⟩
def Fx.aq:FR Fx.no:=⟨rfl,λx a=>by
 simp only[Fx.no,jl,Cx,N6,or_self]at a;rw[a];exact Px.aq⟩
end Go.Proofs.YtfdbeldiomkdiaaGreatDoor
