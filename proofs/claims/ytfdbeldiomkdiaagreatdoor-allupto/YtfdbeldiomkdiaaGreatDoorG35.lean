import Derived.Test.YtfdbeldiomkdiaaGreatDoorG34
import Derived.RangeFuncNested
import Derived.RangeFuncBound
import Derived.Shelf.RegionOpen
import Derived.OwnWalkIn
import Derived.LoopNIn
import Derived.LoopIn
set_option maxHeartbeats 8000000
set_option maxRecDepth 100000
set_option linter.all false
namespace Go.Proofs.YtfdbeldiomkdiaaGreatDoor
open Go.RowKit Go.Proofs.Tryz
def GO:=@List.getElem?_cons_zero
variable {A A1 G N N' O OP OP1:Nat->Prop}{B B' cb db i k k1 nb nm o pm:Nat}{C:Array Value}{T T':List Nat}{V V' W0 w w' w9:World}{d:Dk}{e:TypeId}{pr:Mm}{ps:za}{v:Value}
section
attribute [local go_sem ↓] j9 jx ve jy ju jt vd jw
abbrev zn0 (e:World)(O:Nat->Prop)(f j i n l:Nat)(C:Array Value)(d:Dk)(a:Int):Prop:=
 ∀(A c:Nat->Prop) (g:Mm) (k:Nat) (m:Ms Nt) (w:World),g.length<=100000000000->(∀b,c b->e.heap.size<=b)->CS e w O A c f j i n l C d a g m k ->
  Calls prog 192 #[yu f] w λr h=>r=.returned (.tuple #[])/\zl c [Gu] w h/\CS e h O A (qv c w h) f j i n l C d a (qd a g m.ag) m k
structure MV (C:Array Value)(size:Nat)(root:zb):Prop where
 sz:C[4]?=some (.int .i64 size)
 rt:∀j v,(root.map bv)[j]?=some v->C[5+j]?=some v
 r8:root.length=8
structure Out (W0 w w':World)(O A OP:Nat->Prop)(cb nb db pm nm:Nat)(C:Array Value)(d:Dk)(room:Int)(pr:Mm)(n:Nt)(k:Nat)(P:(Nat->Prop)->Prop):Prop where
 aj:zl (λb=>O b\/A b\/OP b) Uh w w'
 cs:∃A' OP',Di A A' w w'/\Di OP OP' w w'/\CS W0 w' O A' OP' cb nb db pm nm C d room pr ⟨n,[]⟩ k/\P OP'
def OM (f:World)(d:Nat)(a:Int)(e:Mm)(v:Value)(c:Nat->Prop):Prop:=
 ∃b N T,MA b c d a e/\zl N T b f/\(∀k,c k->¬N k)/\5∉T/\∀g,v.ownBlock=some g->b.heap.size<=g
def Qa (f:World)(c:Nat)(a:Int)(d:Mm)(r:Ending)(b:Nat->Prop):Prop:=
 ∀x v e,r=.returned (.tuple #[x,v,e])->OM f c a d x b
def zl.apart {a b c:World}(h:zl N T a b)(d:zl G T' b c)(i:∀k,G k->a.heap.size<=k):zl N T a c:=
 ⟨d.os.trans h.os,d.tape.trans h.tape,d.output.trans h.output,zt h.size d.size,λk f=>by
  rcases d.block k (zq f h.size)with e|⟨g,-⟩
  ·rw[e];exact h.block k f
  ·have:=i k g;omega⟩
def OM.on {a:Int}(h:OM w pm a pr v OP)(b:zl N' T' w w')(l:∀k,OP k->¬N' k)(m:5∉T'):OM w' pm a pr v OP:=by
 obtain⟨d,N,T,e,f,g,i,j⟩:=h;refine⟨d,λk=>N k\/N' k,T++T',e,(f.mono (λ_ h=>.inl h) (λt b=>by simp[b])).trans (b.mono (λ_ h=>.inl (.inr h)) (λt b=>by simp[b])),λk c=>?_,?_,j⟩
 ·rintro(h|h)
  ·exact g k c h
  ·exact l k c h
 ·simp[i,m]
def OM.clear {a:Int}(h:OM w pm a pr v OP)(j:zl G T' w w')(g:∀k,G k->v.ownBlock=some k):MA w' OP pm a pr:=by
 obtain⟨l,N,T,b,c,d,e,f⟩:=h;exact b.stay (c.apart j λk i=>f k (g k i)) d e (λ_ h=>h)
def IL (d:zb)(c:Nat)(b:zb)(a:Int)(e:Mm):Cl:=⟨d,c,b,a,e⟩
section
variable {σ:Type}{fe:σ -> zb -> (zb × Bool) × σ}{inc:zb -> Nat -> Nat -> za -> zb -> Bool}{c:Cl}{s:σ}{i:Nat}
def zlk {a:Pc}{m b:Ms σ}(h:BI fe c.proved c.size ⟨s,[]⟩ (-1) i=(.inr a,m))(d:Ax fe c.proved c.size m (AD 64 0 c.size i)=(.inr ps,b))(e:inc a.hash i c.size ps c.root=false):GQ fe inc c s i=(.inl .proof,c,b.al):=by unfold GQ;rw[h];simp only[d,e,vz,CM]
def zll {a:Pc}{m b:Ms σ}(h:BI fe c.proved c.size ⟨s,[]⟩ (-1) i=(.inr a,m))(d:Ax fe c.proved c.size m (AD 64 0 c.size i)=(.inr ps,b))(e:inc a.hash i c.size ps c.root=true):GQ fe inc c s i=(.inr (a.entry,ps),{c with proved:=qd c.room c.proved (AO c.size b.ag i a.hash)},b.al):=by unfold GQ;rw[h];simp only[d,e,if_true]
end
def NX (h:zc W0 w){b:Nat}(a:W0.cell? ⟨b,o,none⟩=some v):w.cell? ⟨b,o,none⟩=some v:=by
 have c:=yf a;simp only[World.cell?]at *;rw[h.block _ c];exact a
def zcz {x:Px}(h:x.ok):x.cs.toArray[10]?=some x.bA:=by
 obtain⟨a,-⟩:=h;simp only[Px.cs,vy,Aq];rw[qq (by simp[a])];simp[a]
def G5 {s:Nat}{n:Nat}{c:List Value}(h:w.ownsRow B e s v n c)(k:B'<=B):w.ownsRow B' e s v n c:=by
 obtain⟨h0,f|⟨g,a,b,d,j,i⟩⟩:=h
 ·exact⟨h0,.inl f⟩
 ·exact⟨h0,.inr ⟨g,a,b,d,zt k j,i⟩⟩
def zal:Lb []:=⟨List.Pairwise.nil,λx a=>by simp at a⟩
def Ry {σ:Type}{fe:σ->zb->(zb×Bool)×σ}{a:Nat}:∀{b:List (Nat×Nat)}{m f:Ms σ}{c:za},Ax fe pr a m b=(.inr c,f)->c.length=b.length:=by
 intro b
 induction b with
 |nil =>
  intro m f c h;simp only[Ax,xj]at h;obtain⟨h,-⟩:=h;cases h
  rfl
 |cons s r g =>
  intro m f c h;simp only[Ax]at h;split at h
  ·simp at h
  ·rename_i x i _;cases d:Ax fe pr a i r with
   |mk o j =>
    cases o with
    |inl e =>
     rw[d]at h;simp at h
    |inr k =>
     rw[d]at h;simp only[xj,S2]at h;obtain⟨rfl,-⟩:=h;simp[g d]
def Bu.wd {σ:Type}{fe:σ->zb->(zb×Bool)×σ}{a:Mm}{c:Nat}{m g:Ms σ}{d:List (Pl×Nat)}(h:Bu fe a c m d g):∀q∈d,1<=q.1.2.2:=by
 induction h using Bu.ind with
 |nil m=>intro q b;simp at b
 |cons i e _ f =>
  intro q b;rcases jl.1 b with rfl|b
  ·unfold yd;simp only;omega
  ·exact f q b
def Bu.cu {σ:Type}{fe:σ->zb->(zb×Bool)×σ}{a:Mm}{b:Nat}{m e:Ms σ}{k:List (Pl×Nat)}(h:Bu fe a b m k e)(g:Lb a)(c:m.ag=[]):WdN e.ag:=by
 intro x j;rcases h.keys g (by rw[c];exact zal) x j with ⟨y,d,-⟩|⟨q,i,f⟩
 ·rw[c]at d;simp at d
 ·rw[<- f];exact h.wd q i
def YK {σ:Type}{fe:σ->zb->(zb×Bool)×σ}{a:Nat}{n:σ}{c:Pc}{h e:Ms σ}(o:a<9223372036854775808)(k:i<a)(b:Lb pr)(l:BI fe pr a ⟨n,[]⟩ (-1) i=(.inr c,h))(m:Ax fe pr a h (AD 64 0 a i)=(.inr ps,e)):WdN e.ag/\(e.ag.get (yd a (-1) i)).isSome=true:=by
 have g:=Bu.cons (by simpa[qx]using k) l (MM (by omega) _ _ _ _ (λs d=>by have:=I0 64 0 a i (by omega) s d;omega) m);refine⟨g.cu b rfl,?_⟩;obtain⟨f,j,-⟩:=(g.has b zal).1 (yd a (-1) i,i%4) (by simp);exact M9.2 ⟨f,j⟩
def ZW {c:Int}{m:Ms Nt}(o:zl (λb=>O b\/A b\/OP b) Uh w V)(g:Di A A1 w V)(i:Di OP OP1 w V)(j:CS W0 V O A1 OP1 cb nb db pm nm C d c pr m k1)(e:zl A1 [FC] V w9)(f:Dj w9 A1 nm FI [])(n:k<=k1){P:(Nat->Prop)->Prop}(l:MA w9 OP1 pm c pr->P OP1):Out W0 w w9 O A OP cb nb db pm nm C d c pr m.al k P:=by
 have p:=e.size;refine⟨?_,A1,OP1,⟨g.1,λb a=>(g.2 b a).imp id (λh=>⟨h.1,by omega⟩)⟩,⟨i.1,λb a=>(i.2 b a).imp id (λh=>⟨h.1,by omega⟩)⟩,(j.forget e f).less n,l (j.forget e f).aV⟩;refine o.trans (e.mono (λb a=>?_) (by decide));rcases g.2 b a with h|h
 ·exact .inl (.inr (.inl h))
 ·exact .inr h
def PW (h:zl (λb=>O b\/A b\/OP b) Uh w V)(c:Di A A1 w V)(d:zl (λb=>O b\/A1 b) qT V V'):zl (λb=>O b\/A b\/OP b) Uh w V':=by
 refine h.trans (d.mono (λb a=>?_) (by decide));rcases a with a|a
 ·exact .inl (.inl a)
 ·exact(c.2 b a).imp (λh=>.inr (.inl h)) id
def Di.ext (h:Di A A1 w V)(c:w.heap.size<=V.heap.size)(d:V.heap.size<=V'.heap.size):Di A (qv A1 V V') w V':=by
 refine⟨λb a=>.inl (h.1 b a),λb a=>?_⟩;rcases a with a|a
 ·exact(h.2 b a).imp id (λh=>⟨h.1,by omega⟩)
 ·exact .inr ⟨by omega,a.2⟩
def Di.below (h:Di A A1 w V)(c:V.heap.size<=V'.heap.size):Di A A1 w V':=
 ⟨h.1,λb a=>(h.2 b a).imp id (λh=>⟨h.1,by omega⟩)⟩
def Di.refl (A:Nat->Prop)(w a:World):Di A A w a:=⟨λ_ h=>h,λ_ h=>.inl h⟩
def Vg (A:Nat->Prop)(w a:World):Di A (qv A w a) w a:=⟨λ_ h=>.inl h,λ_ h=>h⟩
def zc0 (w:World){x:Px}(a:x.ok):(MP (.pointer (some ⟨w.heap.size,0,none⟩)) (.agg x.cs.toArray)).run prog (w.alloc (.cells Jg Cq))=.ok () ((w.alloc (.cells Jg Cq)).setCells w.heap.size 0 x.cs)/\((w.alloc (.cells Jg Cq)).setCells w.heap.size 0 x.cs).heap[w.heap.size]?=some (.cells x.cs.toArray Cq (0,0))/\zc w ((w.alloc (.cells Jg Cq)).setCells w.heap.size 0 x.cs):=by
 have h:(w.alloc (.cells Jg Cq)).heap[w.heap.size]?=some (.cells Px.no.cs.toArray Cq (0,0)):=zf _ _;exact⟨Gs (BG h) (Px.ay a) (Px.aR a),Cd h (ds:=x.cs) (by rw[Px.ay a,Px.ay Px.aq]),xo (zi _ _) (zk _) _ _⟩
def Rp (W0:World)(aQ:Nat->Addr)(O A J:Nat->Prop)(Y nb db pm nm:Nat)(C:Array Value)(d:Dk)(p:Int)(u:Mm)(n:Nt)(k l i:Nat)(M q:zb)(an:l<9223372036854775808)(hi:i<l)(hC:MV C l q)(hE:DW W0)(hS:vj W0 aQ)(bh:F0 W0)(aD:zn0 W0 O Y nb db pm nm C d p)(hH:TQ d.fs l)(aW:n.ao=[])(bm:∃x,(GQ (qr d.fs) Oq (IL M l q p u) n i).1=.inr x)
 (aA:∀c m',BI (qr d.fs) u l ⟨n,[]⟩ (-1) i=(.inr c,m')->c.entry.length<=1000000) (bo:u.length<=100000000000) (bq:Lb u) (bn:∀b,J b->W0.heap.size<=b) (w:World) (h:CS W0 w O A J Y nb db pm nm C d p u ⟨n,[]⟩ (rPl l (AD 64 0 l i)+k+1)) :
  Calls prog 193 #[yu Y,.int .i64 i] w λr E =>
   ∃aZ n' x,GQ (qr d.fs) Oq (IL M l q p u) n i=(.inr x,{IL M l q p u with proved:=aZ},n')/\Out W0 w E O A J Y nb db pm nm C d p aZ n' k (Qa E pm p aZ r)/\zmb w.heap.size E x r:=by
 have D:=ze (Wt W0 aQ O A J Y nb db pm nm C d p u ⟨n,[]⟩ (rPl l (AD 64 0 l i)+k) l (-1) i an (by omega) (by omega) (by simpa[qx]using hi) w hE hS hH aW h);have HC:=ze hC;have bb:=ze aD;have a8:=ze (And.intro bo bn);have bu:Hid ((BI (qr d.fs) u l ⟨n,[]⟩ (-1) i).2.al.ao=[]):=QK (m:=⟨n,[]⟩) (Jm d.fs).keep aW _ _;have F:=ze (λA1 m1 hq sv B V ak bz=>Tx W0 aQ O A1 J Y nb db pm nm C d p u m1 k l an hE hS bh hH hq sv (AD 64 0 l i) B V ak (by have:=C4 64 0 l i;omega) (λs hs=>by have:=I0 64 0 l i (by omega) s hs;omega) bz);have a9:Hid (∀y m I m',BI (qr d.fs) u l ⟨n,[]⟩ (-1) i=(.inr y,m)->Ax (qr d.fs) u l m (AD 64 0 l i)=(.inr I,m')->P9 1001 y.hash (i:Int) (l:Int) I q=true/\GQ (qr d.fs) Oq (IL M l q p u) n i=(.inr (y.entry,I),{IL M l q p u with proved:=qd p u (AO l m'.ag i y.hash)},m'.al)/\(WdN m'.ag/\(m'.ag.get (yd l (-1) i)).isSome=true)/\y.entry.length<=1000000/\I.length<=64):=λy m I m' e e'=>by
  have hr:Oq y.hash i l I q=true:=by
   cases h:Oq y.hash i l I q with
   |true=>rfl
   |false =>
    obtain⟨x,hx⟩:=bm;rw[zlk (c:=IL M l q p u) e e' h]at hx;simp at hx
  exact⟨hr,zll e e' hr,YK an hi bq e e',aA y m e,by rw[Ry e'];exact C4 64 0 l i⟩
 have bx:w.cell? ⟨Y,14,none⟩=some (.pointer (some ⟨nm,0,none⟩)):=(zm h.aC 14 _ h.cells.aM).1;have c4:w.cell? ⟨Y,4,none⟩=some (.int .i64 l):=(zm h.aC 4 _ hC.sz).1;clear h hC hE hS bh aD aA bo bn bq hH aW bm;unfold yu at D ⊢
 go_enter_defers func193,ntmps193
 go_wp2_with fail;refine D.o.mono ?_;rintro r N ⟨bp,aw,bE⟩;clear D bx c4;generalize BI (qr d.fs) u l ⟨n,[]⟩ (-1) i=NM at *;obtain⟨o,m1⟩:=NM;simp only at *;obtain⟨x,c,rfl,aY,br,rfl⟩:=bE;obtain⟨am,bk,Z⟩:=zc0 N aY;have aH:=ze bk;have ai:=ze aY;have bg:=ze (br.aj (O:=λ_=>False) (T:=[]) (.aa Z) (by decide));have a2:=ze (aw.below Z);have bc:Hid (zl (λb=>O b\/A b\/J b) Uh w ((N.alloc (.cells Jg Cq)).setCells N.heap.size 0 x.cs)):=(bp.mono (λb aR=>aR.imp id .inl) (by decide)).ah Z;have a0:Hid (Di A (qv A w N) w ((N.alloc (.cells Jg Cq)).setCells N.heap.size 0 x.cs)):=(Vg A w N).below Z.size;have au:=ze am;have ba:=ze (λI m'=>a9.o c m1 I m' rfl);clear bk Z aY br bp aw am a9;generalize (N.alloc (.cells Jg Cq)).setCells N.heap.size 0 x.cs=V1 at *;have am:=au.o;have U:=ze (Rh 64 (by omega) 0 l i V1 (by omega) (by omega) (by omega) (by omega) (by omega));go_wp2_with fail;refine U.o.mono ?_;rintro r V2 ⟨sv,rfl,K,ak⟩;have af:=ze (bc.o.ah K);have aE:=ze (a0.o.below K.size);have a5:=ze ((K.block _ (zg aH.o)).trans aH.o);have av:Hid (J4 V2 x c):=J4.aj (O:=λ_=>False) (T:=[]) bg.o (.aa K) (by decide);have aO:=ze (F.o _ m1 bu.o sv V1.heap.size V2 ak (a2.o.below K));clear K ak U aH bg a2 bc a0 au am F;unfold yu at aO;go_wp2_with fail;refine aO.o.mono ?_;rintro r w3 ⟨ad,ax,bF⟩;have bd:=ze (PW af.o aE.o ad);have a1:=ze (aE.o.ext af.o.size ad.size);have bw:=ze af.o.size;have ae:=ze ax;have Q:=ze (ad.keep a5.o (by decide));have H:Hid (J4 w3 x c):=J4.aj av.o ad (by decide);clear ad ax aO af aE a5 av;generalize Ax (qr d.fs) u l m1 (AD 64 0 l i)=RM at *;obtain⟨o,m2⟩:=RM;simp only at *;obtain⟨I,pv,rfl,ab,h8,rfl⟩:=bF;have H8:=ze h8;have z:=ze (ba.o I m2 rfl);have ar:=ze ab;have aJ:Hid (∀E,zc w3 E->(DS (.pointer (some ⟨N.heap.size,2,none⟩))).run prog E=.ok (.agg (hv c.hash)) E/\(DS (.pointer (some ⟨Y,5,none⟩))).run prog E=.ok (.agg (hv q)) E):=by
  intro E hb;rw[<- H.o.hash];refine⟨AN (Ri ((hb.block _ (zg Q.o)).trans Q.o)) ai.o.1,AN (λj v hv=>?_) HC.o.r8⟩;have h1:=HC.o.rt j v hv;exact(zm ((hb.block _ (zg ae.o.aC)).trans ae.o.aC) (5+j) v h1).1
 have t:zc w3 w3.drew:=(zu _ _).drew;have R:=ze (ZR 1001 c.hash q i l (by omega) pv I w3.drew (by have:=z.o.2.2.2.2;omega) (by have:=z.o.2.2.2.2;omega) (by rw[<- H.o.hash];exact ai.o.1) HC.o.r8 (ON.aI (w:=w3.drew) h8 (zy (O:=λ_=>False) (T:=[]) ab (zl.refl _ _ _).drew (by decide))));rw[z.o.1]at R;clear ab h8 ba
 go_wp2
 go_region_held3 (λE=>(DS (.pointer (some ⟨N.heap.size,2,none⟩))).run prog E=.ok (.agg (hv c.hash)) E/\(DS (.pointer (some ⟨Y,5,none⟩))).run prog E=.ok (.agg (hv q)) E) (exact aJ.o _ t) (first
  |(go_at_call 69;refine R.o.mono ?_;rintro r w4 ⟨rfl,bi⟩;have aB:=A6 bi;clear t bi;have t:=aB;clear aB))
 rename_i aU;clear aU;have bC:=(aJ.o w4 t).1;have be:=ze (bd.o.ah t);have aF:=ze (a1.o.below t.size);have a6:=ze ((t.block _ (zg Q.o)).trans Q.o);have X:Hid (J4 w4 x c):=J4.aj (O:=λ_=>False) (T:=[]) H.o (.aa t) (by decide);have S:Hid (Fj V2.heap.size w4 pv I):=zy (O:=λ_=>False) (T:=[]) ar.o (.aa t) (by decide);have W:=ze (PG W0 O (qv (qv A w N) V2 w3) J Y nb db pm nm C d p u l k i an hi c.hash (by rw[<- X.o.hash];exact ai.o.1) m2 w4 z.o.2.2.1.1 z.o.2.2.1.2 (ae.o.below t));clear t ae bd a1 Q H ar R;unfold yu at W;go_wp2_with fail;refine W.o.mono ?_;rintro r w6 ⟨rfl,aX,ay⟩;have aP:Hid (zl (λb=>O b\/A b\/J b) Uh w w6):=PW be.o aF.o (aX.mono (λ_ h=>.inr h) (by decide));have aL:=ze (bb.o _ J u k _ w6 a8.o.1 a8.o.2 ay);have G:=ze aX;clear aX ay W bC aJ;unfold yu at aL;go_wp2_with fail;refine aL.o.mono ?_;rintro r w7 ⟨rfl,L,az⟩;have bf:Hid (zl (λb=>O b\/A b\/J b) Uh w w7):=aP.o.trans (L.mono (λb h=>.inl (.inr (.inr h))) (by decide));have bs:=ze (aF.o.below (zt G.o.size L.size));have bt:Hid (Di J (qv J w6 w7) w w7):=⟨λ_ h=>.inl h,λb hb=>hb.imp id (λh=>⟨zt aP.o.size h.1,h.2⟩)⟩;have aG:=ze az;have bG:w7.cell? ⟨N.heap.size,10,none⟩=some x.bA:=(zm (L.keep (G.o.keep a6.o (by decide)) (by decide)) 10 _ (zcz ai.o)).1;have aq:=ze (zbc x.bA c.entry w7 ((X.o.aj G.o (by decide)).aj L (by decide)).bA z.o.2.2.2.1);have aK:Hid (Fj V2.heap.size w7 pv I):=zy (zy S.o G.o (by decide)) L (by decide);clear L az aL aP be aF a6 X S;go_wp2_with fail;refine aq.o.mono ?_;rintro r w8 ⟨ev,rfl,bj,aS⟩;have a3:=ze (aG.o.below aS);have a4:=ze bj;have P:=ze aS;clear bj aS bG aq;obtain⟨L2,bl⟩:=a3.o.mem;have a7:=ze (Pe .returning _ nm FI L2 _ bl);clear bl;unfold yu at a7;go_wp2_with fail;refine Dp (f:=183) (args:=#[.pointer (some ⟨nm,0,none⟩)]) (by simp) (by simp[go_sem]) ?_;refine a7.o.mono ?_;rintro e u' w9 ⟨rfl,rfl,ap,bD,bJ⟩;simp only[Leaves,settle];refine⟨.tuple #[ev,pv,.nilIface],by simp[results,results193,go_sem],?_⟩;have bB:Qa w9 pm p (qd p u (AO l m2.ag i c.hash)) (.returned (.tuple #[ev,pv,.nilIface])) (qv J w6 w7):=by
  intro x' v' e' he;simp only[Ending.returned.injEq,Value.tuple.injEq]at he;have:=congrArg (λa:Array Value=>a[0]?) he;simp only[vy,GO,zn]at this;subst this;refine⟨w7,_,[FC],aG.o.aV,(zl.aa P.o).trans (ap.mono (λ_ h=>.inl h) (λ_ h=>h)),λb hb aR=>aG.o.aN b hb (.inr aR),by decide,λg hg=>?_⟩;rcases a4.o with ⟨h,-⟩|h
  ·rw[h]at hg;simp[Value.ownBlock]at hg
  ·rcases h.1.2 with ⟨h,-⟩|⟨g',bH,bI,h,hB,-⟩
   ·rw[h]at hg;simp[Value.ownBlock]at hg
   ·rw[h]at hg;simp only[Value.ownBlock,zn]at hg;omega
 refine⟨_,_,_,z.o.2.1,ZW (bf.o.ah P.o) (bs.o.below P.o.size) (bt.o.below P.o.size) a3.o ap bD (zk _) (λ_=>bB),ev,pv,?_,?_,H8.o,Nat.le_succ_of_le z.o.2.2.2.2,rfl⟩
 ·rcases a4.o with h|h
  ·exact .inl h
  ·exact .inr ⟨G5 (zy h.1 ap (by decide)) bf.o.size,h.2⟩
 ·exact G5 (zy (zy (O:=λ_=>False) (T:=[]) aK.o (.aa P.o) (by decide)) ap (by decide)) bw.o
end
variable {LN:Ek}{eb q:Nat}{nx pv:Nat->Nat}
section
open Go.RowKit Go.Shelf
attribute [local go_sem] Oper.semAt_some
abbrev Sa:Nat:=220
def zfd (a:Nat)(w:World):
  Calls prog 231 #[yu a] w λr b=>r=.returned (.func (.func 274) #[] #[.pointer (some ⟨w.heap.size,0,none⟩)])/\b=w.alloc (.cells #[yu a] Sa):=by
 unfold yu;go_enter func231,ntmps231
 go_wp2
 go_ret;exact⟨rfl,rfl⟩
def KpN (W a:World):Prop:=∀(k:Nat) (c:Array Value) (t:TypeId) (x:Nat×Nat),W.heap[k]?=some (.cells c t x)->t∈[FC,MeN,Sa]->a.heap[k]?=some (.cells c t x)
def zmi {A B C:World}(h:KpN A B)(b:KpN B C):KpN A C:=λk c t x e a=>b k c t x (h k c t x e a) a
def zoe {n:Nat}(W:World)(l:Nat)(o d:Obj)(_:n<=l)(h:W.heap[l]?=some o)(b:o.isCells=false)(_:o.isWalk=false):KpN W (W.putObj l d):=λk c t x e _=>by
 rw[World.putObj_heap_other (λa=>by subst a;rw[h]at e;simp only[zn]at e;subst e;simp[Obj.isCells]at b)];exact e
def Qp:∀(l:List Nat),Dx nx pv l->∀i (h:i+1<l.length),nx (l[i]'(by omega))=l[i+1]
 |[],_,i,h=>by simp at h
 |[a],_,i,h=>by simp at h
 |a::b::r,c,i,h=>by
  cases i with
  |zero=>exact c.1
  |succ i=>exact Qp (b::r) c.2.2 i (by simpa using h)
def zoz:Value->Nat
 |.pointer (some a)=>a.block
 |_=>0
def zog (a:List Nat)(v:Value):Nat:=a.idxOf (zoz v)
def zk9 {a:List Nat}(d:a.Nodup)(h:q<a.length):a.idxOf a[q]=q:=by
 have b:=List.idxOf_lt_length_of_mem (ye h);have c:=List.getElem_idxOf b;exact(List.getElem_inj d).1 c
def RX (b:Nat)(a:Ek)(q:Nat):Nat:=(a.map (·.1)++[b]).getD q 0
def Uw (h:q<LN.length):RX eb LN q=LN[q].1:=by
 unfold RX;rw[zj,qh (by simpa using h)];simp[h]
def ZT:RX eb LN LN.length=eb:=by
 unfold RX;rw[zj,qq (by simp)];simp
def ZY (c:(LN.map (·.1)).Nodup)(b:eb∉LN.map (·.1))(h:q<=LN.length):zog (LN.map (·.1)) (.pointer (some ⟨RX eb LN q,0,none⟩))=q:=by
 show(LN.map (·.1)).idxOf (RX eb LN q)=q;rcases qf q LN.length with a|a
 ·rw[Uw a];have:=zk9 c (q:=q) (by simpa using a);simpa using this
 ·obtain rfl:q=LN.length:=by omega
  rw[ZT,List.idxOf_eq_length b];simp
def ZZ {a b:Nat}{r:Bool}(h:(sameAddr ⟨a,0,none⟩ ⟨b,0,none⟩).run prog w=.ok r w):(binOp .neq 291 (.pointer (some ⟨a,0,none⟩)) (.pointer (some ⟨b,0,none⟩))).run prog w=.ok (.bool (!r)) w:=by
 have c:∀d,(Op.equalIn (d+1) 291 (.pointer (some ⟨a,0,none⟩)) (.pointer (some ⟨b,0,none⟩))).run prog w=.ok r w:=by
  intro d;simp[Op.equalIn,Cj underlying291,sizeOf293,h]
 simp only[binOp];have:=c 9999;simp[Op.equal,Op.maxDepth,this]
abbrev zf6 (a:Ek)(i:Fin a.length):Array Value:=#[Fc a[i].2.1,a[i].2.2]
def zjs (n:Nat)(hn:1<=n)(l V C hb g:Nat)(w Y:Nat->Nat)(T:Int)(A:Nat->Prop)(d:Ek)(J Jx:List (Fin d.length)->World->Prop)(af:∀s A B,J s A->A.grownBy B none->J s B)
 (hY:∀f x W,J f W->f.length<d.length->YieldAt Fence.wide (n-1) prog l (zf6 d x) W λe r=>(e=.returned (.bool true)/\J (f++[x]) r/\KpN W r)\/(e=.returned (.bool false)/\Jx (f++[x]) r))
 (W:World) (F:W.heap[V]?=some (.cells #[yu C] Sa (0,0))) (hM:M7 W A C hb g w Y T d) (h0:J [] W) :
  CallsIn Fence.wide n prog 274 #[.func (.yield l) #[] #[],.pointer (some ⟨V,0,none⟩)] W λe r=>(∃v,e=.returned v)/\((∃xs,xs.map Fin.val=List.range d.length/\J xs r)\/(∃f,True/\Jx f r)):=by
 have K:=hM.ring.aD;have R:w g=RX g d 0/\∀q,q<d.length->w (RX g d q)=RX g d (q+1):=by
  have hl:(d.map (·.1)++[g]).length=d.length+1:=by simp
  refine⟨?_,λq h=>?_⟩
  ·have:=Qp _ K.2 0 (by simp);simp only[A4,Af,A8,xk]at this;unfold RX;rw[zj,zo (by omega)];exact this
  ·have:=Qp _ K.2 (q+1) (by simp;omega);simp only[A4,A8]at this;unfold RX;rw[zj,zj,zo (by omega),zo (by omega)];exact this
 have E:=ze R;have y:=ze hM;have D:=ze F;have HY:=ze hY;have m:Hid ((d.map (·.1)).Nodup/\g∉d.map (·.1)):=⟨(AK.1 K.1).2,(AK.1 K.1).1⟩;clear hM F hY K R;refine callsIn_of_wp func274 rfl trivial ?_ rfl;simp only[ntmps274,ql,xf,jq,Nat.reduceAdd,Nat.reduceSub,Array.replicate_succ,Array.replicate_zero,List.push_toArray,List.append_toArray,Cn,A4];have c0:W.cell? ⟨V,0,none⟩=some (.pointer (some ⟨C,0,none⟩)):=(zm D.o 0 _ rfl).1;have c1:W.cell? ⟨C,2,none⟩=some (.pointer (some ⟨g,0,none⟩)):=(zm y.o.mem 2 _ rfl).1;have c2:W.cell? ⟨g,5,none⟩=some (.pointer (some ⟨w g,0,none⟩)):=(zm y.o.ring.ends 5 _ rfl).1;rw[E.o.1]at c2
 gi_wp2
 gi_loopw [3] (λp wr=>∃(q:Nat) (f:List (Fin d.length)),q<=d.length/\p=.pointer (some ⟨RX g d q,0,none⟩)/\KpN W wr/\f.map Fin.val=List.range q/\J f wr) (λp _=>d.length-zog (d.map (·.1)) p)
 case atStart=>exact⟨0,[],yk _,rfl,λ_ _ _ _ e _=>e,rfl,h0⟩
 case round =>
  obtain⟨q,f,hq,rfl,z,X,hJ⟩:=hrel;have I:=z _ _ _ _ D.o (by simp);have O:=z _ _ _ _ y.o.mem (by simp);have e0:wr.cell? ⟨V,0,none⟩=some (.pointer (some ⟨C,0,none⟩)):=(zm I 0 _ rfl).1;have e1:wr.cell? ⟨C,2,none⟩=some (.pointer (some ⟨g,0,none⟩)):=(zm O 2 _ rfl).1
  by_cases i:q<d.length
  ·have Q:¬RX g d q=g:=λe=>m.o.2 (by rw[<- e,Uw i];exact Ck (ye i));have j:wr.heap[RX g d q]?=some (.cells (XD d[q].2.1 d[q].2.2 (Y d[q].1) (w d[q].1)) FC (0,0)):=by
    rw[Uw i];exact z _ _ _ _ (y.o.ring.link d[q] (ye i)) (by simp)
   have M:wr.heap[g]?=some (.cells (XD (0,0,0) (.pointer none) (Y g) (w g)) FC (0,0)):=z _ _ _ _ y.o.ring.ends (by simp);have L:=ZZ (run_sameAddr_other (P:=prog) (a:=⟨RX g d q,0,none⟩) (b:=⟨g,0,none⟩) wr (by intro e;injection e with e;exact Q e) j M);obtain⟨a,ha⟩:=(y.o.ok d[q] (ye i)).2;have f0:wr.cell? ⟨RX g d q,0,none⟩=some (.int .i64 d[q].2.1.1):=(zm j 0 _ rfl).1;have f1:wr.cell? ⟨RX g d q,1,none⟩=some (.int .i64 d[q].2.1.2.1):=(zm j 1 _ rfl).1;have f2:wr.cell? ⟨RX g d q,2,none⟩=some (.int .i64 d[q].2.1.2.2):=(zm j 2 _ rfl).1;have f3:wr.cell? ⟨RX g d q,3,none⟩=some (.pointer a):=by
    have:=(zm j 3 _ rfl).1;rw[<- ha];exact this
   have ai:f.length=q:=by
    have:=congrArg List.length X;simpa using this
   obtain⟨fn,U,assign,body,hy,hR⟩:=HY.o f ⟨q,i⟩ wr.drew (af _ _ _ hJ ⟨rfl,rfl,rfl,zk _,λ_ _ _=>rfl⟩) (by omega);have u:zf6 d ⟨q,i⟩=#[.agg #[.int .i64 d[q].2.1.1,.int .i64 d[q].2.1.2.1,.int .i64 d[q].2.1.2.2],.pointer a]:=by
    unfold zf6 Fc;simp only[Fin.getElem_fin];rw[ha]
   rw[u]at hy;have HR:=ze hR;have HK:=ze z;have HP:=ze X;have aa:=ze j;clear hR z X I O j M Q u HY;generalize H:RX g d q=lb at *;have ab:Hid (w d[q].1=RX g d (q+1)):=by
    have:=E.o.2 q i;rw[Uw i]at this;exact this
   gi_wp2
   have ah:prog.follows Departure.mixedOrders=true:=by kernel_rfl
   have ad:Hid (RoundIn Fence.wide (n-1) prog l fn U assign body wr.drew λe r=>∃b,e=.returned (.bool b)/\((b=true/\J (f++[⟨q,i⟩]) r/\KpN wr.drew r)\/(b=false/\Jx (f++[⟨q,i⟩]) r))):=HR.o.mono (λe r h=>by
    rcases h with ⟨rfl,h⟩|⟨rfl,h⟩
    ·exact⟨true,rfl,.inl ⟨rfl,h⟩⟩
    ·exact⟨false,rfl,.inr ⟨rfl,h⟩⟩)
   gi_region_with_o (refine ad.o.mono ?_;rintro e W3 ⟨b,rfl,S⟩)
   all_goals (
    have Z:=ze H;clear H;rcases S with ⟨rfl,ae,N⟩|⟨rfl,G⟩)
   all_goals first
    |(
     have ag:W3.heap[lb]?=some (.cells (XD d[q].2.1 d[q].2.2 (Y d[q].1) (w d[q].1)) FC (0,0)):=N _ _ _ _ aa.o (by simp);have f5:W3.cell? ⟨lb,5,none⟩=some (.pointer (some ⟨RX g d (q+1),0,none⟩)):=by
      have:=(zm ag 5 _ rfl).1;rw[<- ab.o];exact this
     gi_wp2
     go_roundw
     case rel=>exact⟨q+1,f++[⟨q,i⟩],by omega,rfl,zmi HK.o (λk c t x e ht=>N k c t x e ht),by rw[yv,HP.o,DK];rfl,ae⟩
     case measure =>
      rw[<- Z.o,ZY m.o.1 m.o.2 (by omega),ZY m.o.1 m.o.2 (by omega)];omega)
    |(
     gi_wp2
     refine zv (BA rfl _ _ _) rfl ?_;exact⟨⟨_,rfl⟩,.inr ⟨_,trivial,G⟩⟩)
  ·obtain rfl:q=d.length:=by omega
   rw[ZT];have L:=ZZ (run_sameAddr_same (P:=prog) wr ⟨g,0,none⟩)
   gi_wp2
   go_end0
   exact⟨⟨_,rfl⟩,.inl ⟨f,X,hJ⟩⟩
def XI (n:Nat)(D:1<=n)(h g o i:Nat)(p q:Nat->Nat)(a:Int)(A:Nat->Prop)(d:Ek)(w:World)(j:w.heap[h]?=some (.cells #[yu g] Sa (0,0)))(b:M7 w A g o i p q a d):
  SeqStopsK Fence.wide n prog 274 #[.pointer (some ⟨h,0,none⟩)] (zf6 d) KpN (λG=>G.map Fin.val=List.range d.length) (λ_=>True) d.length w:=by
 intro l J v W u y z B h0;have f:KpN w W:=λk c t x e _=>(u.block k (zg e)).trans e;have m:M7 W A g o i p q a d:=⟨b.own,f _ _ _ _ b.mem (by simp),⟨f _ _ _ _ b.ring.ends (by simp),λx F=>f _ _ _ _ (b.ring.link x F) (by simp),b.ring.aD⟩,b.map.same (u.block _ b.map.lt),b.ok⟩;exact zjs n D l h g o i p q a A d J v (λs X Y E C=>y s X Y none E C (λr e=>by cases e)) B W (f _ _ _ _ j (by simp)) m h0
end
end Go.Proofs.YtfdbeldiomkdiaaGreatDoor
