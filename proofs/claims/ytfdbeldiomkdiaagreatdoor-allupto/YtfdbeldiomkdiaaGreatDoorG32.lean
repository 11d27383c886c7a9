import Derived.Test.YtfdbeldiomkdiaaGreatDoorG31
set_option maxHeartbeats 8000000
set_option maxRecDepth 100000
set_option linter.all false
namespace Go.Proofs.YtfdbeldiomkdiaaGreatDoor
open Go.RowKit Go.Proofs.Tryz
def CG:=@List.getElem_toArray
variable {A O O1 OP:Nat->Prop}{B cb db fb j k kk mb nb nbb nm pb pm:Nat}{C:Array Value}{F' came f:Fl}{LN:Ek}{T:List Nat}{V W0 X Y w w' w4 w8 wc:World}{d:Dk}{n':Nt}{pr:Mm}{xs ys:List Px}{z:Px}
section
attribute [local go_sem ↓] j9 jx ve jy ju jt vd jw
abbrev Jg:Array Value:=#[.bool false,.bool false,.int .u8 0,.int .u8 0,.int .u8 0,.int .u8 0,.int .u8 0,.int .u8 0,.int .u8 0,.int .u8 0,.slice none 0 0]
def TR (w e:World)(A:Nat->Prop)(d:Ek)(p:Pl)(f:Fl)(a:Nat):Prop:=∃c,xy e a c/\FR c/\C8 e c f/\((A a/\∃b,d.get p=some (b,yu a))\/(d.get p=none/\w.heap.size+2<=a))
def zkr {p:Pl}(g:LN.get p=none)(j:w.heap.size+1<=pb/\pb<wc.heap.size)(b:zc w wc)(a:zc wc w4)(e:xy (w4.alloc (.cells Cz qo)) w4.heap.size Fx.no)(c:FR xs)(h:C8 w xs f):
  TR w ((w4.alloc (.cells Cz qo)).setCells w4.heap.size 0 (Cc xs)) A LN p f w4.heap.size:=by
 have i:=a.size;have d:zc w ((w4.alloc (.cells Cz qo)).setCells w4.heap.size 0 (Cc xs)):=b.trans ((xo (a.alloc a.size _) a.size _ _).mono b.size);exact⟨xs,BP e Fx.aq c,c,h.below d,.inr ⟨g,by omega⟩⟩
def zks {p:Pl}(g:LN.get p=none)(i:w.heap.size+1<=pb/\pb<wc.heap.size)(a:zc w wc)(c:Below (wc.alloc (.cells Cz qo)).heap.size (wc.alloc (.cells Cz qo)) w4)(e:xy w4 wc.heap.size Fx.no)(b:FR xs)(h:C8 w xs f):
  TR w (w4.setCells wc.heap.size 0 (Cc xs)) A LN p f wc.heap.size:=by
 have d:zc w (w4.setCells wc.heap.size 0 (Cc xs)):=a.trans ((xo ((zi wc _).trans (c.mono (by simp))) (zk _) _ _).mono a.size);exact⟨xs,BP e Fx.aq b,b,h.below d,.inr ⟨g,by omega⟩⟩
def CS.next {c:Int}{m:Ms Nt}(h:CS W0 w O A OP cb nb db pm nm C d c pr m k)(i:zl (λb=>O b\/A b) qT w w')(f:Ms Nt)(n:Nat)
 (q:De w' O nb db f.al) (r:NSt d f.al) (p:f.al.ai+2*n<4611686018427387904) (j:KX w' (qv A w w') nm f.ag) (l:f.ag.length+n<=1000000000):CS W0 w' O (qv A w w') OP cb nb db pm nm C d c pr f n:=by
 have e:=i.size;refine⟨h.base.trans (i.below h.own h.base.size),?_,?_,?_,h.aG.stay i (by decide) (by decide),q,r,p,i.keep h.aC (by decide),h.cells,h.aV.stay i h.aN (by decide) (λ_ h=>h),?_,j,l⟩
 ·rintro b (a|a|a)
  ·exact h.own b (.inl a)
  ·exact h.own b (.inr a)
  ·exact zt h.base.size a.1
 ·rintro b a (g|g)
  ·exact h.apart b a g
  ·have:=h.lt b (.inl a);omega
 ·rintro b (a|(a|a)|a)
  ·exact zq (h.lt b (.inl a)) e
  ·exact zq (h.lt b (.inr (.inl a))) e
  ·exact a.2
  ·exact zq (h.lt b (.inr (.inr a))) e
 ·rintro b a (o|g|g)
  ·exact h.aN b a (.inl o)
  ·exact h.aN b a (.inr g)
  ·have:=h.lt b (.inr (.inr a));omega
def VI (a:FR xs)(b:FR ys):FR (Lp xs ys):=by rw[<- LZ a b];exact Lo a b 4
def VH {g:Fl}(h:C8 w xs f)(m:C8 w ys g):C8 w (Lp xs ys) (G3 f g):=by
 obtain⟨e,b,c⟩:=h;obtain⟨i,d,j⟩:=m;refine⟨by simp[Lp,e,i],by simp[G3,b,d],λk a=>?_⟩;have l:(Lp xs ys).getD k .no=if (xs.getD k .no).fits then xs.getD k .no else ys.getD k .no:=by
  unfold Lp;have n:k<xs.length:=by omega
  have o:k<ys.length:=by omega
  simp only[zj,IT,zo n,zo o,AX]
 rw[l,Ga f g (by rw[b,d]) k (by omega),(c k a).fits];split
 ·exact c k a
 ·exact j k a
def Dj.keep {a:Int}{L:Ek}(h:Dj w A mb a L)(b:zl O1 T w w')(f:FC∉T)(j:MeN∉T)(l:∀k,A k->O1 k->∃c t x,w.heap[k]?=some (.cells c t x)):Dj w' A mb a L:=by
 obtain⟨d,i,n,o,h⟩:=h;refine⟨d,i,n,o,h.own,b.keep h.mem j,⟨b.keep h.ring.ends f,λx m=>b.keep (h.ring.link x m) f,h.ring.aD⟩,h.map.same ?_,h.ok⟩;rcases b.block d h.map.lt with e|⟨e,-⟩
 ·exact e
 ·obtain⟨c,t,x,g⟩:=l d h.own.2.1 e;exact absurd rfl (h.map.not g)
def zck {σ:Type}{c:σ->zb->(zb×Bool)×σ}{a:Mm}{b:Nat}{m:Ms σ}{l:Int}(d:((j6 a m.ag (yd b l j)).getD (j%4) .no).there=true):BI c a b m l j=(.inr ((Bl (j6 a m.ag (yd b l j)) (j%4)).getD (j%4) .no),{m with ag:=m.ag.drop (yd b l j)++[(yd b l j,Bl (j6 a m.ag (yd b l j)) (j%4))]}):=by
 unfold BI;rw[if_pos d]
def Y4 {σ:Type}{c:σ->zb->(zb×Bool)×σ}{b:Mm}{a:Nat}{m:Ms σ}{l:Int}(d:((j6 b m.ag (yd a l j)).getD (j%4) .no).there=false)(e:(B0 c m.al (yd a l j)).1=some came):BI c b a m l j=(.inr ((Bl (G3 (j6 b m.ag (yd a l j)) came) (j%4)).getD (j%4) .no),{al:=(B0 c m.al (yd a l j)).2,ag:=m.ag.drop (yd a l j)++[(yd a l j,Bl (G3 (j6 b m.ag (yd a l j)) came) (j%4))]}):=by
 unfold BI;rw[if_neg (by rw[d];simp),show B0 c m.al (yd a l j)=(some came,_) from Prod.ext e rfl]
def zjo (X c:World)(O:Nat->Prop)(k j h:Nat)(d:Dk)(n:Nt)(F:Fl)(p:Pl)(i:Nat):Prop:=
 ∃g e f,zl (λb=>O b\/b=h) [148,3,qo] X c/\De c O k j f/\xy c h g/\FR g/\C8 c g e /\
  (((F.getD i .no).there=true/\f=n/\e=F)\/((F.getD i .no).there=false/\∃a,(B0 (qr d.fs) n p).1=some a/\f=(B0 (qr d.fs) n p).2/\e=G3 F a))
def zhg {N:Int}{m:Ms Nt}{c:Nat}{l:Int}(h:CS W0 w O A OP cb nb db pm nm C d N pr m (k+1))(ah:AS (NdR w A) LN m.ag)(F:(LN.map (·.2.2)).Nodup)
 (H:zc w X) (aI:w.heap.size<X.heap.size) (aq:xy X fb xs) (W:(A fb/\∃b,LN.get (yd c l j)=some (b,yu fb))\/(LN.get (yd c l j)=none/\w.heap.size+2<=fb)) (ht:zl (λb=>O b\/b=fb) [148,3,qo] X Y) (K:zl (λb=>b=fb) [qo] Y V) (n:zl A [FC] V w8) (aH:V.heap.size<=nbb/\nbb<w8.heap.size)
 (ae:Dj w8 (qv A V.drew w8) nm FI (zde FI (LN.drop (yd c l j)++[(nbb,yd c l j,.pointer (some ⟨fb,0,none⟩))]))) (aE:LN.length<=1000000000000) (ao:xy V fb (ys.set kk z)) (ad:FR (ys.set kk z)) (s:C8 V ys F') (hz:z={ys.getD kk .no with fits:=true}) (aD:z.ok) (ab:kk=j%4) (D:kk<4) (aw:De V O nb db n')
 (Q:((((j6 pr m.ag (yd c l j)).getD kk .no).there=true/\n'=m.al/\F'=j6 pr m.ag (yd c l j))\/(((j6 pr m.ag (yd c l j)).getD kk .no).there=false/\∃t,(B0 (qr d.fs) m.al (yd c l j)).1=some t/\n'=(B0 (qr d.fs) m.al (yd c l j)).2/\F'=G3 (j6 pr m.ag (yd c l j)) t)))
 (az:w8.heap[w.heap.size]?=some (.cells Px.no.cs.toArray Cq (0,0))) :
  zl (λb=>O b\/A b) qT w (w8.setCells w.heap.size 0 z.cs)/\CS W0 (w8.setCells w.heap.size 0 z.cs) O (qv A w (w8.setCells w.heap.size 0 z.cs)) OP cb nb db pm nm C d N pr (BI (qr d.fs) pr c m l j).2 k/\zl9 (w8.setCells w.heap.size 0 z.cs) (BI (qr d.fs) pr c m l j).1 (.returned (.tuple #[.agg z.cs.toArray,.nilIface])):=by
 have r:zl (λb=>b=w.heap.size) [Cq] w8 (w8.setCells w.heap.size 0 z.cs):=(zl.refl (λb=>b=w.heap.size) [Cq] w8).setCells (.inl rfl) az (by simp) _ _;have aF:(w8.setCells w.heap.size 0 z.cs).heap.size=w8.heap.size:=DY _ _;have s1:=H.size;have s2:=ht.size;have s3:=K.size;have s4:=n.size;have P:A fb\/w.heap.size+2<=fb:=W.imp (·.1) (·.2);have ap:fb<X.heap.size:=zg aq;have hT:zl (λb=>O b\/A b) qT w w8:=by
  have a1:zl (λb=>O b\/A b) qT w X:=.aa H;have a2:=a1.trans (ht.mono (λb g=>by
   rcases g with g|rfl
   ·exact Or.inl (Or.inl g)
   ·rcases P with L|L
    ·exact Or.inl (Or.inr L)
    ·exact Or.inr ⟨by omega,ap⟩) (by decide))
  have a3:=a2.trans (K.mono (λb g=>by
   subst g;rcases P with L|L
   ·exact Or.inl (Or.inr L)
   ·exact Or.inr ⟨by omega,by omega⟩) (by decide))
  exact a3.trans (n.mono (λb g=>Or.inl (Or.inr g)) (by decide))
 have U:zl (λb=>O b\/A b) qT w (w8.setCells w.heap.size 0 z.cs):=hT.aB (zk _) _ _;generalize w8.setCells w.heap.size 0 z.cs=w9 at *;have E:(BI (qr d.fs) pr c m l j)=(.inr ((Bl F' kk).getD kk .no),{al:=n',ag:=m.ag.drop (yd c l j)++[(yd c l j,Bl F' kk)]})/\NSt d n'/\n'.ai<=m.al.ai+2:=by
  rcases Q with ⟨p,rfl,rfl⟩|⟨p,t,B,rfl,rfl⟩
  ·rw[ab]at p ⊢;exact⟨zck p,h.st,by omega⟩
  ·rw[ab]at p ⊢;exact⟨Y4 p B,h.st.place _,by rw[zc3];omega⟩
 obtain⟨E,aA,aG⟩:=E;have M:C8 w9 (ys.set kk z) (Bl F' kk):=by
  have hv:C8 V (ys.set kk z) (Bl F' kk):=by
   refine⟨ad.1,by rw[MG];exact s.2.1,λi hi=>?_⟩;have p:(ys.set kk z).getD i .no=if i=kk then z else ys.getD i .no:=by
    simp only[zj,Mu,s.1]
    by_cases f:kk=i
    ·subst f;simp[D]
    ·have:¬i=kk:=λe=>f e.symm;simp[f,this]
   rw[p,Fb]
   by_cases f:i=kk
   ·rw[if_pos f,if_pos ⟨f,by rw[s.2.1];exact D⟩,hz,f];have:=s.2.2 kk D;exact⟨this.there,rfl,this.hash,this.bA⟩
   ·rw[if_neg f,if_neg (by intro hh;exact f hh.1)];exact s.2.2 i hi
  exact(hv.aj n (by decide)).aj r (by decide)
 have ax:zde FI (LN.drop (yd c l j)++[(nbb,yd c l j,.pointer (some ⟨fb,0,none⟩))])=LN.drop (yd c l j)++[(nbb,yd c l j,yu fb)]:=by
  unfold zde;rw[if_neg]
  ·rfl
  ·have:(LN.drop (yd c l j)).length<=LN.length:=BL _ _;simp only[zw,xf,jq];unfold FI;omega
 rw[ax]at ae;have o:∀x∈LN.drop (yd c l j),x.2.2≠yu fb:=by
  intro x hx e;have R:=CX.1 hx;have aC:¬x.2.1=yd c l j:=by simpa using R.2
  rcases W with ⟨-,b,hg⟩|⟨-,hn⟩
  ·have af:=Kn hg;have ay:=List.pairwise_map.1 F;obtain⟨i1,Z,p⟩:=ji R.1;obtain⟨i2,J,B⟩:=ji af;have am:=FN.1 ay;rcases Fi i1 i2 with av|an|ar
   ·exact am i1 i2 Z J av (by rw[p,B];exact e)
   ·subst an;rw[p]at B;exact aC (by rw[B])
   ·exact am i2 i1 J Z ar (by rw[p,B];exact e.symm)
  ·obtain⟨y,-,S⟩:=ah.mem x R.1;obtain⟨q,G,B,-,I,-⟩:=S.2;rw[B]at e;have:=WK e;have:=zg I;omega
 rw[E];refine⟨U,h.next U _ k ((aw.aj n (by decide) (by decide) (by decide)).aj r (by decide) (by decide) (by decide)) aA (by have:=h.bk;simp only;omega) ?_ ?_,z,_,rfl,aD,?_,rfl⟩
 ·refine⟨LN.drop (yd c l j)++[(nbb,yd c l j,yu fb)],?_,?_,?_⟩
  ·refine ae.stay r ?_ ?_
   ·rintro b g rfl;rcases g with g|g
    ·have:=h.lt _ (.inr (.inl g));omega
    ·have:V.drew.heap.size=V.heap.size:=rfl;omega
   ·rintro b (g|g)
    ·exact .inl g
    ·have:V.drew.heap.size=V.heap.size:=rfl;exact .inr ⟨by omega,by omega⟩
  ·refine AS.snoc ?_ ⟨rfl,fb,ys.set kk z,rfl,?_,r.keep (n.keep ao (by decide)) (by decide),ad,M⟩
   ·refine(ah.filter _ _ (λa b S=>by rw[S.1])).mono (λx hx y S=>⟨S.1,?_⟩);obtain⟨q,G,B,T,I,au,J⟩:=S.2;have ak:q≠fb:=λe=>o x hx (by rw[B,e]);have f1:xy X q G:=(H.block _ (zg I)).trans I;have f2:xy Y q G:=ht.stay f1 (by
     rintro(hO|e)
     ·exact h.apart _ hO T
     ·exact ak e)
    have f3:xy V q G:=K.stay f2 ak;refine⟨q,G,B,.inl T,r.keep (n.keep f3 (by decide)) (by decide),au,?_⟩;exact((((J.below H).aj ht (by decide)).aj K (by decide)).aj n (by decide)).aj r (by decide)
   ·rcases P with L|L
    ·exact .inl L
    ·exact .inr ⟨by omega,by omega⟩
  ·rw[yv,Aj];refine⟨(List.filter_sublist.map _).nodup F,by simp,?_⟩;intro v hv u hu;simp only[j4,DQ,yl]at hu;subst hu;obtain⟨x,hx,rfl⟩:=yi.1 hv;exact o x hx
 ·have hd:(m.ag.drop (yd c l j)).length<=m.ag.length:=BL _ _;have:=h.short;simp only[zw,xf,jq];omega
 ·have:=M.2.2 kk D;have p:(ys.set kk z).getD kk .no=z:=by
   have:kk<ys.length:=by rw[s.1];exact D
   simp[zj,this]
  rw[p]at this;exact this
def A6 {a:World}(h:Below B a.drew w):Below B a w:=⟨h.os,h.tape,h.output,h.size,h.block⟩
def Wt (W0:World)(bB:Nat->Addr)(O A OP:Nat->Prop)(M nb db pm nm:Nat)(C:Array Value)(d:Dk)(P:Int)(pr:Mm)(m:Ms Nt)(k c:Nat)(l:Int)(j:Nat)(b0:c<9223372036854775808)(bS:-1<=l)(cB:l<=100)(hj:j<qx l c)(w:World)(hE:DW W0)(hS:vj W0 bB)(hH:TQ d.fs c)(cD:m.al.ao=[])
 (h:CS W0 w O A OP M nb db pm nm C d P pr m (k+1)) :
  Calls prog 234 #[yu M,.int .i64 c,.int .i64 l,.int .i64 j] w λr w' =>
   zl (λb=>O b\/A b) qT w w'/\CS W0 w' O (qv A w w') OP M nb db pm nm C d P pr (BI (qr d.fs) pr c m l j).2 k/\zl9 w' (BI (qr d.fs) pr c m l j).1 r:=by
 have bh:j<9223372036854775808:=Nat.lt_trans (zq hj (IY l c)) b0;obtain⟨L,aP,b3,b4,bn⟩:=Rk c l j hj;obtain⟨e,bQ⟩:∃e,e=j%4:=⟨_,rfl⟩;obtain⟨q,hq⟩:∃q,q=j/4:=⟨_,rfl⟩;have aW:(j:Int)%4=(e:Int):=by omega
 have ch:=ze bQ;have HQ:=ze hq;have aN:e<4:=by omega
 rw[<- hq]at aP bn;have ai:=ze aN;have a5:=ze aP;have B:=ze h;have HE:=ze hE;have HS:=ze hS;obtain⟨LN,bU,bY,av⟩:=h.aM;obtain⟨LP,bV,bZ⟩:=h.aV;have a3:=ze bU;have ak:=ze bY;have a4:=ze av;have bs:=ze bV;have co:=ze bZ;have cg:=ze bh;have HW:Hid (1<=L/\L<=4/\4*q+L<=qx l c):=⟨b3,b4,bn⟩;have bt:=ze (λw=>Fu c b0 l bS cB j bh w);have aU:FV (yd c l j):=by
  rw[aP];refine⟨⟨by simp only;omega,by simp only;omega⟩,⟨by simp only;omega,by simp only;omega⟩,⟨by simp only;omega,by simp only;omega⟩⟩
 have D:=ze aU;have bq:=ze (hH m.al l j cD bS hj);clear h hE hS bU bY av bV bZ hj bh aU b3 b4 bn aN aP bQ hq;have aH:Hid (Fc (yd c l j)=.agg #[.int .i64 l,.int .i64 (q:Int),.int .i64 (L:Int)]):=by show _=_;rw[a5.o];rfl
 unfold yu;go_enter func234,ntmps234;go_wp2_with fail;refine(bt.o _).mono ?_;rintro r w1 ⟨rfl,aJ⟩;rw[aH.o];go_wp2_with fail;rw[aW];clear aW;have be:zc w w1:=(zi w _).trans (aJ.mono (by simp));have bu:Hid (w1.heap[w.heap.size]?=some (.cells Jg Cq (0,0))):=(aJ.block _ (by simp)).trans (zf _ _);have bG:(w1.alloc (.cells #[.int .i64 l,.int .i64 (q:Int),.int .i64 (L:Int)] 215)).heap[w1.heap.size]?=some (.cells #[.int .i64 l,.int .i64 (q:Int),.int .i64 (L:Int)] 215 (0,0)):=zf _ _;have bE:zc w (w1.alloc (.cells #[.int .i64 l,.int .i64 (q:Int),.int .i64 (L:Int)] 215)):=be.alloc be.size _;have a6:Hid ((w1.alloc (.cells #[.int .i64 l,.int .i64 (q:Int),.int .i64 (L:Int)] 215)).heap[w.heap.size]?=some (.cells Jg Cq (0,0))):=zr bu.o;have S:=ze bG;have ad:=ze bE;have bA:Hid (w.heap.size+1<=w1.heap.size):=ze (by have:=aJ.size;simpa using this);clear aJ be bG bE bu;generalize w1.heap.size=N at *;generalize w1.alloc (.cells #[.int .i64 l,.int .i64 (q:Int),.int .i64 (L:Int)] 215)=W2 at *;have aA:Hid (W2.heap[M]?=some (.cells C Bd (0,0))):=(ad.o.block _ (zg B.o.aC)).trans B.o.aC;go_cut [12,13] from 24 to 32 (λbo cE wx=>zc W2 wx/\∃a b,bo=.pointer a/\cE=.bool b/\((b=true/\∃bb,LN.get (yd c l j)=some (bb,.pointer a))\/(b=false/\a=none/\LN.get (yd c l j)=none)))
 case first =>
  have cx:W2.cell? ⟨M,14,none⟩=some (.pointer (some ⟨nm,0,none⟩)):=(zm aA.o 14 _ B.o.cells.aM).1;obtain⟨p0,-⟩:=zm S.o 0 _ rfl;obtain⟨p1,-⟩:=zm S.o 1 _ rfl;obtain⟨p2,-⟩:=zm S.o 2 _ rfl;simp only[CG,Af,A8]at p0 p1 p2;obtain⟨a,b,an,F⟩:∃a b,((b=true/\∃bb,LN.get (yd c l j)=some (bb,.pointer a))\/(b=false/\a=none/\LN.get (yd c l j)=none))/\∀K,zc w K->Calls prog 228 #[yu nm,Fc (yd c l j)] K λr w'=>r=.returned (.tuple #[.pointer a,.bool b])/\zc K w':=by
   rcases KX.get ak.o (yd c l j)with ⟨E,g2⟩|⟨b,v,f,E,g2,⟨J,y,rfl,-⟩,-⟩
   ·exact⟨none,false,.inr ⟨rfl,rfl,E⟩,λK hb=>Us A nm FI LN _ D.o K (a3.o.below hb (λ_ h=>h)) E⟩
   ·exact⟨_,true,.inl ⟨rfl,b,E⟩,λK hb=>Q4 A nm FI LN _ D.o K (a3.o.below hb (λ_ h=>h)) b _ E⟩
  have az:=ze an;have g:=ze F;clear an F;unfold yu at g;rw[aH.o]at g
  go_region_with (go_at_call 228;refine(g.o _ (by exact ad.o.drew)).mono ?_;rintro r w3 ⟨rfl,bI⟩;have b8:=ze bI;clear bI)
  all_goals go_wp2_with fail
  all_goals go_meet
  all_goals exact⟨A6 b8.o,a,b,rfl,rfl,az.o⟩
 case rest =>
  obtain⟨ap,a,b,rfl,rfl,an⟩:=hcut;obtain⟨u,cz⟩:∃u,u=wc:=⟨_,rfl⟩;subst cz;have az:=ze an;have n:=ze (ad.o.trans (ap.mono ad.o.size));have aB:Hid (u.heap[M]?=some (.cells C Bd (0,0))):=(ap.block _ (zg aA.o)).trans aA.o;have H:Hid (u.heap[N]?=some (.cells #[.int .i64 l,.int .i64 (q:Int),.int .i64 (L:Int)] 215 (0,0))):=(ap.block _ (zg S.o)).trans S.o;have a8:Hid (u.heap[w.heap.size]?=some (.cells Jg Cq (0,0))):=(ap.block _ (zg a6.o)).trans a6.o;have aI:Hid (w.heap.size+1<=N/\N<u.heap.size):=⟨bA.o,zg H.o⟩;clear ap an ad aA S a6 bA
  go_upto_if 34 with fail
  go_cut [12,14,15] from 33 to 43 (λbo _ _ wx=>∃J,bo=.pointer (some ⟨J,0,none⟩)/\TR w wx A LN (yd c l j) (j6 pr m.ag (yd c l j)) J/\zc u wx)
  case first =>
   rcases az.o with ⟨rfl,bb,hg⟩|⟨rfl,rfl,hg⟩
   ·go_wp2
    go_meet;rcases KX.get ak.o (yd c l j)with ⟨E,g2⟩|⟨b,v,f,E,g2,⟨J,y,rfl,hA,hf,aK,aL⟩,-⟩
    ·rw[E]at hg;simp at hg
    ·rw[E]at hg;simp only[zn,xj]at hg;obtain⟨rfl,hg⟩:=hg;refine⟨J,hg.symm,⟨y,(n.o.block _ (zg hf)).trans hf,aK,?_,.inl ⟨hA,_,E⟩⟩,zu _ _⟩;unfold j6;rw[g2];exact aL.below n.o
   ·have HG:=ze hg;obtain⟨y,b,b6,b5,F⟩:∃y b,FR y/\C8 w y (j6 pr m.ag (yd c l j))/\∀K,zc w K->Calls prog 276 #[yu pm,Fc (yd c l j)] K λr w'=>r=.returned (.tuple #[.agg (Cc y).toArray,.bool b])/\zc K w':=by
     have hn:m.ag.get (yd c l j)=none:=by
      rcases KX.get ak.o (yd c l j)with ⟨E,g2⟩|⟨b,v,f,E,g2,-,-⟩
      ·exact g2
      ·rw[E]at hg;simp at hg
     unfold j6;rw[hn];rcases MA.get co.o (yd c l j)with ⟨E,g2⟩|⟨b,y,f,E,g2,h3,h4⟩
     ·rw[g2];exact⟨Fx.no,false,Fx.aq,C8.none w,λK hb=>zkj OP pm P LP _ D.o K (bs.o.below hb (λ_ h=>h)) E⟩
     ·rw[g2];exact⟨y,true,h3,h4,λK hb=>zgi OP pm P LP _ D.o K (bs.o.below hb (λ_ h=>h)) b _ E⟩
    have U:=ze b6;have bz:=ze b5;have g:=ze F;clear b6 b5 F hg;have bC:u.cell? ⟨M,13,none⟩=some (.pointer (some ⟨pm,0,none⟩)):=(zm aB.o 13 _ B.o.cells.aV).1;obtain⟨p0,-⟩:=zm H.o 0 _ rfl;obtain⟨p1,-⟩:=zm H.o 1 _ rfl;obtain⟨p2,-⟩:=zm H.o 2 _ rfl;simp only[CG,Af,A8]at p0 p1 p2;have cF:∀o,(u.alloc o).cell? ⟨M,13,none⟩=some (.pointer (some ⟨pm,0,none⟩)):=λo=>by rw[xg _ _ ⟨M,13,none⟩ (yf bC)];exact bC
    have cG:∀o,(u.alloc o).cell? ⟨N,0,none⟩=some (.int .i64 l):=λo=>by rw[xg _ _ ⟨N,0,none⟩ (yf p0)];exact p0
    have cH:∀o,(u.alloc o).cell? ⟨N,1,none⟩=some (.int .i64 (q:Int)):=λo=>by rw[xg _ _ ⟨N,1,none⟩ (yf p1)];exact p1
    have cI:∀o,(u.alloc o).cell? ⟨N,2,none⟩=some (.int .i64 (L:Int)):=λo=>by rw[xg _ _ ⟨N,2,none⟩ (yf p2)];exact p2
    unfold yu at g;rw[aH.o]at g
    go_wp2
    go_region_with (first
     |(go_at_call 276;refine(g.o u.drew (by exact n.o.drew)).mono ?_;rintro r w4 ⟨rfl,Z⟩;have G:=ze (A6 Z);have i:xy (w4.alloc (.cells Cz qo)) w4.heap.size Fx.no:=zf w4 _;have bl:=Co (BO i Fx.aq) U.o.len (DE U.o.2);have aZ:=ze i;clear Z i)
     |(go_at_call 276;refine(g.o (u.alloc (.cells Cz qo)).drew (by exact(n.o.alloc n.o.size _).drew)).mono ?_;rintro r w4 ⟨rfl,Z⟩;have G:=ze (A6 Z);have i:xy w4 u.heap.size Fx.no:=((A6 Z).block _ (by simp)).trans (zf u _);have bl:=Co (BO i Fx.aq) U.o.len (DE U.o.2);have aZ:=ze i;clear Z i))
    all_goals go_wp2_with fail
    all_goals go_meet
    all_goals (first
     |exact⟨w4.heap.size,rfl,zkr HG.o aI.o n.o G.o aZ.o U.o bz.o,xo (G.o.alloc G.o.size _) G.o.size _ _⟩
     |exact⟨u.heap.size,rfl,zks HG.o aI.o n.o G.o aZ.o U.o bz.o,xo ((zi u _).trans (G.o.mono (by simp))) (zk _) _ _⟩)
  case rest =>
   obtain⟨J,rfl,cA,ar⟩:=hcut;obtain⟨X,hX⟩:∃X,X=wc:=⟨_,rfl⟩;subst hX;have R:=ze (n.o.trans (ar.mono n.o.size));have aY:Hid (X.heap[M]?=some (.cells C Bd (0,0))):=(ar.block _ (zg aB.o)).trans aB.o;have T:Hid (X.heap[N]?=some (.cells #[.int .i64 l,.int .i64 (q:Int),.int .i64 (L:Int)] 215 (0,0))):=(ar.block _ (zg H.o)).trans H.o;have bw:Hid (X.heap[w.heap.size]?=some (.cells Jg Cq (0,0))):=(ar.block _ (zg a8.o)).trans a8.o;have cw:Hid (w.heap.size+1<=N/\N<X.heap.size):=⟨aI.o.1,zg T.o⟩;obtain⟨y,aL,aK,bN,bM⟩:=cA;have af:=ze aL;have ae:=ze aK;have a0:=ze bN;have ce:=ze bM;clear aL aK bN bM ar az n aB H a8 aI;have bi:e<y.length:=by rw[ae.o.1];exact ai.o
   have aN:e<4:=ai.o;have ab:y[e]=y.getD e .no:=by simp[zj,bi]
   have h6:=(af.o.cell ae.o.2 bi (j:=0) (by omega) (v:=.bool y[e].there) rfl);rw[NU,ab]at h6;obtain⟨h6,bD⟩:=h6;obtain⟨t,ht⟩:∃t,(y.getD e .no).there=t:=⟨_,rfl⟩;rw[ht]at h6;have bx:=ze ht;clear ht ab bi;have a1:Hid ((j6 pr m.ag (yd c l j)).getD e .no=(j6 pr m.ag (yd c l j)).getD e .no/\((j6 pr m.ag (yd c l j)).getD e .no).there=t):=⟨rfl,by rw[<- (a0.o.2.2 e aN).there];exact bx.o⟩
   go_upto_if 50 with fail
   go_cut [16,17] from 44 to 63 (λ_ _ wx=>zjo X wx O nb db J d m.al (j6 pr m.ag (yd c l j)) (yd c l j) e)
   case first =>
    cases t with
    |true =>
     go_wp2
     go_meet;exact⟨y,_,_,zl.refl _ _ _,B.o.al.below R.o,af.o,ae.o,a0.o,.inl ⟨a1.o.2,rfl,rfl⟩⟩
    |false =>
     obtain⟨p0,-⟩:=zm T.o 0 _ rfl;obtain⟨p1,-⟩:=zm T.o 1 _ rfl;obtain⟨p2,-⟩:=zm T.o 2 _ rfl;simp only[CG,Af,A8]at p0 p1 p2;have bH:zl O [] w X:=.aa R.o;obtain⟨f,hf⟩:=bq.o;have bg:=hf;rw[a5.o]at bg;have HF:=ze (zbq W0 bB O nb db M m.al d l q L HW.o.1 HW.o.2.1 (by have:=HQ.o;have:=cg.o;omega) X (B.o.base.trans (R.o.mono B.o.base.size)) HE.o HS.o (λb hb=>B.o.own b (.inl hb)) (B.o.st.ok (by have:=B.o.bk;omega)) (B.o.aG.stay bH (by simp) (by simp)) (B.o.al.below R.o) C aY.o B.o.cells.al f bg);have cf:=ze hf;clear bH hf bg;unfold Fc yu at HF;simp only at HF;rw[<- a5.o]at HF;go_wp2_with fail;refine HF.o.mono ?_;rintro r w5 ⟨bm,bF,Q,s,ax,rfl⟩;have ct:=ze bm;have cl:=ze bF;have i:xy (w5.alloc (.cells Cz qo)) w5.heap.size Fx.no:=zf _ _;have bl:=Co (BO i Fx.aq) s.len (DE s.2);have bf:zc w5 ((w5.alloc (.cells Cz qo)).setCells w5.heap.size 0 (Cc Q)):=xo (zi _ _) (zk _) _ _;have cC:=Es (vv (BP i Fx.aq s)) s.len;have ca:Hid (xy ((w5.alloc (.cells Cz qo)).setCells w5.heap.size 0 (Cc Q)) J y):=have h:=bm.keep af.o (by decide);(bf.block _ (zg h)).trans h;have aX:=ze bf;have p:=ze s;have bd:=ze ax;clear bm bF p0 p1 p2 h6 bD HF s ax i bf;go_wp2_with fail;refine(zgb (λb=>b=J) J y Q ae.o p.o _ rfl ca.o).mono ?_;rintro r w7 ⟨rfl,b1,bL⟩;have ba:=ze b1;have cc:=ze bL;clear b1 bL
     go_wp2
     go_meet;have bJ:zl (λb=>O b\/b=J) [148,3,qo] X w7:=((ct.o.mono (λ_ h=>.inl h) (by decide)).ah aX.o).trans (ba.o.mono (λ_ h=>.inl (.inr h)) (by decide));exact⟨_,_,_,bJ,(cl.o.below aX.o).aj ba.o (by decide) (by decide) (by decide),cc.o,VI ae.o p.o,VH (a0.o.aj bJ (by decide)) ((bd.o.below aX.o).aj ba.o (by decide)),.inr ⟨a1.o.2,f,cf.o,rfl,rfl⟩⟩
   case rest =>
    obtain⟨Y,hY⟩:∃Y,Y=wc:=⟨_,rfl⟩;subst hY;obtain⟨Q,F',n',ht,hN,bO,s,ax,aw⟩:=hcut;have HT:=ze ht;have HN:=ze hN;have aD:=ze bO;have p:=ze s;have bd:=ze ax;have a9:=ze aw;have b9:Hid (Y.heap[M]?=some (.cells C Bd (0,0))):=ht.keep aY.o (by decide);have cp:Hid (Y.heap[N]?=some (.cells #[.int .i64 l,.int .i64 (q:Int),.int .i64 (L:Int)] 215 (0,0))):=ht.keep T.o (by decide);have cr:Hid (Y.heap[w.heap.size]?=some (.cells Px.no.cs.toArray Cq (0,0))):=ht.keep bw.o (by decide);have ck:Hid (Dj Y A nm FI LN):=(a3.o.below R.o (λ_ h=>h)).keep ht (by decide) (by decide) (λb hA hO=>by
     rcases hO with hO|rfl
     ·exact absurd hA (B.o.apart b hO)
     ·exact⟨_,_,_,af.o⟩)
    clear ht hN bO s ax aw a1 aY T bw h6 bD bx;have aO:e<Q.length:=by rw[p.o.1];exact ai.o
    have ab:Q[e]=Q.getD e .no:=by simp[zj,aO]
    obtain⟨z,hz⟩:∃z:Px,z={Q.getD e .no with fits:=true}:=⟨_,rfl⟩;have aS:z.ok:=by rw[hz];have:=EW p.o e;exact⟨this.1,this.2⟩
    obtain⟨h7,cy⟩:=aD.o.cell p.o.2 aO (j:=1) (by omega) (v:=.bool Q[e].fits) rfl;have bp:=ze (aD.o.aE p.o.2 aO (j:=1) (v:=.bool true) (x:=z) (by omega) aS (by rw[hz,ab];rfl));have I:=ze ((zl.refl (λb=>b=J) [qo] Y).set (o:=e*11+1) (.inl rfl) aD.o (by simp) (.bool true));have W:=ze aS;have HZ:=ze hz;have a2:Hid (FR (Q.set e z)):=⟨by rw[DJ];exact p.o.1,OG p.o.2 e aS⟩;rw[ab]at h7;clear aO ab hz aS;go_wp2_with fail;generalize Y.setCell ⟨J,e*11+1,none⟩ (.bool true)=V at *;have bK:V.heap[M]?=some (.cells C Bd (0,0)):=I.o.keep b9.o (by decide);have aQ:V.heap[N]?=some (.cells #[.int .i64 l,.int .i64 (q:Int),.int .i64 (L:Int)] 215 (0,0)):=I.o.keep cp.o (by decide);have cq:Hid (V.heap[w.heap.size]?=some (.cells Px.no.cs.toArray Cq (0,0))):=I.o.keep cr.o (by decide);have cj:Hid (Dj V A nm FI LN):=ck.o.keep I.o (by decide) (by decide) (λb _ hb=>by subst hb;exact⟨_,_,_,aD.o⟩);have cn:Hid (De V O nb db n'):=HN.o.aj I.o (by decide) (by decide) (by decide);have cv:Hid (C8 V Q F'):=bd.o.aj I.o (by decide);have cx:V.cell? ⟨M,14,none⟩=some (.pointer (some ⟨nm,0,none⟩)):=(zm bK 14 _ B.o.cells.aM).1;obtain⟨p0,-⟩:=zm aQ 0 _ rfl;obtain⟨p1,-⟩:=zm aQ 1 _ rfl;obtain⟨p2,-⟩:=zm aQ 2 _ rfl;simp only[CG,Af,A8]at p0 p1 p2;have au:LN.length<=1000000000000:=by have:=ak.o.len;have:=B.o.short;omega
    have am:=ze (zid A nm FI LN (yd c l j) D.o (some ⟨J,0,none⟩) V.drew (cj.o.below (zu _ V).drew (λ_ h=>h)) au);have br:=ze au;unfold yu at am;rw[aH.o]at am;clear h7 cy bK aQ au
    go_region_with (go_at_call 279;refine am.o.mono ?_;rintro r w8 ⟨rfl,b2,b7,bW,bX,bT⟩;have bc:=ze b2.aF;have ci:=ze bT;have cm:Hid (V.heap.size<=b7/\b7<w8.heap.size):=⟨bW,bX⟩;clear b2 bT bW bX)
    all_goals (
     have cd:Hid (xy w8 J (Q.set e z)):=bc.o.keep bp.o (by decide);have bR:e<(Q.set e z).length:=by rw[a2.o.1];exact ai.o
     have bP:(Q.set e z)[e]=z:=by simp
     have bj:=cd.o.piece a2.o.2 bR;rw[bP]at bj;have cC:=QG bj (Px.ay W.o);have a7:Hid (w8.heap[w.heap.size]?=some (.cells Px.no.cs.toArray Cq (0,0))):=bc.o.keep cq.o (by decide);have bl:=Gs (BG a7.o) (Px.ay W.o) (Px.aR W.o);have cu:=ze (Cd a7.o (ds:=z.cs) (by rw[Px.ay W.o,Px.ay Px.aq]));clear bR bP bj;go_wp2_with fail;refine zv (v:=.tuple #[.agg z.cs.toArray,.nilIface]) (vb results234 _ _ w.heap.size Cq _ (0,0) _ rfl cu.o underlying217 rfl (by rw[Ov,ql,Px.ay W.o]) _ rfl) rfl ?_;exact zhg B.o ak.o a4.o R.o (by have:=cw.o;omega) af.o ce.o HT.o I.o bc.o cm.o ci.o br.o bp.o a2.o cv.o HZ.o W.o ch.o ai.o cn.o a9.o a7.o)
end
variable {A':Nat->Prop}{W W1:World}{k' k0:Nat}
section
attribute [local go_sem ↓] j9 jx ve jy ju jt vd jw OV
def F0.below (h:F0 W)(a:zc W w):F0 w:=λj b=>by
 have:=h j b;rw[a.cell (p:=⟨_,j,none⟩) (yf this)];exact this
def Z5 (o:Sum (zb) (zb))(r:Ending):Prop:=∃h,o=.inr h/\h.length=8/\r=.returned (.tuple #[.agg (hv h),.nilIface])
def Q5 (w:World){x:zb}(a:x.length=8):(K4 (.pointer (some ⟨w.heap.size,0,none⟩)) (.agg (hv x))).run prog (w.alloc (.cells Dr 91))=.ok () ((w.alloc (.cells Dr 91)).setCells w.heap.size 0 (x.map bv))/\((w.alloc (.cells Dr 91)).setCells w.heap.size 0 (x.map bv)).heap[w.heap.size]?=some (.cells (hv x) 91 (0,0))/\zc w ((w.alloc (.cells Dr 91)).setCells w.heap.size 0 (x.map bv)):=by
 have h:(w.alloc (.cells Dr 91)).heap[w.heap.size]?=some (.cells (BE.map bv).toArray 91 (0,0)):=zf _ _;exact⟨Gr (by have:=BG h;simpa[BE]using this) a,Cd h (ds:=x.map bv) (by simp[a,BE]),xo (zi _ _) (zk _) _ _⟩
def Ie (w:World)(a n:Nat):zc w ((w.alloc (.cells #[.int .i64 a,.int .i64 n] 175)).alloc (.cells Dr 91))/\((w.alloc (.cells #[.int .i64 a,.int .i64 n] 175)).alloc (.cells Dr 91)).heap[w.heap.size]?=some (.cells #[.int .i64 a,.int .i64 n] 175 (0,0))/\((w.alloc (.cells #[.int .i64 a,.int .i64 n] 175)).alloc (.cells Dr 91)).heap[w.heap.size+1]?=some (.cells (hv BE) 91 (0,0)):=by
 refine⟨qg w _ _,zr (zf _ _),?_⟩;have:=zf (w.alloc (.cells #[.int .i64 a,.int .i64 n] 175)) (.cells Dr 91);rw[show(w.alloc (.cells #[.int .i64 a,.int .i64 n] 175)).heap.size=w.heap.size+1 by simp]at this;exact this
def zmm {n:Nat}(h:n<9223372036854775808):IntKind.u64.wrap (n:Int)=(n:Int):=by
 have a:(n:Int)<18446744073709551616:=by omega
 have h0:0<=(n:Int):=by omega
 simp[IntKind.wrap,IntKind.bits,IntKind.signed];omega
def CS.less {a:Int}{m:Ms Nt}(h:CS W0 w O A OP cb nb db pm nm C d a pr m k)(b:k'<=k):CS W0 w O A OP cb nb db pm nm C d a pr m k':=
 ⟨h.base,h.own,h.apart,h.lt,h.aG,h.al,h.st,by have:=h.bk;omega,h.aC,h.cells,h.aV,h.aN,h.aM,by have:=h.short;omega⟩
def CS.below {a:Int}{m:Ms Nt}(h:CS W0 w O A OP cb nb db pm nm C d a pr m k)(c:zc w w'):CS W0 w' O A OP cb nb db pm nm C d a pr m k:=by
 have e:zl (λ_=>False) [] w w':=.aa c;exact⟨h.base.trans (c.mono h.base.size),h.own,h.apart,λb f=>zq (h.lt b f) c.size,h.aG.stay e (by simp) (by simp),h.al.below c,h.st,h.bk,e.keep h.aC (by simp),h.cells,h.aV.stay e (λ_ _ h=>h) (by simp) (λ_ h=>h),h.aN,h.aM.stay e (λ_ _ h=>h) (by simp) (by simp) (λ_ h=>h),h.short⟩
def CS.mono {f:Int}{m:Ms Nt}(h:CS W0 w O A OP cb nb db pm nm C d f pr m k)(l:∀b,A b->A' b)(i:∀b,A' b->A b\/(W0.heap.size<=b/\b<w.heap.size/\¬O b/\¬OP b)):CS W0 w O A' OP cb nb db pm nm C d f pr m k:=by
 refine⟨h.base,?_,?_,?_,h.aG,h.al,h.st,h.bk,h.aC,h.cells,h.aV,?_,?_,h.short⟩
 ·rintro b (c|c)
  ·exact h.own b (.inl c)
  ·rcases i b c with c|c
   ·exact h.own b (.inr c)
   ·exact c.1
 ·intro b j g;rcases i b g with c|c
  ·exact h.apart b j c
  ·exact c.2.2.1 j
 ·rintro b (c|c|c)
  ·exact h.lt b (.inl c)
  ·rcases i b c with c|c
   ·exact h.lt b (.inr (.inl c))
   ·exact c.2.1
  ·exact h.lt b (.inr (.inr c))
 ·rintro b c (j|g)
  ·exact h.aN b c (.inl j)
  ·rcases i b g with g|g
   ·exact h.aN b c (.inr g)
   ·exact g.2.2.2 c
 ·obtain⟨o,q,r,s⟩:=h.aM;refine⟨o,q.below (zu _ _) l,r.mono λa _ b n=>⟨n.1,?_⟩,s⟩;obtain⟨p,v,e,t,u⟩:=n.2;exact⟨p,v,e,l _ t,u⟩
def Ri {b:Nat}{x:Px}(h:w.heap[b]?=some (.cells x.cs.toArray Cq (0,0))):w.rangeAt b 2 (x.hash.map bv):=by
 have c:=vv h;intro j v hv;have a:=(qm.1 hv).1;have:=c (2+j) v (by
  unfold Px.cs;rw[show 2+j=j+1+1 by omega,Aq,Aq,qh (by simpa using a)];exact hv)
 rw[xk]at this;exact this
def CS.aside {c:Int}{m:Ms Nt}{x:Nat}(h:CS W0 w O A OP cb nb db pm nm C d c pr m k)(g:zl (λb=>b=x) T w w')(j:W0.heap.size<=x)(i:¬O x/\¬A x/\¬OP x)
 (a:∀t∈[144,125,148,155,3,Bd,5,qo],t∉T):CS W0 w' O A OP cb nb db pm nm C d c pr m k:=by
 refine⟨h.base.trans (g.below (λb f=>by rw[f];exact j) h.base.size),h.own,h.apart,λb f=>zq (h.lt b f) g.size,h.aG.stay g (a _ (by simp)) (a _ (by simp)),h.al.aj g (a _ (by simp)) (a _ (by simp)) (a _ (by simp)),h.st,h.bk,g.keep h.aC (a _ (by simp)),h.cells,h.aV.stay g (λb f e=>?_) (a _ (by simp)) (λ_ h=>h),h.aN,h.aM.stay g (λb f e=>?_) (a _ (by simp)) (a _ (by simp)) (λ_ h=>h),h.short⟩
 ·subst e;exact i.2.2 f
 ·subst e;exact i.2.1 f
def Xd {g:Int}{m s:Ms Nt}(h0:CS W0 w O A OP cb nb db pm nm C d g pr m k0)(z:w.heap.size+1<W1.heap.size)(p:CS W0 w4 O (qv A W1 w4) OP cb nb db pm nm C d g pr s k)(o:zc w W1)(j:zc w4 V)(u:zl (λb=>O b\/A b) qT w V)
 (i:V.heap[w.heap.size+1]?=some (.cells (hv BE) 91 (0,0))) (a:zb) (r:a.length=8) :
  (K4 (.pointer (some ⟨w.heap.size+1,0,none⟩)) (.agg (hv a))).run prog V=.ok () (V.setCells (w.heap.size+1) 0 (a.map bv))/\(V.setCells (w.heap.size+1) 0 (a.map bv)).heap[w.heap.size+1]?=some (.cells (hv a) 91 (0,0))/\zl (λb=>O b\/A b) qT w (V.setCells (w.heap.size+1) 0 (a.map bv))/\CS W0 (V.setCells (w.heap.size+1) 0 (a.map bv)) O (qv A w (V.setCells (w.heap.size+1) 0 (a.map bv))) OP cb nb db pm nm C d g pr s k:=by
 have XC:=Cd (cs:=BE.map bv) i (ds:=a.map bv) (by simp[r,BE]);have n:zl (λb=>b=w.heap.size+1) [91] V (V.setCells (w.heap.size+1) 0 (a.map bv)):=(zl.refl (λb=>b=w.heap.size+1) [91] V).setCells (.inl rfl) i (by simp) _ _;have y:(V.setCells (w.heap.size+1) 0 (a.map bv)).heap.size=V.heap.size:=DY _ _;have x:=zg i;have D:=o.size;have E:=j.size;refine⟨Gr (by have:=BG (cs:=BE.map bv) i;simpa[BE]using this) r,XC,u.aB (Ar _) _ _,?_⟩;have q:=p.below j;generalize V.setCells (w.heap.size+1) 0 (a.map bv)=B at *;have v:=h0.base.size;have f:∀b,O b\/A b\/OP b->b≠w.heap.size+1:=λb j e=>by have:=h0.lt b j;omega
 have t:=q.aside n (by omega) ⟨λh=>f _ (.inl h) rfl,λh=>by
  rcases h with h|h
  ·exact f _ (.inr (.inl h)) rfl
  ·omega,λh=>f _ (.inr (.inr h)) rfl⟩ (by decide)
 refine t.mono ?_ ?_
 ·rintro b (c|c)
  ·exact .inl c
  ·exact .inr ⟨by omega,by omega⟩
 ·rintro b (c|c)
  ·exact .inl (.inl c)
  ·refine .inr ⟨by omega,by omega,λl=>?_,λl=>?_⟩
   ·have:=h0.lt b (.inl l);omega
   ·have:=h0.lt b (.inr (.inr l));omega
abbrev spV (a n:Nat):Value:=.agg #[.int .i64 a,.int .i64 n]
def zdv (B:World)(Q:Nat->Addr)(O A OP:Nat->Prop)(R nb db pm nm:Nat)(C:Array Value)(d:Dk)(j:Int)(q:Mm)(m:Ms Nt)(k g a n f:Nat)(ak:g<9223372036854775808)(hl:a+n<=g)(h1:1<=n)(he:n/4^Bg n=1)(w:World)(hE:DW B)(hS:vj B Q)(S:F0 B)(hH:TQ d.fs g)(W:m.al.ao=[])
 (h:CS B w O A OP R nb db pm nm C d j q m (k+1)) :
  Calls prog 225 #[yu R,.int .i64 g,spV a n] w λr G =>
   zl (λb=>O b\/A b) qT w G/\CS B G O (qv A w G) OP R nb db pm nm C d j q (AE (qr d.fs) q g (f+1) m a n).2 k/\Z5 (AE (qr d.fs) q g (f+1) m a n).1 r:=by
 obtain⟨-,an,t⟩:=F7 n h1 (by omega);have hj:=PS a n (Bg n) g hl (t.1 he);have T:qx ((Bg n:Nat):Int) n=1:=by unfold qx;rw[zz];exact he
 have U:qx ((Bg n:Nat):Int) a=a/4^Bg n:=by unfold qx;rw[zz]
 have ab:=ze T;have ad:=ze U;have N:=ze (λw (hT:F0 w)=>Zr n (by omega) (by omega) w hT);have hq:((Lib.ctz 64 n:Nat):Int)/2=((Bg n:Nat):Int):=by unfold Bg;omega
 have HQ:=ze hq;have X:=zmm (n:=n) (by omega);have y:=ze (λ(x:Nat) (hx:x<9223372036854775808) w=>GV ((Bg n:Nat):Int) (by omega) (by omega) x hx w);have l:=ze (λG (h':CS B G O A OP R nb db pm nm C d j q m (k+1))=>Wt B Q O A OP R nb db pm nm C d j q m k g ((Bg n:Nat):Int) (a/4^Bg n) ak (by omega) (by omega) hj G hE hS hH W h');have HH:=ze h;have ag:=ze S;have af:Hid (∀c m1,BI (qr d.fs) q g m ((Bg n:Nat):Int) (a/4^Bg n)=(.inr c,m1)->AE (qr d.fs) q g (f+1) m a n=(.inr c.hash,m1)):=λ_ _ e=>OC he e;have HN:Hid (n<9223372036854775808/\a<9223372036854775808):=⟨by omega,by omega⟩;clear h hE hS S hj T U he t hl hq hH W;generalize hL:Bg n=L at *;clear hL;generalize a/4^L=J at *;generalize Lib.ctz 64 n=Z at *;unfold spV yu;go_enter func225,ntmps225;go_wp2_with fail;have u:=ze (Ie w a n).1;have M:=ze (Ie w a n).2.1;have K:=ze (Ie w a n).2.2;clear X;generalize (w.alloc (.cells #[.int .i64 a,.int .i64 n] 175)).alloc (.cells Dr 91)=W1 at *;have H:=ze (HH.o.below u.o);refine(N.o W1 (ag.o.below H.o.base)).mono ?_;rintro r w1 ⟨rfl,rfl⟩;obtain⟨q0,-⟩:=zm M.o 0 _ rfl;obtain⟨q1,-⟩:=zm M.o 1 _ rfl;simp only[CG,Af,A8]at q0 q1;have am:wrap64 (L:Int)=(L:Int):=by unfold wrap64;omega
 go_wp2_with fail;rw[HQ.o,am];refine(y.o n HN.o.1 w1).mono ?_;rintro r w2 ⟨rfl,rfl⟩;rw[ab.o];go_wp2_with fail;refine(y.o a HN.o.2 w2).mono ?_;rintro r w3 ⟨rfl,rfl⟩;rw[ad.o];go_wp2_with fail;have z:=ze (l.o w3 H.o);unfold yu at z;refine z.o.mono ?_;rintro r w4 ⟨F,s,aj⟩;clear q0 q1 z l N y;generalize BI (qr d.fs) q g m (L:Int) J=NM at *;obtain⟨o,m1⟩:=NM;simp only at *;obtain⟨x,c,rfl,i,Y,rfl⟩:=aj;have D:(w4.alloc (.cells Jg Cq)).heap[w4.heap.size]?=some (.cells Px.no.cs.toArray Cq (0,0)):=zf _ _;have V:=Cd D (ds:=x.cs) (by rw[Px.ay i,Px.ay Px.aq]);have ar:=Gs (BG D) (Px.ay i) (Px.aR i);have ap:=AN (Ri V) i.1;have p:zc w4 ((w4.alloc (.cells Jg Cq)).setCells w4.heap.size 0 x.cs):=xo (zi _ _) (zk _) _ _;have E:=F.keep K.o (by decide);obtain⟨e1,e2,e3,e4⟩:=Xd HH.o (zg K.o) s u.o p (((zl.aa u.o).trans (F.mono (λ_ h=>.inl h) (λ_ h=>h))).ah p) ((p.block _ (zg E)).trans E) x.hash i.1;have P:=ze i;have ai:=ze Y.hash;have ae:=ze e2;have I:=ze (And.intro e3 e4);clear e2 e3 e4 i Y p D V E F s;go_wp2_with fail;refine zv (v:=.tuple #[.agg (hv x.hash),.nilIface]) (vb results225 _ _ (w.heap.size+1) 91 _ (0,0) _ rfl ae.o underlying91 rfl (by rw[Ou,BU,P.o.1]) _ rfl) rfl ?_;rw[af.o _ _ rfl];exact⟨I.o.1,I.o.2,x.hash,by rw[ai.o],P.o.1,rfl⟩
end
end Go.Proofs.YtfdbeldiomkdiaaGreatDoor
