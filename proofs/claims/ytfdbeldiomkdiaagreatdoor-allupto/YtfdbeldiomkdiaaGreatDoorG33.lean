import Derived.Test.YtfdbeldiomkdiaaGreatDoorG32
set_option maxHeartbeats 8000000
set_option maxRecDepth 100000
set_option linter.all false
namespace Go.Proofs.YtfdbeldiomkdiaaGreatDoor
open Go.RowKit Go.Proofs.Tryz
section
attribute [local go_sem ↓] j9 jx ve jy ju jt vd jw
abbrev ze4 (l:World)(O j:Nat->Prop)(h p o s q:Nat)(C:Array Value)(d:Dk)(e:Int)(g:Mm)(c f:Nat):Prop:=
 ∀(A:Nat->Prop) (m:Ms Nt) (k a n:Nat) (w:World),a+n<=c->1<=n->n<=2^f->m.al.ao=[]->CS l w O A j h p o s q C d e g m ((jg c (f+1) a n).length+k) ->
  Calls prog 225 #[yu h,.int .i64 c,spV a n] w λr i =>
   zl (λb=>O b\/A b) qT w i/\CS l i O (qv A w i) j h p o s q C d e g (AE (qr d.fs) g c (f+1) m a n).2 k/\Z5 (AE (qr d.fs) g c (f+1) m a n).1 r
def zdx (U:World)(O OP:Nat->Prop)(V nb db pm nm:Nat)(C:Array Value)(d:Dk)(g:Int)(i:Mm)(c f:Nat)(a2:c<9223372036854775808)(aD:F0 U)(ih:ze4 U O OP V nb db pm nm C d g i c f)
 (A:Nat->Prop) (m:Ms Nt) (k a n:Nat) (w:World) (hl:a+n<=c) (Y:2<=n) (hn:n<=2^(f+1)) (he:¬n/4^Bg n=1) (ab:m.al.ao=[]) (h:CS U w O A OP V nb db pm nm C d g i m ((jg c (f+2) a n).length+k)) :
  Calls prog 225 #[yu V,.int .i64 c,spV a n] w λr w' =>
   zl (λb=>O b\/A b) qT w w'/\CS U w' O (qv A w w') OP V nb db pm nm C d g i (AE (qr d.fs) i c (f+2) m a n).2 k/\Z5 (AE (qr d.fs) i c (f+2) m a n).1 r:=by
 obtain⟨k1,k2,k3,k4,k5,k6⟩:=Bo n f Y hn;have J:(jg c (f+2) a n).length=(jg c (f+1) a (yo n)).length+(jg c (f+1) (a+yo n) (n-yo n)).length:=by
  rw[jg,if_neg he,zw]
 rw[J]at h;obtain⟨-,aZ,aI⟩:=F7 n (by omega) (by omega);have aF:¬((qx ((Bg n:Nat):Int) n:Nat):Int)=1:=by unfold qx;rw[zz];omega
 have az:=ze (λw (hT:F0 w)=>Zr n (by omega) (by omega) w hT);have af:=ze (λ(x:Nat) (hx:x<9223372036854775808) w=>GV ((Bg n:Nat):Int) (by omega) (by omega) x hx w);have HQ:Hid (((Lib.ctz 64 n:Nat):Int)/2=((Bg n:Nat):Int)):=by show _=_;unfold Bg;omega
 have aK:=zmm (n:=n) (by omega);have R:=ze (λw=>MH a n w (by omega) Y);have N:((a:Int)+(yo n:Int))=((a+yo n:Nat):Int):=by omega
 have P:((n:Int)-(yo n:Int))=((n-yo n:Nat):Int):=by omega
 rw[N,P]at R;have HL:=ze (λw (h:CS U w O A OP V nb db pm nm C d g i m ((jg c (f+1) a (yo n)).length+(jg c (f+1) (a+yo n) (n-yo n)).length+k))=>ih A m ((jg c (f+1) (a+yo n) (n-yo n)).length+k) a (yo n) w (by omega) k3 k1 ab (by rw[<- AP];exact h));have an:Hid ((AE (qr d.fs) i c (f+1) m a (yo n)).2.al.ao=[]):=Kz (Jm d.fs).keep _ m _ _ ab;have HR:=ze (λA' m' w hq (h:CS U w O A' OP V nb db pm nm C d g i m' ((jg c (f+1) (a+yo n) (n-yo n)).length+k))=>ih A' m' k (a+yo n) (n-yo n) w (by omega) k4 k2 hq h);have ak:Hid (∀x F y G,AE (qr d.fs) i c (f+1) m a (yo n)=(.inr x,F)->AE (qr d.fs) i c (f+1) F (a+yo n) (n-yo n)=(.inr y,G)->AE (qr d.fs) i c (f+2) m a n=(.inr (vf x y),G)):=λx F y G h h'=>OD he h h';have HH:=ze h;have aR:=ze aD;have HN:Hid (n<9223372036854775808/\a<9223372036854775808):=⟨by omega,by omega⟩;have aM:=ze aF;clear h aD aF he aI hl N P J ih k1 k2 k3 k4 k5 k6 hn Y ab;generalize hL:Bg n=L at *;clear hL;generalize Lib.ctz 64 n=Z at *;generalize (jg c (f+1) (a+yo n) (n-yo n)).length=lr at *;generalize (jg c (f+1) a (yo n)).length=ll at *;generalize yo n=K at *;generalize a+K=B at *;generalize n-K=M at *;unfold spV yu;go_enter func225,ntmps225;go_wp2_with fail;have Q:=ze (Ie w a n).1;have av:=ze (Ie w a n).2.1;have ap:=ze (Ie w a n).2.2;clear aK;generalize (w.alloc (.cells #[.int .i64 a,.int .i64 n] 175)).alloc (.cells Dr 91)=W1 at *;have aN:=ze (HH.o.below Q.o);refine(az.o W1 (aR.o.below aN.o.base)).mono ?_;rintro r w1 ⟨rfl,rfl⟩;obtain⟨q0,-⟩:=zm av.o 0 _ rfl;obtain⟨q1,-⟩:=zm av.o 1 _ rfl;simp only[CG,Af,A8]at q0 q1;have aL:wrap64 (L:Int)=(L:Int):=by unfold wrap64;omega
 go_wp2_with fail;rw[HQ.o,aL];refine(af.o n HN.o.1 w1).mono ?_;rintro r w2 ⟨rfl,rfl⟩;generalize aV:((qx (L:Int) n:Nat):Int)=cc at *;have aW:(cc==1)=false:=by simpa using aM.o
 clear aV aL;go_wp2_with fail;refine(R.o w2).mono ?_;rintro r u ⟨rfl,z⟩;go_wp2_with fail;have aC:zc w ((u.alloc (.cells #[.int .i64 a,.int .i64 K] 175)).alloc (.cells #[.int .i64 B,.int .i64 M] 175)):=Q.o.trans ((z.trans ((qg u _ _).mono z.size)).mono Q.o.size);have aQ:Hid (((u.alloc (.cells #[.int .i64 a,.int .i64 K] 175)).alloc (.cells #[.int .i64 B,.int .i64 M] 175)).heap[u.heap.size+1]?=some (.cells #[.int .i64 B,.int .i64 M] 175 (0,0))):=by
  have:=zf (u.alloc (.cells #[.int .i64 a,.int .i64 K] 175)) (.cells #[.int .i64 B,.int .i64 M] 175);rw[show(u.alloc (.cells #[.int .i64 a,.int .i64 K] 175)).heap.size=u.heap.size+1 by simp]at this;exact this
 have aq:Hid (((u.alloc (.cells #[.int .i64 a,.int .i64 K] 175)).alloc (.cells #[.int .i64 B,.int .i64 M] 175)).heap[w.heap.size+1]?=some (.cells (hv BE) 91 (0,0))):=zr (zr ((z.block _ (zg ap.o)).trans ap.o));have p:=ze aC;clear aC z q0 q1;generalize (u.alloc (.cells #[.int .i64 a,.int .i64 K] 175)).alloc (.cells #[.int .i64 B,.int .i64 M] 175)=W4 at *;generalize u.heap.size=sb at *;have S:=ze (HL.o W4 (HH.o.below p.o));unfold spV yu at S;refine S.o.mono ?_;rintro r w5 ⟨D,H,aX⟩;have aS:Hid (w.heap.size+1<W4.heap.size):=zg aq.o;have ax:=ze D;have ag:=ze H;have ar:Hid (w5.heap[w.heap.size+1]?=some (.cells (hv BE) 91 (0,0))):=D.keep aq.o (by decide);have aw:Hid (w5.heap[sb+1]?=some (.cells #[.int .i64 B,.int .i64 M] 175 (0,0))):=D.keep aQ.o (by decide);clear D H S HL az af R aW;generalize AE (qr d.fs) i c (f+1) m a K=ML at *;obtain⟨o1,F⟩:=ML;simp only at *;obtain⟨x,rfl,l,rfl⟩:=aX;obtain⟨aJ,aG,W⟩:=Q5 w5 l;have aP:=ze aG;have q:=ze W;have aB:=ze l;have ad:=(W.block _ (zg aw.o)).trans aw.o;obtain⟨q0,-⟩:=zm ad 0 _ rfl;obtain⟨q1,-⟩:=zm ad 1 _ rfl;simp only[CG,Af,A8]at q0 q1;clear aG W ad l;go_wp2_with fail;generalize (w5.alloc (.cells Dr 91)).setCells w5.heap.size 0 (x.map bv)=V6 at *;have am:Hid (∀y G,AE (qr d.fs) i c (f+1) F B M=(.inr y,G)->AE (qr d.fs) i c (f+2) m a n=(.inr (vf x y),G)):=λy G h'=>ak.o x F y G rfl h';have T:=ze (HR.o _ F V6 an.o (ag.o.below q.o));unfold spV yu at T;refine T.o.mono ?_;rintro r t ⟨s,I,aY⟩;have aA:Hid (t.heap[w5.heap.size]?=some (.cells (hv x) 91 (0,0))):=s.keep aP.o (by decide);have au:Hid (t.heap[w.heap.size+1]?=some (.cells (hv BE) 91 (0,0))):=s.keep ((q.o.block _ (zg ar.o)).trans ar.o) (by decide);have ay:Hid (zl (λb=>O b\/A b) qT w t):=(((zl.aa p.o).trans (ax.o.mono (λ_ h=>.inl h) (λ_ h=>h))).ah q.o).trans (s.mono (λb e=>by
  rcases e with e|e|e
  ·exact .inl (.inl e)
  ·exact .inl (.inr e)
  ·exact .inr ⟨by have:=p.o.size;omega,zq e.2 q.o.size⟩) (λ_ h=>h))
 have ai:Hid (CS U t O (qv A W4 t) OP V nb db pm nm C d g i (AE (qr d.fs) i c (f+1) F B M).2 k):=I.mono (λb e=>by
  have s1:=q.o.size;have s2:=s.size;rcases e with (e|e)|e
  ·exact .inl e
  ·exact .inr ⟨e.1,by omega⟩
  ·exact .inr ⟨by have:=ax.o.size;omega,e.2⟩) (λb e=>by
  have s0:=HH.o.base.size;have s1:=p.o.size;rcases e with e|e
  ·exact .inl (.inl (.inl e))
  ·refine .inr ⟨by omega,e.2,λhO=>?_,λhO=>?_⟩
   ·have:=HH.o.lt b (.inl hO);omega
   ·have:=HH.o.lt b (.inr (.inr hO));omega)
 clear s I T HR ak q0 q1 aJ an;generalize AE (qr d.fs) i c (f+1) F B M=MR at *;obtain⟨o2,G⟩:=MR;simp only at *;obtain⟨y,rfl,E,rfl⟩:=aY;obtain⟨aJ,aH,X⟩:=Q5 t E;have l:((t.alloc (.cells Dr 91)).setCells t.heap.size 0 (y.map bv)).heap[w5.heap.size]?=some (.cells (hv x) 91 (0,0)):=(X.block _ (zg aA.o)).trans aA.o;have a0:=AN (vv (cs:=x.map bv) l) aB.o;have a1:=AN (vv (cs:=y.map bv) aH) E;have ae:=ze X;have aU:=ze E;clear aH X l E;go_wp2_with fail;generalize (t.alloc (.cells Dr 91)).setCells t.heap.size 0 (y.map bv)=V8 at *;refine(Ev x y V8 aB.o aU.o).mono ?_;rintro r w9 ⟨rfl,aE⟩;have j:zc t w9:=ae.o.trans (aE.mono ae.o.size);obtain⟨e1,e2,e3,e4⟩:=Xd HH.o aS.o ai.o p.o j (ay.o.ah j) ((j.block _ (zg au.o)).trans au.o) (vf x y) (vm x y);have aO:=ze e2;have aj:=ze (And.intro e3 e4);clear e2 e3 e4 aE j;go_wp2_with fail;refine zv (v:=.tuple #[.agg (hv (vf x y)),.nilIface]) (vb results225 _ _ (w.heap.size+1) 91 _ (0,0) _ rfl aO.o underlying91 rfl (by rw[Ou,BU,vm]) _ rfl) rfl ?_;rw[am.o _ _ rfl];exact⟨aj.o.1,aj.o.2,_,rfl,vm x y,rfl⟩
def ziq (g:World)(t:Nat->Addr)(O s:Nat->Prop)(l y u B z:Nat)(C:Array Value)(d:Dk)(e:Int)(j:Mm)(c:Nat)(x:c<9223372036854775808)(H:DW g)(J:vj g t)(v:F0 g)(I:TQ d.fs c):∀f,ze4 g O s l y u B z C d e j c f:=by
 have i:∀(f:Nat) (A:Nat->Prop) (m:Ms Nt) (k a n:Nat) (w:World),a+n<=c->1<=n->n/4^Bg n=1->m.al.ao=[]->CS g w O A s l y u B z C d e j m ((jg c (f+1) a n).length+k) ->
   Calls prog 225 #[yu l,.int .i64 c,spV a n] w λr F =>
    zl (λb=>O b\/A b) qT w F/\CS g F O (qv A w F) s l y u B z C d e j (AE (qr d.fs) j c (f+1) m a n).2 k/\Z5 (AE (qr d.fs) j c (f+1) m a n).1 r:=by
  intro f A m k a n w p D o q h;rw[jg,if_pos o,Cu,NT]at h;exact zdv g t O A s l y u B z C d e j m k c a n f x p D o w H J v I q h
 intro f
 induction f with
 |zero =>
  intro A m k a n w p D G q h;obtain rfl:n=1:=by omega
  exact i 0 A m k a 1 w p (by omega) (by decide) q h
 |succ f K =>
  intro A m k a n w p D G q h
  by_cases o:n/4^Bg n=1
  ·exact i (f+1) A m k a n w p D o q h
  ·have E:2<=n:=by
    rcases qf n 2 with h|h
    ·exact absurd (by
       obtain rfl:n=1:=by omega
       decide) o
    ·exact h
   exact zdx g O s l y u B z C d e j c f x v K A m k a n w p E G o q h
end
variable {A A' N O OP:Nat->Prop}{B cb db k k0 nb nm pm:Nat}{C:Array Value}{T:List Nat}{W0 w w':World}{d:Dk}{e:TypeId}{m':Ms Nt}{pr:Mm}{v:Value}
section
attribute [local go_sem ↓] j9 jx ve jy ju jt vd jw
def zms (B:Nat)(b:World)(o:Sum (zb) (za))(r:Ending):Prop:=∃a x,o=.inr a/\Fj B b x a/\(∀p∈a,p.length=8)/\r=.returned (.tuple #[x,.nilIface])
def Di (A a:Nat->Prop)(w c:World):Prop:=(∀b,A b->a b)/\∀b,a b->A b\/(w.heap.size<=b/\b<c.heap.size)
def CS.bU {c:Int}{m:Ms Nt}(h:CS W0 w O A OP cb nb db pm nm C d c pr m k)(g:zl N T w w')(i:∀b,N b->W0.heap.size<=b/\¬O b/\¬A b/\¬OP b)
 (a:∀t∈[144,125,148,155,3,Bd,5,qo],t∉T):CS W0 w' O A OP cb nb db pm nm C d c pr m k:=
 ⟨h.base.trans (g.below (λb f=>(i b f).1) h.base.size),h.own,h.apart,λb f=>zq (h.lt b f) g.size,h.aG.stay g (a _ (by simp)) (a _ (by simp)),h.al.aj g (a _ (by simp)) (a _ (by simp)) (a _ (by simp)),h.st,h.bk,g.keep h.aC (a _ (by simp)),h.cells,h.aV.stay g (λb f e=>(i b e).2.2.2 f) (a _ (by simp)) (λ_ h=>h),h.aN,h.aM.stay g (λb f e=>(i b e).2.2.1 f) (a _ (by simp)) (a _ (by simp)) (λ_ h=>h),h.short⟩
def CS.all {a:Int}{m:Ms Nt}(h0:CS W0 w O A OP cb nb db pm nm C d a pr m k0)(h:CS W0 w' O A' OP cb nb db pm nm C d a pr m' k)(f:Di A A' w w'):CS W0 w' O (qv A w w') OP cb nb db pm nm C d a pr m' k:=by
 refine h.mono (λb c=>f.2 b c) (λb c=>?_);have:=h0.base.size;rcases c with c|c
 ·exact .inl (f.1 b c)
 ·refine .inr ⟨by omega,c.2,λe=>?_,λe=>?_⟩
  ·have:=h0.lt b (.inl e);omega
  ·have:=h0.lt b (.inr (.inr e));omega
def Fv {σ:Type}(a:za):Sum (zb) (za)×Ms σ->Sum (zb) (za)×Ms σ
 |(.inl e,m)=>(.inl e,m)
 |(.inr b,m)=>(.inr (a++b),m)
def Sw {σ:Type}(y:Sum (zb) (za)×Ms σ):Fv [] y=y:=by
 obtain⟨o,m⟩:=y;cases o<;>simp[Fv]
def Xe {σ:Type}{b:σ->zb->(zb×Bool)×σ}{a:Nat}{m c:Ms σ}{s:Nat×Nat}{r:List (Nat×Nat)}{x:zb}(d:za)(h:AE b pr a 64 m s.1 s.2=(.inr x,c)):Fv d (Ax b pr a m (s::r))=Fv (d++[x]) (Ax b pr a c r):=by
 rw[Ax,h];simp only;cases Ax b pr a c r with
 |mk o e=>cases o<;>simp[Fv]
def zk7 {s:Nat}{n:Nat}{f:List Value}(h:w.ownsRow B e s v n f)(g:Nat)(a:v.ownBlock=some g):g<w.heap.size:=by
 rcases h.2 with ⟨rfl,_⟩|⟨i,b,c,rfl,j,d,_⟩
 ·simp[Value.ownBlock]at a
 ·simp only[Value.ownBlock,zn]at a;subst a;exact zg d
abbrev rPl (a:Nat)(b:List (Nat×Nat)):Nat:=(b.flatMap λs=>jg a 64 s.1 s.2).length
def Tx (L:World)(an:Nat->Addr)(O A OP:Nat->Prop)(Y nb db pm nm:Nat)(C:Array Value)(d:Dk)(l:Int)(u:Mm)(m:Ms Nt)(k a:Nat)(a4:a<9223372036854775808)(hE:DW L)(hS:vj L an)(ap:F0 L)(hH:TQ d.fs a)(aC:m.al.ao=[])(v:Value)(c:List (Nat×Nat))(B:Nat)(w:World)(ad:F1 B w v c)(ba:c.length<=1000)(ay:∀s∈c,s.1+s.2<=a/\1<=s.2)
 (h:CS L w O A OP Y nb db pm nm C d l u m (rPl a c+k)) :
  Calls prog 190 #[yu Y,.int .i64 a,v] w λr w' =>
   zl (λb=>O b\/A b) qT w w'/\CS L w' O (qv A w w') OP Y nb db pm nm C d l u (Ax (qr d.fs) u a m c).2 k/\zms w.heap.size w' (Ax (qr d.fs) u a m c).1 r:=by
 obtain⟨t,hi,ax⟩:=zx.1 Q9;obtain⟨aF,aG,aH⟩:t.zero=some (.agg (hv jh))/\t.size=8/\t.bytes=8:=by simpa using ax
 clear ax;have HI:=ze hi;have HZ:=ze (And.intro aF (And.intro aG aH));clear hi aF aG aH;have aK:=ze ay;have HV:=ze ad;have HH:=ze h;have G:=ze (ziq L an O OP Y nb db pm nm C d l u a a4 hE hS ap hH 63);have aP:=ze aC;obtain⟨sa,a7,rfl,a9,a3⟩:=Gq ad;clear ay h hE hS ap a3 ad hH aC;unfold yu;go_enter func190,ntmps190
 go_wp2
 go_loopw [8,15] (λr i wr=>∃(q:Nat) (K:Nat->Prop) (E:Ms Nt) (F:za),q<=c.length/\i=.int .i64 q/\(∃ra rc,r=.slice ra q rc)/\zl (λb=>O b\/A b) qT w wr/\Di A K w wr/\CS L wr O K OP Y nb db pm nm C d l u E (rPl a (c.drop q)+k)/\Fj w.heap.size wr r F/\(∀g,r.ownBlock=some g->¬K g)/\F.length=q/\(∀p∈F,p.length=8)/\E.al.ao=[]/\Ax (qr d.fs) u a m c=Fv F (Ax (qr d.fs) u a E (c.drop q))) (λ_ i _=>c.length-(intOf i).toNat)
 case atStart =>
  refine⟨0,A,m,[],yk _,rfl,⟨_,_,rfl⟩,zl.refl _ _ _,⟨λ_ h=>h,λ_ h=>.inl h⟩,HH.o,⟨rfl,.inl ⟨rfl,rfl⟩⟩,by simp[Value.ownBlock],rfl,by simp,aP.o,?_⟩;rw[Sw]
  rfl
 case round =>
  obtain⟨q,K,E,F,hq,rfl,⟨ra,rc,rfl⟩,ht,hA,P,ho,aB,aE,n,ab,hM⟩:=hrel;have HT:=ze ht;have HA:=ze hA;have af:=ze P;have HO:=ze ho;have aM:=ze aB;have X:=ze aE;have am:=ze n;have aQ:=ze ab;have HM:=ze hM
  by_cases J:q<c.length
  ·have a2:∃sb,sa=some ⟨sb,0,none⟩/\wr.cell? ⟨sb,q*2,none⟩=some (.int .i64 (c[q].1:Int))/\wr.cell? ⟨sb,q*2+1,none⟩=some (.int .i64 (c[q].2:Int)):=by
    have a5:=zy HV.o ht (by decide);obtain⟨a',c',e',-,h'⟩:=Gq a5;simp only[jk]at e';obtain⟨rfl,-,rfl⟩:=e';rcases h' with h'|⟨sb,rfl,hc⟩
    ·simp[h']at J
    ·exact⟨sb,rfl,(hc q J).1,(hc q J).2⟩
   obtain⟨sb,rfl,s0,s1⟩:=a2;obtain⟨i1,i2⟩:=aK.o c[q] (ye J);have aa:=FL J;have aD:rPl a (c.drop q)+k=(jg a 64 c[q].1 c[q].2).length+(rPl a (c.drop (q+1))+k):=by
    unfold rPl;rw[aa,DO,zw,AP]
   have S:Hid (CS L wr O K OP Y nb db pm nm C d l u E ((jg a 64 c[q].1 c[q].2).length+(rPl a (c.drop (q+1))+k))):=by
    have:=af.o;rw[aD]at this;exact this
   have aj:Hid (∀x m1,AE (qr d.fs) u a 64 E c[q].1 c[q].2=(.inr x,m1)->Ax (qr d.fs) u a m c=Fv (F++[x]) (Ax (qr d.fs) u a m1 (c.drop (q+1)))):=λx m1 e=>by
    rw[HM.o,aa];exact Xe F e
   have aR:Hid ((AE (qr d.fs) u a 64 E c[q].1 c[q].2).2.al.ao=[]):=Kz (Jm d.fs).keep _ E _ _ ab;have ai:=ze (λw0 (ar:CS L w0 O K OP Y nb db pm nm C d l u E ((jg a 64 c[q].1 c[q].2).length+(rPl a (c.drop (q+1))+k)))=>G.o K E (rPl a (c.drop (q+1))+k) c[q].1 c[q].2 w0 i1 i2 (by omega) aQ.o ar);clear ho ht hA P aB aE n ab hM aa aD i1 i2;generalize c[q].1=fa at *;generalize c[q].2=fn at *;generalize az:rPl a (c.drop (q+1))+k=kr at *;have aL:=ze az;clear az;generalize (jg a 64 fa fn).length=kl at *;have c6:(0:Int)<=(q:Int):=by omega
   have c7:(q:Int)<(c.length:Int):=by omega
   go_wp2_with fail;have z:Hid (zc wr (wr.alloc (.cells #[.int .i64 (fa:Int),.int .i64 (fn:Int)] 175))):=zi wr _;generalize wr.alloc (.cells #[.int .i64 (fa:Int),.int .i64 (fn:Int)] 175)=W1 at *;have H:=ze (ai.o W1 (S.o.below z.o));unfold spV yu at H;refine H.o.mono ?_;rintro r R ⟨Q,V,a1⟩;have T:=ze V;have aN:=ze (zy (yx HO.o z.o) Q (by decide));have ak:=ze ((HT.o.ah z.o).trans (Q.mono (λb f=>by
    rcases f with f|f
    ·exact .inl (.inl f)
    ·rcases HA.o.2 b f with f|f
     ·exact .inl (.inr f)
     ·exact .inr ⟨f.1,zq f.2 z.o.size⟩) (λ_ h=>h)))
   have ae:Hid (Di A (qv K W1 R) w R):=⟨λb f=>.inl (HA.o.1 b f),λb f=>by
    have g1:=z.o.size;have g2:=Q.size;have g3:=HT.o.size;rcases f with f|f
    ·rcases HA.o.2 b f with f|f
     ·exact .inl f
     ·exact .inr ⟨f.1,by omega⟩
    ·exact .inr ⟨by omega,f.2⟩⟩
   have U:Hid (∀g,(Value.slice ra q rc).ownBlock=some g->¬qv K W1 R g):=λg hg f=>by
    rcases f with f|f
    ·exact aM.o g hg f
    ·have h1:=zk7 HO.o g hg;have h2:=z.o.size;omega
   clear Q V ai H s0 s1 S af G;generalize AE (qr d.fs) u a 64 E fa fn=MR at *;obtain⟨o1,m1⟩:=MR;simp only at *;obtain⟨x,rfl,n,rfl⟩:=a1;obtain⟨bb,av,aq⟩:=Q5 R n;generalize (R.alloc (.cells Dr 91)).setCells R.heap.size 0 (x.map bv)=V6 at *;have a0:=AN (vv (cs:=x.map bv) av) n;obtain⟨x0,x1,x2,x3,x4,x5,x6,x7,hx⟩:=MB x n;rw[hx]at a0;have HX:=ze hx;have D:=ze aq;have aS:=ze n;clear av aq n hx;have ag:Hid (∀o,((V6.alloc o).ownsRow w.heap.size 91 8 (.slice ra q rc) q (IM F))):=λo=>by
    have:=yx aN.o (D.o.alloc D.o.size o);unfold Fj at this;rw[X.o]at this;exact this
   have aU:=ze (zt ak.o.size D.o.size);go_wp2_with (at_builtin;refine jf _ rfl _ _ _ rfl w.heap.size 91 t (.agg (hv jh)) 8 8 underlying98 HI.o HZ.o.1 HZ.o.2.1 HZ.o.2.2 rfl (by omega) (.slice ra q rc) q (IM F) rfl (ag.o _) ⟨V6.heap.size,0,none⟩ 1 1 [.int .u8 x0,.int .u8 x1,.int .u8 x2,.int .u8 x3,.int .u8 x4,.int .u8 x5,.int .u8 x6,.int .u8 x7] rfl rfl (xm (zf _ _)) (by simp[Value.oneCell']) (by omega) (by unfold maxLen;omega) (by omega) (by have:=aU.o;simp;omega) (V6.heap.size+1) (by simp) ?_;intro g a6 w8 W I M aA;have aO:=ze W;have aJ:=ze I;have aI:=ze M;clear W I M aA);have Z:zc R (V6.alloc (.cells #[.int .u8 x0,.int .u8 x1,.int .u8 x2,.int .u8 x3,.int .u8 x4,.int .u8 x5,.int .u8 x6,.int .u8 x7] 91)):=D.o.alloc D.o.size _;have aW:=ag.o (.cells #[.int .u8 x0,.int .u8 x1,.int .u8 x2,.int .u8 x3,.int .u8 x4,.int .u8 x5,.int .u8 x6,.int .u8 x7] 91);have a8:R.heap.size+1<=V6.heap.size+1:=by have:=D.o.size;omega
   go_roundw
   case rel =>
    have y:=aJ.o;have M:=aI.o;generalize hV:V6.alloc (.cells #[.int .u8 x0,.int .u8 x1,.int .u8 x2,.int .u8 x3,.int .u8 x4,.int .u8 x5,.int .u8 x6,.int .u8 x7] 91)=V7 at *;have N:=vg HO.o;have aZ:=HH.o.base.size;have aY:=(zl.refl (λb=>(Value.slice ra q rc).ownBlock=some b) [91] V7).grown aW y (λg hg=>.inl hg) (by simp)
    have au:=(T.o.below Z).bU aY (λb f=>⟨zt aZ (N b f),λhO=>by
      have:=HH.o.lt b (.inl hO);have:=N b f;omega,U.o b f,λhO=>by
      have:=HH.o.lt b (.inr (.inr hO));have:=N b f;omega⟩) (by decide)
    have aX:zl (λb=>O b\/A b) qT w w8:=by
     have h7:=ak.o.ah Z;refine⟨y.os.trans h7.os,y.tape.trans h7.tape,y.output.trans h7.output,zt h7.size y.size,λj hj=>?_⟩;rw[y.block j (zq hj h7.size) (λe=>by have:=N j e.symm;omega)];exact h7.block j hj
    refine⟨q+1,qv K W1 R,m1,F++[x],by omega,by go_num,⟨_,_,rfl⟩,aX,⟨ae.o.1,λb f=>(ae.o.2 b f).imp id (λh=>⟨h.1,zq h.2 (zt Z.size y.size)⟩)⟩,by rw[aL.o];exact au,?_,?_,by simp[X.o],?_,aR.o,aj.o x m1 rfl⟩
    ·unfold Fj;rw[SI,HX.o,zw,Cu,X.o];exact aO.o
    ·intro g' aw;simp only[Value.ownBlock,zn]at aw;subst aw;rcases M with h1|h1
     ·exact U.o _ h1
     ·rintro(f|f)
      ·have:=T.o.lt _ (.inr (.inl (.inl f)));omega
      ·omega
    ·intro p hp;rcases yj.1 hp with hp|hp
     ·exact am.o p hp
     ·rw[yl.1 hp];exact aS.o
   case measure=>simp[intOf];omega
  ·obtain rfl:q=c.length:=by omega
   have hd:c.drop c.length=[]:=List.drop_length;rw[hd]at hM P
   go_wp2
   go_ret2
   have aV:Ax (qr d.fs) u a m c=(.inr F,E):=by
    rw[hM,Ax];simp[Fv]
   rw[aV];refine⟨HT.o,HH.o.all ((P.less (by simp))) HA.o,F,_,rfl,HO.o,am.o,rfl⟩
end
variable {LN:Ek}{f f':Fl}{fb:Nat}{nd nd':Mm}{xs ys:List Px}{z:Px}
section
attribute [local go_sem ↓] j9 jx ve jy ju jt vd jw
def AS.cj {α β γ:Type}{R:α->β->Prop}{c:α->γ->Prop}{l:List α}{m:List β}(h:AS R l m)(g:β->γ)(d:∀a∈l,∀b,R a b->c a (g b)):AS c l (m.map g):=by
 induction h using AS.ind with
 |nil=>exact .nil
 |cons e _ i=>exact .cons (d _ (by simp) _ e) (i λa f b=>d a (by simp[f]) b)
def Oz {α β:Type}{f:α->β}{l:List α}(h:(l.map f).Nodup){a b:α}(q:a∈l)(r:b∈l)(e:f a=f b):a=b:=by
 obtain⟨i,n,c⟩:=ji q;obtain⟨j,o,d⟩:=ji r;have p:=FN.1 (List.pairwise_map.1 h);rcases Fi i j with m|g|k
 ·exact absurd (by rw[c,d];exact e) (p i j n o m)
 ·subst g;rw[<- c,<- d]
 ·exact absurd (by rw[c,d];exact e.symm) (p j i o n k)
def Dj.nodup {a:Int}{L:Ek}(h:Dj w A nm a L):(L.map (·.2.1)).Nodup:=by
 obtain⟨d,c,e,f,h⟩:=h;obtain⟨D,-,-,b,-⟩:=h.map;unfold Ek.ks at b;rw[EG]at b;exact b
def KX.setF (n:Dj w A nm FI LN)(z:AS (NdR w A) LN nd)(o:(LN.map (·.2.2)).Nodup){p:Pl}{b:Nat}(C:LN.get p=some (b,yu fb))(j:zl (λx=>x=fb) [qo] w w')(B:xy w fb xs)(h:xy w' fb ys)(E:FR ys)(D:C8 w' ys f')(v:A fb):
  KX w' A nm (nd.set p f'):=by
 refine⟨LN,n.keep j (by decide) (by decide) (λk _ e=>by subst e;exact⟨_,_,_,B⟩),?_,o⟩;have c:=Kn C;refine z.cj _ (λa q y f=>?_)
 by_cases g:y.1=p
 ·rw[if_pos g];have:=Oz n.nodup q c (by show a.2.1=p;rw[f.1,g]);subst this;exact⟨rfl,fb,ys,rfl,v,h,E,D⟩
 ·rw[if_neg g];obtain⟨d,l,m,r,s,t,u⟩:=f.2;have i:d≠fb:=by
   intro e;subst e;have:=Oz o q c m;rw[this]at f;exact g f.1.symm
  exact⟨f.1,d,l,m,r,j.stay s i,t,u.aj j (by decide)⟩
def zio (h:C8 w xs f):KL xs=M4 f:=by
 obtain⟨a,b,c,d,rfl⟩:=M0 h.1;obtain⟨e,g,i,j,rfl⟩:=M0 h.2.1;have h0:=h.2.2 0 (by omega);have k:=h.2.2 1 (by omega);have l:=h.2.2 2 (by omega);have m:=h.2.2 3 (by omega);have f0:a.fits=e.fits:=h0.fits;have f1:b.fits=g.fits:=k.fits;have f2:c.fits=i.fits:=l.fits;have f3:d.fits=j.fits:=m.fits;have n:a.hash=e.hash:=h0.hash;have o:b.hash=g.hash:=k.hash;have p:c.hash=i.hash:=l.hash;have q:d.hash=j.hash:=m.hash;unfold KL M4;simp only[f0,f1,f2,f3,n,o,p,q]
def zi0 (h:C8 w xs f)(k:Nat){c:Pc}(j:J4 w z c):C8 w (xs.set k z) (f.set k c):=by
 refine⟨by rw[DJ];exact h.1,by rw[DJ];exact h.2.1,λi g=>?_⟩;have d:(xs.set k z).getD i .no=if i=k/\k<xs.length then z else xs.getD i .no:=by
  simp only[zj,Mu]
  by_cases a:k=i
  ·subst a
   by_cases b:k<xs.length
   ·simp[b]
   ·simp[b]
  ·have:¬i=k:=λe=>a e.symm;simp[a,this]
 rw[d,UK,h.1,h.2.1];split
 ·exact j
 ·exact h.2.2 i g
def CS.bM {a:Int}{m:Ms Nt}(h:CS W0 w O A OP cb nb db pm nm C d a pr m k)(c:zl A [qo] w w')(g:KX w' A nm nd')(i:nd'.length=m.ag.length):CS W0 w' O A OP cb nb db pm nm C d a pr {m with ag:=nd'} k:=
 ⟨h.base.trans (c.below (λb f=>h.own b (.inr f)) h.base.size),h.own,h.apart,λb f=>zq (h.lt b f) c.size,h.aG.stay c (by decide) (by decide),h.al.aj c (by decide) (by decide) (by decide),h.st,h.bk,c.keep h.aC (by decide),h.cells,h.aV.stay c (λb f e=>h.aN b f (.inr e)) (by decide) (λ_ h=>h),h.aN,g,by have:=h.short;simp only;omega⟩
def Mm.bn (m:Mm)(p:Pl)(f:Fl):(m.set p f).length=m.length:=by simp[Mm.set]
def CS.find {n:Int}{m:Ms Nt}(h:CS W0 w O A OP cb nb db pm nm C d n pr m k)(p:Pl)(u:FV p):∃(a:Option Addr) (b:Bool),
  ((b=false/\a=none/\m.ag.get p=none)\/(b=true/\∃c x j o f,a=some ⟨j,0,none⟩/\Dj w A nm FI c/\AS (NdR w A) c m.ag/\(c.map (·.2.2)).Nodup/\c.get p=some (x,yu j)/\m.ag.get p=some f/\A j/\xy w j o/\FR o/\C8 w o f)) /\
  ∀i,zc w i->Calls prog 228 #[yu nm,Fc p] i λr E=>r=.returned (.tuple #[.pointer a,.bool b])/\zc i E:=by
 obtain⟨c,e,l,g⟩:=h.aM;rcases KX.get l p with ⟨q,s⟩|⟨b,v,f,q,s,⟨j,o,rfl,y,z,D,B⟩,-⟩
 ·exact⟨none,false,.inl ⟨rfl,rfl,s⟩,λi t=>Us A nm FI c _ u i (e.below t (λ_ h=>h)) q⟩
 ·exact⟨_,true,.inr ⟨rfl,c,b,j,o,f,rfl,e,l,g,q,s,y,z,D,B⟩,λi t=>Q4 A nm FI c _ u i (e.below t (λ_ h=>h)) b _ q⟩
def WdN (a:Mm):Prop:=∀x∈a,1<=x.1.2.2
def WdN.set (h:WdN nd)(p:Pl)(f:Fl):WdN (nd.set p f):=by
 intro x b;have:x.1∈(nd.set p f).map (·.1):=Ck b;rw[Mm.aL]at this;obtain⟨y,c,a⟩:=yi.1 this;rw[<- a];exact h y c
def NA (a:Nat)(b:a<9223372036854775808)(l:Int)(c:-1<=l)(d:l<=100)(j:Nat)(f:j<9223372036854775808):FV (yd a l j):=by
 have e:=IY l a;unfold yd;refine⟨⟨by simp only;omega,by simp only;omega⟩,⟨by simp only;omega,by simp only;omega⟩,⟨by simp only;omega,by simp only;omega⟩⟩
abbrev Qi (g:World)(O A e:Nat->Prop)(c l i o n:Nat)(C:Array Value)(d:Dk)(a:Int)(p:Mm)(b k f:Nat):Prop:=
 ∀(L j:Nat) (h:zb) (m:Ms Nt) (w:World),33<=L+f->L<=40->j<9223372036854775808->h.length=8->WdN m.ag->CS g w O A e c l i o n C d a p m k ->
  Calls prog 230 #[yu c,.int .i64 b,.int .i64 L,.int .i64 j,.agg (hv h)] w λr q=>r=.returned (.tuple #[])/\zl A [qo] w q/\CS g q O A e c l i o n C d a p {m with ag:=Ac b f m.ag L j h} k
def Xk (Q:World)(O A P:Nat->Prop)(E V S Y W:Nat)(C:Array Value)(d:Dk)(l:Int)(Z:Mm)(c k:Nat)(x:c<9223372036854775808)(L j:Nat)(h:zb)(m:Ms Nt)(w:World)(hL:L<=40)(U:j<9223372036854775808)(K:m.ag.get (yd c (L:Int) j)=none)(u:CS Q w O A P E V S Y W C d l Z m k):
  Calls prog 230 #[yu E,.int .i64 c,.int .i64 L,.int .i64 j,.agg (hv h)] w λr w'=>r=.returned (.tuple #[])/\zl A [qo] w w'/\CS Q w' O A P E V S Y W C d l Z m k:=by
 have s:=ze (NA c x (L:Int) (by omega) (by omega) j U);have q:=ze (λw=>Fu c x (L:Int) (by omega) (by omega) j U w);have f:=ze u;obtain⟨a,b,F,v⟩:=u.find (yd c (L:Int) j) s.o;have y:=ze F;have i:=ze v;have D:=ze K;unfold yu at i ⊢;go_enter func230,ntmps230;go_wp2_with fail;have e:Hid (zc w (w.alloc (.cells (hv h) 91))):=zi w _;generalize w.alloc (.cells (hv h) 91)=W1 at *;go_cut [10,11] from 14 to 25 (λM N wx=>M=.pointer a/\N=.bool b/\zc W1 wx)
 case first =>
  have t:=(e.o.block _ (zg f.o.aC)).trans f.o.aC;have p:=ze t;have ab:=(zm t 14 _ f.o.cells.aM).1
  go_region_with (first
   |(go_at_call 229;refine(q.o _).mono ?_;rintro r w2 ⟨rfl,G⟩;have g:=ze (A6 G);have R:=(zm ((g.o.block _ (zg p.o)).trans p.o) 14 _ f.o.cells.aM).1)
   |(go_at_call 228;refine(i.o w2 (by exact e.o.trans (g.o.mono e.o.size))).mono ?_;rintro r w3 ⟨rfl,H⟩;have z:=ze (g.o.trans (H.mono g.o.size))))
  all_goals go_wp2_with fail
  all_goals go_meet
  all_goals exact⟨rfl,rfl,z.o⟩
 case rest =>
  obtain⟨rfl,rfl,I⟩:=hcut;obtain⟨X,hX⟩:∃X,X=wc:=⟨_,rfl⟩;subst hX;have n:=ze (e.o.trans (I.mono e.o.size));have B:=ze (f.o.below n.o);rcases y.o with ⟨rfl,rfl,T⟩|⟨rfl,LN,bb,fb,xs,fl,rfl,ae,af,J,ad,T,-⟩
  ·go_wp2_with fail
   first|go_end0|refine zv (BA rfl _ _ _) rfl ?_
   exact⟨rfl,.aa n.o,B.o⟩
  ·exfalso;have:=D.o;rw[T]at this;simp at this
def Xl (W0:World)(O A OP:Nat->Prop)(cb nb db pm nm:Nat)(C:Array Value)(d:Dk)(U:Int)(pr:Mm)(c k f:Nat)(ao:c<9223372036854775808)(ih:Qi W0 O A OP cb nb db pm nm C d U pr c k f):Qi W0 O A OP cb nb db pm nm C d U pr c k (f+1):=by
 intro L j h m w aG hL hj h8 aZ ak;obtain⟨p,aO⟩:∃p,p=j%4:=⟨_,rfl⟩;have aW:(j:Int)%4=(p:Int):=by omega
 have al:p<4:=by omega
 have a5:=ze aO;have aA:=ze al;have aD:=ze (NA c ao (L:Int) (by omega) (by omega) j hj);have aB:=ze (λw=>Fu c ao (L:Int) (by omega) (by omega) j hj w);have a4:=ze ih;have B:=ze ak;have aE:=ze aZ;have H8:=ze h8;have P:Hid (33<=L+(f+1)/\L<=40/\j<9223372036854775808):=⟨aG,hL,hj⟩;obtain⟨a,b,aH,S⟩:=ak.find (yd c (L:Int) j) aD.o;have ap:=ze aH;have D:=ze S;have Z:Hid (Ac c (f+1) m.ag L j h=match m.ag.get (yd c (L:Int) j)with
  |none=>m.ag
  |some fl=>match M4 (fl.set (j%4) ⟨true,true,h,[]⟩)with
   |some up=>Ac c f (m.ag.set (yd c (L:Int) j) (fl.set (j%4) ⟨true,true,h,[]⟩)) (L+1) (j/4) up
   |none=>m.ag.set (yd c (L:Int) j) (fl.set (j%4) ⟨true,true,h,[]⟩)):=rfl
 clear ih ak aZ aH S aO al aG hj h8;unfold yu at D ⊢;go_enter func230,ntmps230;go_wp2_with fail;have v:Hid (zc w (w.alloc (.cells (hv h) 91))):=zi w _;have aF:Hid ((w.alloc (.cells (hv h) 91)).heap[w.heap.size]?=some (.cells (hv h) 91 (0,0))):=zf _ _;generalize w.alloc (.cells (hv h) 91)=W1 at *;go_cut [10,11] from 14 to 25 (λbf bg wx=>bf=.pointer a/\bg=.bool b/\zc W1 wx)
 case first =>
  have ai:=(v.o.block _ (zg B.o.aC)).trans B.o.aC;have aq:=ze ai;have bi:=(zm ai 14 _ B.o.cells.aM).1;clear ai aW
  go_region_with (first
   |(go_at_call 229;refine(aB.o _).mono ?_;rintro r w2 ⟨rfl,aI⟩;have K:=ze (A6 aI);have bh:=(zm ((K.o.block _ (zg aq.o)).trans aq.o) 14 _ B.o.cells.aM).1;clear aI)
   |(go_at_call 228;refine(D.o w2 (by exact v.o.trans (K.o.mono v.o.size))).mono ?_;rintro r w3 ⟨rfl,aJ⟩;have a0:=ze (K.o.trans (aJ.mono K.o.size));clear aJ))
  all_goals go_wp2_with fail
  all_goals go_meet
  all_goals exact⟨rfl,rfl,a0.o⟩
 case rest =>
  obtain⟨rfl,rfl,af⟩:=hcut;obtain⟨X,hX⟩:∃X,X=wc:=⟨_,rfl⟩;subst hX;have g:=ze (v.o.trans (af.mono v.o.size));have a3:=ze ((af.block _ (zg aF.o)).trans aF.o);have au:=ze (B.o.below g.o);clear af D;rcases ap.o with ⟨rfl,rfl,hg⟩|⟨rfl,LN,bb,fb,xs,fl,rfl,aS,aU,I,aP,hg,hA,hf,s,aN⟩
  ·go_wp2_with fail
   first|go_end0|refine zv (BA rfl _ _ _) rfl ?_
   rw[Z.o,hg];exact⟨rfl,.aa g.o,au.o⟩
  ·have H:xy X fb xs:=(g.o.block _ (zg hf)).trans hf;have HF:=ze H;have a2:=ze (aN.below g.o);have a6:=ze aP;have ax:=ze hg;have HA:=ze hA;have J:(⟨true,true,h,.slice none 0 0⟩:Px).ok:=⟨H8.o,_,_,_,rfl⟩;have am:p<xs.length:=by rw[s.1];exact aA.o
   have aQ:=AN (w:=X.drew) (vv (w:=X.drew) (cs:=h.map bv) a3.o) H8.o;have bc:=λw0=>XS h H8.o w0;have aY:X.drew.there fb (p*11) 11:=by
    have:=xy.there (w:=X.drew) (fb:=fb) (xs:=xs) H s.2 am (o:=0) (n:=11) (by omega);rw[NU]at this;exact this
   have an:=Gs aY (Px.ay J) (Px.aR J);have av:=ze (xy.set (w:=X.drew) H s.2 am J);have W:Hid (FR (xs.set p ⟨true,true,h,.slice none 0 0⟩)):=⟨by rw[DJ];exact s.1,OG s.2 p J⟩;have ab:Hid (zl (λx=>x=fb) [qo] X (X.drew.setCells fb (p*11) (⟨true,true,h,.slice none 0 0⟩:Px).cs)):=((zl.refl (λx=>x=fb) [qo] X).drew).setCells (w:=X.drew) (.inl rfl) H (by simp) _ _;have a7:=ze (aS.below g.o (λ_ h=>h));have a8:Hid (AS (NdR X A) LN m.ag):=aU.mono (λa' _ b' hr=>⟨hr.1,hr.2.aj (O:=λ_=>False) (T:=[]) (.aa g.o) (by simp) (by simp) (λ_ h=>h)⟩);have Y:=ze I;have al:=aA.o;clear hf H s aN aP hg hA J am aY aS aU I ap
   go_wp2
   go_region
   generalize X.drew.setCells fb (p*11) (⟨true,true,h,.slice none 0 0⟩:Px).cs=V at *;have ad:Hid (zl A [qo] X V):=ab.o.mono (λb hb=>by rw[hb];exact HA.o) (λ_ h=>h);have az:Hid (C8 V (xs.set p ⟨true,true,h,.slice none 0 0⟩) (fl.set p ⟨true,true,h,[]⟩)):=zi0 (a2.o.aj ab.o (by decide)) p ⟨rfl,rfl,rfl,.inl ⟨rfl,rfl⟩⟩;have ar:=ze (au.o.bM ad.o (KX.setF a7.o a8.o Y.o a6.o ab.o HF.o av.o W.o az.o HA.o) (Mm.bn _ _ _));have be:=Es (vv av.o) W.o.len;have a9:=ze (zio az.o);have aw:=ze (zbv _ W.o V);clear aQ bc an;go_wp2_with fail;refine aw.o.mono ?_;rintro r u ⟨aK,aV⟩;rw[a9.o]at aV;have M:=ze aK;have i:=Z.o;rw[ax.o]at i;simp only at i;rw[<- a5.o]at i;have Q:=ze i;have HG:Hid (∀y:zb,y.length=8->(K4 (.pointer (some ⟨u.heap.size,0,none⟩)) (.agg (hv y))).run prog (u.alloc (.cells Dr 91))=.ok () ((u.alloc (.cells Dr 91)).setCells u.heap.size 0 (y.map bv))/\((u.alloc (.cells Dr 91)).setCells u.heap.size 0 (y.map bv)).heap[u.heap.size]?=some (.cells (hv y) 91 (0,0))/\zc u ((u.alloc (.cells Dr 91)).setCells u.heap.size 0 (y.map bv))):=by
    intro y hy;have aL:(u.alloc (.cells Dr 91)).heap[u.heap.size]?=some (.cells (BE.map bv).toArray 91 (0,0)):=zf _ _;have bd:=Cd aL (ds:=y.map bv) (by simp[hy,BE]);exact⟨Gr (by have:=BG aL;simpa[BE]using this) hy,bd,xo (zi _ _) (zk _) _ _⟩
   clear aK i Z aw be;rcases aV with ⟨up,t,rfl⟩|⟨t,rfl⟩
   ·have l:up.length=8:=by
     obtain⟨-,-,e⟩:=Rw t;rw[e];exact vm _ _
    obtain⟨an,N,G⟩:=HG.o up l;have aQ:=AN (vv (cs:=up.map bv) N) l;have ae:=ze t;have z:=ze (M.o.trans (G.mono M.o.size));have bl:wrap64 ((L:Int)+1)=((L+1:Nat):Int):=by unfold wrap64;omega
    obtain⟨q,hq⟩:∃q,q=j/4:=⟨_,rfl⟩;have bj:(j:Int)/4=(q:Int):=by omega
    have bk:wrap64 (q:Int)=(q:Int):=by have:=P.o;unfold wrap64;omega
    have HQ:=ze hq;have E:Hid (L+1<=40/\33<=L+1+f/\q<9223372036854775808):=by
     have hn:=P.o;refine⟨?_,by omega,by omega⟩;have hw:=aE.o _ (Mm.get_mem ax.o);unfold yd at hw;simp only at hw;rcases qf L 32 with h'|h'
     ·omega
     ·exfalso;have hz:qx (L:Int) c=0:=by
       unfold qx;rw[zz];refine Cy (zq ao ?_);exact zt (by decide:9223372036854775808<=4^32) (j2 (by omega) h')
      rw[hz]at hw;omega
    have F:=ze (a4.o (L+1) q up {m with ag:=m.ag.set (yd c (L:Int) j) (fl.set p ⟨true,true,h,[]⟩)} _ E.o.2.1 E.o.1 E.o.2.2 l (aE.o.set _ _) (ar.o.below z.o));clear N G t l hq HG;unfold yu at F;go_wp2_with fail;rw[show(L:Int)+1=((L+1:Nat):Int) from by omega];refine F.o.mono ?_;rintro r w9 ⟨rfl,aX,R⟩;have ba:=ze aX;have a1:=ze R;clear aX R F;go_wp2_with fail
    first|go_end0|refine zv (BA rfl _ _ _) rfl ?_
    rw[Q.o,ae.o,<- HQ.o];exact⟨rfl,(((zl.aa g.o).trans (ad.o.mono (λ_ h=>.inl h) (λ_ h=>h))).ah z.o).trans (ba.o.mono (λ_ h=>.inl h) (λ_ h=>h)),a1.o⟩
   ·obtain⟨an,N,G⟩:=HG.o BE rfl;have ae:=ze t;have z:=ze (M.o.trans (G.mono M.o.size));clear N G t HG;go_wp2_with fail
    first|go_end0|refine zv (BA rfl _ _ _) rfl ?_
    rw[Q.o,ae.o];exact⟨rfl,((zl.aa g.o).trans (ad.o.mono (λ_ h=>.inl h) (λ_ h=>h))).ah z.o,ar.o.below z.o⟩
def R8 (g:World)(O A e:Nat->Prop)(i q l s r:Nat)(C:Array Value)(d:Dk)(b:Int)(t:Mm)(a k:Nat)(c:a<9223372036854775808):∀f,Qi g O A e i q l s r C d b t a k f:=by
 intro f
 induction f with
 |zero =>
  intro L j h m w D u x E p n;refine Xk g O A e i q l s r C d b t a k c L j h m w u x ?_ n;cases v:m.ag.get (yd a (L:Int) j)with
  |none=>rfl
  |some B =>
   exfalso;have o:=p _ (Mm.get_mem v);unfold yd at o;simp only at o;have y:qx (L:Int) a=0:=by
    unfold qx;rw[zz];refine Cy (zq c ?_);exact zt (by decide:9223372036854775808<=4^32) (j2 (by omega) (by omega))
   rw[y]at o;omega
 |succ f z=>exact Xl g O A e i q l s r C d b t a k f c z
end
end Go.Proofs.YtfdbeldiomkdiaaGreatDoor
