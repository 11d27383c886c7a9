import Derived.Test.YtfdbeldiomkdiaaGreatDoorG23
set_option maxHeartbeats 8000000
set_option maxRecDepth 100000
set_option linter.all false
namespace Go.Proofs.YtfdbeldiomkdiaaGreatDoor
open Go.RowKit Go.Proofs.Tryz
def Ay:=@List.filter_eq_self
def BL:=@List.length_filter_le
def GF:=@List.filter_append
def Qc:=@Int.le_refl
variable {i j:Nat}{leaf r:zb}{m:Mm}{say:Say}
section
structure Cl where
 key:zb
 size:Nat
 root:zb
 room:Int
 proved:Mm
structure Er where
 n:Int
 p:zb
def Er.cp:Er:=⟨3,[]⟩
def Er.ak:Er:=⟨4,[]⟩
def Er.proof:Er:=⟨5,[]⟩
def Er.range:Er:=⟨2,[]⟩
def Er.br (p:zb):Er:=⟨6,p⟩
section
variable {σ:Type}(fe:σ -> zb -> (zb × Bool) × σ)
def GQ (b:zb->Nat->Nat->za->zb->Bool)(c:Cl)(s:σ)(i:Nat):Sum Er (zb×za)×Cl×σ:=
 match BI fe c.proved c.size ⟨s,[]⟩ (-1) i with
 |(.inl p,m)=>(.inl (.br p),c,m.al)
 |(.inr a,m)=>match Ax fe c.proved c.size m (AD 64 0 c.size i)with
  |(.inl p,m)=>(.inl (.br p),c,m.al)
  |(.inr d,m)=>if b a.hash i c.size d c.root then (.inr (a.entry,d),{c with proved:=qd c.room c.proved (AO c.size m.ag i a.hash)},m.al) else (.inl .proof,c,m.al)
def BR (a:Nat->Nat->zb->zb->za->Bool)(c:Cl)(s:σ)(n:Nat)(r:zb):Sum Er (za)×Mm×σ:=
 if n<c.size then (.inl .ak,c.proved,s)
 else if n=c.size then (if r=c.root then (.inr [],c.proved,s) else (.inl .proof,c.proved,s))
 else if c.size=0 then (.inr [],c.proved,s)
 else match Ax fe c.proved n ⟨s,[]⟩ (AB 64 c.size 0 n true)with
  |(.inl p,m)=>(.inl (.br p),c.proved,m.al)
  |(.inr b,m)=>if a c.size n c.root r b then (.inr b,qd c.room c.proved (F9 n m.ag c.size c.root),m.al) else (.inl .proof,c.proved,m.al)
def IQ (a:Nat->Nat->zb->zb->za->Bool)(c:Cl)(s:σ)(o:Option (Nat×zb)):Sum Er (za)×Cl×σ:=
 match o with
 |none=>(.inl .cp,c,s)
 |some (n,r)=>match BR fe a c s n r with
  |(.inl e,_,b)=>(.inl e,c,b)
  |(.inr f,d,b)=>(.inr f,{c with size:=n,root:=r,proved:=d},b)
end
def K8 (key:zb)(x:zb×Bool)(o:Option (Nat×zb)):Prop:=match o with
 |some (n,r)=>x.2=true/\vq x.1 key n r
 |none=>x.2=false\/∀n r,¬vq x.1 key n r
def K8.yes {a d:zb}{o:Option (Nat×zb)}{n:Nat}(h:K8 a (d,true) o)(b:vq d a n r):o=some (n,r):=by
 cases o with
 |none =>
  rcases h with h|h
  ·simp at h
  ·exact absurd b (h n r)
 |some x =>
  obtain⟨c,e⟩:=x;obtain⟨rfl,rfl⟩:=h.2.inj b
  rfl
section
variable {σ:Type}{fe:σ -> zb -> (zb × Bool) × σ}
structure Tru (fe:σ->zb->(zb×Bool)×σ)(I:σ->Prop)(say:Say)(es:za)(size:Nat):Prop where
 bE:S4 fe I say
 ax:∀e∈es,e.length<=20
 le:size<=es.length
 lt:size<2^63
 files:∀(l:Int) (j w:Nat),-1<=l->j<qx l size->yd size l j=(l,((j/4:Nat):Int),(w:Int))->say (KH (yd size l j))=some (D6 es l (j/4) w)
def Rk (a:Nat)(l:Int)(j:Nat)(h:j<qx l a):∃w:Nat,yd a l j=(l,((j/4:Nat):Int),(w:Int))/\1<=w/\w<=4/\4*(j/4)+w<=qx l a:=by
 refine⟨min (qx l a-j/4*4) 4,?_,by omega,by omega,by omega⟩;unfold yd;simp only[xj,IJ];omega
def Tru.file {I:σ->Prop}{c:za}{a:Nat}(h:Tru fe I say c a)(l:Int)(n:-1<=l)(j:Nat)(i:j<qx l a):∃f,MJ say (yd a l j)=some f/\LU (En c) (yd a l j) f:=by
 obtain⟨w,e,q,r,s⟩:=Rk a l j i;have o:=Oe l h.le;obtain⟨f,g,p⟩:=zdi c h.ax l n (j/4) w q r (by omega);have d:=Ro g;refine⟨f,?_,d.len,λk m=>⟨λb=>by rw[d.fits k]at b;simp at b,λb=>?_⟩⟩
 ·unfold MJ;rw[h.files l j w n i e,e];simp only;rw[g]
 ·rw[e];refine⟨p k m b,?_⟩;rw[d.there k m]at b;have:(k:Int)<w:=by simpa using b
  unfold GS;simp only[zz];omega
def Tru.ctx {I:σ->Prop}{d:za}{b:Nat}(h:Tru fe I say d b){a:Mm}(o:GB (En d) a):Ctx fe I (MJ say) (En d) (TK d) a b:=
 ⟨h.bE.aZ,II d,λl j g n m e=>by
  obtain⟨f,i,k⟩:=h.file l n j m;rw[i]at e;simp only[zn]at e;rw[<- e];exact k,λl j c _ hv=>Zl d b l j c hv.1,o⟩
def Tru.there {I:σ->Prop}{c:za}{b:Nat}(h:Tru fe I say c b)(a n:Nat)(d:a+n<=b)(g:1<=n):∀p∈jg b 64 a n,MJ say p.1≠none:=by
 intro p k;have:=h.lt;obtain⟨l,j,rfl,-,i,-⟩:=JO b h.lt 63 a n d g (by omega) p k;obtain⟨f,e,-⟩:=h.file (l:Int) (by omega) j i;simp only;rw[e];simp
def Tru.roots {I:σ->Prop}{f:za}{a:Nat}(h:Tru fe I say f a){b:Mm}(v:GB (En f) b)(d:List (Nat×Nat))(m:Ms σ)(u:GB (En f) m.ag)(hI:I m.al)(i:∀s∈d,s.1+s.2<=a/\1<=s.2)(r:∀s∈d,Al s.1 s.2):
  ∃g,Ax fe b a m d=(.inr (d.map λs=>yy (CC f s)),g)/\GB (En f) g.ag/\I g.al/\Bu fe b a m (d.flatMap λs=>jg a 64 s.1 s.2) g:=by
 have t:=h.lt;obtain⟨g,n,o,e|⟨s,c,p,e,j,q⟩⟩:=YV (h.ctx v) h.lt d m u hI i
 ·have w:(d.map λs=>KK (TK f) a 64 s.1 s.2)=d.map λs=>yy (CC f s):=by
   apply FT;intro s c;obtain⟨k,l⟩:=i s c;exact YT f a h.le h.lt 63 s.1 s.2 k l (by omega) (r s c)
  rw[w]at e;exact⟨g,e,n,o,MM h.lt d m g _ i e⟩
 ·obtain⟨k,l⟩:=i s c;exact absurd q (h.there s.1 s.2 k l p j)
def YL {I:σ->Prop}{b:za}{c:Cl}(h:Tru fe I say b c.size)(p:GB (En b) c.proved)(P:P6 c.size c.proved){s:σ}(hI:I s)(N:i<c.size)(r:zb->Nat->Nat->za->zb->Bool)
 (n:r (AH (b.getD i [])) i c.size ((AD 64 0 c.size i).map λs=>yy (CC b s)) c.root=true) :
  ∃m,Bu fe c.proved c.size ⟨s,[]⟩ (I4 c.size i) m/\I m.al/\GQ fe r c s i=(.inr (b.getD i [],(AD 64 0 c.size i).map λs=>yy (CC b s)),{c with proved:=qd c.room c.proved (AO c.size m.ag i (AH (b.getD i [])))},m.al) /\
   GB (En b) (qd c.room c.proved (AO c.size m.ag i (AH (b.getD i []))))/\P6 c.size (qd c.room c.proved (AO c.size m.ag i (AH (b.getD i [])))):=by
 have B:=h.lt;have O:=h.le;have v:i<qx (-1) c.size:=by simpa[qx]using N
 have o:GB (En b) ([]:Mm):=Ec _;rcases Oy (fe:=fe) (proved:=c.proved) (m:=⟨s,[]⟩) (l:=-1) (j:=i) h.bE.aZ (II b) (λg e=>(h.ctx p).told _ _ g (by omega) v e) p o hI v with ⟨t,F,z,W,hv,M,A⟩|⟨F,z,u,-,-⟩
 ·have E:t.hash=AH (b.getD i [])/\t.entry=b.getD i []:=by
   have:=hv.1.1 rfl;rw[Fy]at this;exact this
  have k:∀s∈AD 64 0 c.size i,s.1+s.2<=c.size/\1<=s.2:=λs R=>by
   have:=I0 64 0 c.size i (by omega) s R;omega
  obtain⟨w,u,G,H,Q⟩:=h.roots p (AD 64 0 c.size i) F M A k (zh0 64 0 c.size i (by omega) (LV _));have D:Bu fe c.proved c.size ⟨s,[]⟩ (I4 c.size i) w:=.cons v z Q;have L:=Za b c.size w.ag i (AH (b.getD i [])) G (by omega) rfl;refine⟨w,D,H,?_,Jl c.room _ _ p L.2,P6.aK c.room _ _ P ?_⟩
  ·unfold GQ;rw[z];simp only;rw[u];simp only;rw[E.1,E.2,n]
   rfl
  ·refine P6.keys (a:=w.ag) ?_ (Ho ..);intro x S;rcases D.keys p.wf (Ec _) x S with ⟨y,T,-⟩|⟨q,d,e⟩
   ·simp at T
   ·rw[<- e];rcases jl.1 d with rfl|d
    ·exact O7 ..
    ·obtain⟨C,J,K⟩:=Bz.1 d;obtain⟨U,V⟩:=k C J;obtain⟨l,j,rfl,-⟩:=JO c.size B 63 C.1 C.2 U V (by omega) q K;exact O7 ..
 ·exfalso;obtain⟨f,e,-⟩:=h.file (-1) (by omega) i v;rw[e]at u;simp at u
def WJ {I:σ->Prop}{b:za}{c:Cl}{n:Nat}(h:Tru fe I say b n)(f:GB (En b) c.proved)(r:P6 c.size c.proved){s:σ}(hI:I s)(A:c.root=yy (b.take c.size))(H:c.size<=n)(g:Nat->Nat->zb->zb->za->Bool)
 (i:0<c.size->c.size<n->g c.size n c.root (yy (b.take n)) ((AB 64 c.size 0 n true).map λs=>yy (CC b s))=true) :
  ∃o t,BR fe g c s n (yy (b.take n))=(.inr (if 0<c.size/\c.size<n then (AB 64 c.size 0 n true).map (λs=>yy (CC b s)) else []),o,t)/\GB (En b) o/\P6 n o/\I t/\((o=c.proved/\t=s)\/∃d,Bu fe c.proved n ⟨s,[]⟩ ((AB 64 c.size 0 n true).flatMap λs=>jg n 64 s.1 s.2) d/\o=qd c.room c.proved (F9 n d.ag c.size c.root)/\t=d.al/\0<c.size):=by
 have m:=h.lt;have J:=h.le;unfold BR;rw[if_neg (by omega)]
 by_cases p:n=c.size
 ·rw[if_pos p,if_pos (by rw[A,p]),if_neg (by omega)];exact⟨_,_,rfl,f,p▸r,hI,.inl ⟨rfl,rfl⟩⟩
 ·rw[if_neg p]
  by_cases z:c.size=0
  ·rw[if_pos z,if_neg (by omega)];exact⟨_,_,rfl,f,r.more (by omega),hI,.inl ⟨rfl,rfl⟩⟩
  ·rw[if_neg z,if_pos (by omega)];have k:∀s∈AB 64 c.size 0 n true,s.1+s.2<=n/\1<=s.2:=λs K=>by
    have:=LF 64 c.size 0 n true (by omega) (by omega) (by omega) (by omega) s K;omega
   obtain⟨d,B,C,D,u⟩:=h.roots f (AB 64 c.size 0 n true) ⟨s,[]⟩ (Ec _) hI k (zhx 64 c.size 0 n true (by omega) (by omega) (by omega) (LV _));rw[B];simp only;rw[i (by omega) (by omega)];have G:=Zc b n d.ag c.size c.root C (by omega) (by omega) (by omega) A (YY m (by omega) (by omega) f.wf r u);refine⟨_,_,rfl,Jl c.room _ _ f G.2,P6.aK c.room _ _ (r.more H) ?_,D,.inr ⟨d,u,rfl,rfl,by omega⟩⟩;refine P6.keys (a:=d.ag) ?_ (NJ ..);intro x L;rcases u.keys f.wf (Ec _) x L with ⟨y,M,-⟩|⟨q,v,e⟩
   ·simp at M
   ·rw[<- e];obtain⟨w,E,F⟩:=Bz.1 v;obtain⟨N,O⟩:=k w E;obtain⟨l,j,rfl,-⟩:=JO n m 63 w.1 w.2 N O (by omega) q F;exact O7 ..
def UI (c:Int)(j:Mm):∀(h:Mm),h.ok->(h.length:Int)<=c->∃a:Mm,qd c j h=a++h.map λx=>(x.1,GY x.2):=by
 suffices hr:∀(d:Mm),Mm.ok d.reverse->(d.length:Int)<=c->∃a:Mm,qd c j d.reverse=a++d.reverse.map λx=>(x.1,GY x.2) by
  intro h o p;have:=hr h.reverse (by rw[List.reverse_reverse];exact o) (by simpa using p)
  rwa[List.reverse_reverse]at this
 intro d
 induction d with
 |nil=>intro _ _;exact⟨j,by simp[qd]⟩
 |cons x d t =>
  intro f i;simp only[List.reverse_cons]at *;simp only[xf]at i;have g:Mm.ok d.reverse/\∀y∈d.reverse,y.1≠x.1:=by
   unfold Mm.ok at f;rw[yv,Aj]at f;exact⟨f.1,λy k e=>f.2.2 _ (Ck k) x.1 (by simp) e⟩
  obtain⟨a,q⟩:=t g.1 (by omega);have m:qd c j (d.reverse++[x])=(qd c j d.reverse).put c x.1 (GY x.2):=by
   unfold qd;rw[Ij]
   rfl
  have n:Mm.drop (a++d.reverse.map λx=>(x.1,GY x.2)) x.1=Mm.drop a x.1++d.reverse.map λx=>(x.1,GY x.2):=by
   unfold Mm.drop;rw[GF];congr 1;rw[Ay];intro y k;obtain⟨z,s,rfl⟩:=yi.1 k;have:=g.2 z s;simpa using this
  rw[m,q];unfold Mm.put;rw[n];split
  ·rename_i l;cases r:Mm.drop a x.1 with
   |nil =>
    rw[r]at l;simp at l;omega
   |cons y b=>exact⟨b,by simp⟩
  ·exact⟨Mm.drop a x.1,by simp⟩
def Pr (a:Int):∀(c b:Mm),b.ok->(qd a b c).ok
 |[],b,h=>h
 |x::c,b,h=>by
  show(qd a (b.put a x.1 (GY x.2)) c).ok;exact Pr a c _ (Mm.bL h _ _)
def zif (a:Int)(h:a<=0)(p:Pl)(f:Fl):Mm.put a [] p f=[]:=by
 unfold Mm.put Mm.drop;rw[if_pos (by simp;omega)]
 rfl
def Ju (a:Int)(h:a<=0):∀b:Mm,qd a [] b=[]
 |[]=>rfl
 |x::b=>by
  show qd a (Mm.put a [] x.1 (GY x.2)) b=[];rw[zif a h];exact Ju a h b
def WO (m:Mm)(h:m.length<=1)(p:Pl)(f:Fl):m.put 1 p f=[(p,f)]:=by
 have a:(m.drop p).length<=1:=zt (BL ..) h;unfold Mm.put
 match b:m.drop p,a with
 |[],_=>rfl
 |[y],_=>rfl
def I7:∀(b a:Mm),a.length<=1->(qd 1 a b).length<=1
 |[],a,h=>h
 |x::b,a,h=>by
  show(qd 1 (a.put 1 x.1 (GY x.2)) b).length<=1;exact I7 b _ (by rw[WO a h];simp)
def Su (b a:Mm)(x:Pl×Fl)(h:a.length<=1):qd 1 a (b++[x])=[(x.1,GY x.2)]:=by
 have:qd 1 a (b++[x])=(qd 1 a b).put 1 x.1 (GY x.2):=by
  unfold qd;rw[Ij]
  rfl
 rw[this,WO _ (I7 b a h)]
def ze3 (a:Int)(m:Mm):Prop:=(a<=0->m=[])/\(a=1->m.length<=1)
def ze3.aK {a:Int}(h:ze3 a m)(c:Mm):ze3 a (qd a m c):=
 ⟨λb=>by rw[h.1 b];exact Ju a b c,λb=>by subst b;exact I7 c m (h.2 rfl)⟩
def Vf {c:Cl}{s:σ}{m t:Ms σ}(d:Lb c.proved)(E:16<=c.room)(B:c.size<=256)(z:i<c.size)(g:Bu fe c.proved c.size ⟨s,[]⟩ (I4 c.size i) m)
 (u:Bu fe (qd c.room c.proved (AO c.size m.ag i leaf)) c.size ⟨m.al,[]⟩ (I4 c.size i) t):t.al=m.al:=by
 have h:=g.wf d (Ec _);have o:=Zb c.size m.ag i leaf h;have r:(AO c.size m.ag i leaf).length<=9:=by
  have e:=Ho c.size m.ag i leaf;have A:=e.symm;have:((AO c.size m.ag i leaf).map (·.1)).length<=(zj3 c.size i).length:=by
   rw[<- A];refine ZX _ _ h.1 (λp k=>?_);obtain⟨x,C,rfl⟩:=yi.1 k;rcases g.keys d (Ec _) x C with ⟨y,D,-⟩|⟨q,l,e⟩
   ·simp at D
   ·rw[<- e];exact WS c.size i z B q l
  rw[zfn]at this;simpa using this
 obtain⟨a,v⟩:=UI c.room c.proved _ o.1 (by omega);have j:=Pr c.room (AO c.size m.ag i leaf) c.proved d.1;have n:=Jl c.room _ _ d o.2;have b:=(UL c.size m.ag i leaf h).has (g.has d (Ec _)).1;refine u.quiet n (Ec _) (λq l=>?_);obtain⟨f,f1,f2,f3,f4⟩:=b q l;have w:(qd c.room c.proved (AO c.size m.ag i leaf)).get q.1=some (GY f):=by
  refine Mm.get_of_mem j ?_;rw[v];refine yj.2 (.inr (yi.2 ⟨_,Mm.get_mem f1,rfl⟩))
 unfold j6;rw[show Mm.get (⟨m.al,[]⟩:Ms σ).ag q.1=none from rfl,w];simp only;rw[VK,if_pos f4];exact f3
def SY (c:σ->Int)(k:∀s p,c (fe s p).2=c s+1){a:Mm}{b:Nat}{m f:Ms σ}{l:Int}{o:Sum (zb) Pc}(h:BI fe a b m l j=(o,f)):
  c m.al<=c f.al/\(((j6 a m.ag (yd b l j)).getD (j%4) .no).there=false->c m.al<c f.al):=by
 have d:∀s p,c (B0 fe s p).2=c s+1:=λs p=>k s _;unfold BI at h
 by_cases e:((j6 a m.ag (yd b l j)).getD (j%4) .no).there=true
 ·rw[if_pos e]at h;simp only[xj]at h;obtain⟨-,rfl⟩:=h;exact⟨Qc _,λg=>by rw[e]at g;simp at g⟩
 ·rw[if_neg e]at h;have i:=d m.al (yd b l j);cases n:B0 fe m.al (yd b l j)with
  |mk o s =>
   rw[n]at h i;cases o
   all_goals
    simp only[xj]at h;obtain⟨-,rfl⟩:=h;simp only at *;exact⟨by omega,λ_=>by omega⟩
def Bu.aP {a:Mm}{c:Nat}{m d:Ms σ}{g:List (Pl×Nat)}(h:Bu fe a c m g d)(b:σ->Int)(f:∀s p,b (fe s p).2=b s+1):b m.al<=b d.al:=by
 induction h using Bu.ind with
 |nil m=>exact Qc _
 |cons i e _ j =>
  have:=(SY b f e).1;omega
def Bu.head {a:Mm}{b:Nat}{m f:Ms σ}{x:Pl×Nat}{r:List (Pl×Nat)}(h:Bu fe a b m (x::r) f):∃l j c d,x=(yd b l j,j%4)/\j<qx l b/\BI fe a b m l j=(.inr c,d)/\Bu fe a b d r f:=by
 obtain⟨l,j,c,d,rfl,g,e,i⟩:=h;exact⟨l,j,c,d,rfl,g,e,i⟩
def zdr (b:Nat):∀(f a n:Nat),1<=n->n<=2^f->jg b (f+1) a n≠[]:=by
 intro f
 induction f with
 |zero =>
  intro a n g e;obtain rfl:n=1:=by omega
  rw[jg,if_pos (by decide)];simp
 |succ f i =>
  intro a n g e
  by_cases c:n/4^Bg n=1
  ·rw[jg,if_pos c];simp
  ·have d:2<=n:=by
    rcases qf n 2 with h|h
    ·exact absurd (by
       obtain rfl:n=1:=by omega
       decide) c
    ·exact h
   obtain⟨j,l,k,m,o,p⟩:=Bo n f d e;rw[jg,if_neg c];simp[i a (yo n) k j]
def XH {c:Cl}{s:σ}{m K:Ms σ}(g:σ->Int)(F:∀s p,g (fe s p).2=g s+1)(H:Lb c.proved)(E:ze3 c.room c.proved)(d:c.room<=0\/(c.room=1/\2<=c.size))(T:c.size<2^63)(Q:Bu fe c.proved c.size ⟨s,[]⟩ (I4 c.size i) m)
 (R:Bu fe (qd c.room c.proved (AO c.size m.ag i leaf)) c.size ⟨m.al,[]⟩ (I4 c.size i) K):g m.al<g K.al:=by
 have v:(qd c.room c.proved (AO c.size m.ag i leaf)).get (yd c.size (-1) i)=none:=by
  rcases d with d|⟨d,n⟩
  ·rw[E.1 d,Ju c.room d];rfl
  ·have S:=E.2 d;obtain⟨l,j,N,J,-,G,e,z⟩:=Q.head;have w:∃(a:Mm) (x:Pl×Fl),m.ag=a++[x]/\x.1.1≠-1:=by
    have B:=(Bu.cons G e (.nil J)).wf H (Ec _);rcases z.last H B with h0|⟨a,x,t,q,A,O⟩
    ·exfalso;have:AD 64 0 c.size i≠[]:=by
      by_cases k:i<0+yo c.size
      ·rw[Ez 63 0 c.size i n k];simp
      ·rw[D7 63 0 c.size i n k];simp
     cases b:AD 64 0 c.size i with
     |nil=>exact this b
     |cons f r =>
      obtain⟨W,X,C⟩:=I0 64 0 c.size i (by omega) f (by rw[b];simp);rw[b,DO,List.append_eq_nil_iff]at h0;exact zdr c.size 63 f.1 f.2 C (by omega) h0.1
    ·refine⟨a,x,t,?_⟩;obtain⟨f,Y,Z⟩:=Bz.1 A;obtain⟨W,X,C⟩:=I0 64 0 c.size i (by omega) f Y;obtain⟨U,j',rfl,-⟩:=JO c.size T 63 f.1 f.2 (by omega) C (by omega) q Z;rw[<- O];show((U:Nat):Int)≠-1;omega
   obtain⟨a,x,t,o⟩:=w;have k:=Ho c.size m.ag i leaf;rw[t,yv,List.map_eq_append_iff]at k;obtain⟨V,I,D,-,h⟩:=k;simp only[j4,DQ]at h;obtain⟨y,rfl,P⟩:∃y,I=[y]/\y.1=x.1:=by
    cases I with
    |nil=>simp at h
    |cons y r =>
     rw[j4,EK,List.map_eq_nil_iff]at h;exact⟨y,by rw[h.2],h.1⟩
   rw[<- t]at D;rw[d,D,Su V c.proved y S];have:¬y.1=yd c.size (-1) i:=by
    rw[P];intro e;rw[e]at o;exact o rfl
   unfold Mm.get;simp[this]
 obtain⟨l,j,N,J,o,G,e,z⟩:=R.head;have L:=(SY g F e).2;have a2:=z.aP g F;simp only[xj]at o;have u:j6 (qd c.room c.proved (AO c.size m.ag i leaf)) [] (yd c.size l j)=Fl.no:=by
  unfold j6;rw[<- o.1,v]
  rfl
 have:((j6 (qd c.room c.proved (AO c.size m.ag i leaf)) [] (yd c.size l j)).getD (j%4) .no).there=false:=by
  rw[u];have:j%4<4:=TU _ (by omega)
  match j%4,this with
  |0,_|1,_|2,_|3,_=>rfl
 have M:=L this;simp only at M;omega
end
end
variable {k:Nat}
structure Ly where
 path:zb
 data:zb
 aH:Bool
 times:Int
structure Nt where
 ao:List Ly
 told:List Int
 ai:Int
def Ly.none:Ly:=⟨[],[],false,0⟩
def Gf (n:Nt)(p:zb)(k:Nat):Bool:=decide ((n.ao.getD k .none).path=p)&&!(decide (0<(n.ao.getD k .none).times)&&decide ((n.ao.getD k .none).times<=n.told.getD k 0))
def Pg (n:Nt)(p:zb):Option Nat:=(List.range n.ao.length).find? (Gf n p)
def qr (fs:Fs)(n:Nt)(p:zb):(zb×Bool)×Nt:=match Pg n p with
 |some k=>(((n.ao.getD k .none).data,!(n.ao.getD k .none).aH),{n with told:=n.told.set k (n.told.getD k 0+1),ai:=n.ai+1})
 |none=>match xr fs p with
  |some d=>((d,true),{n with ai:=n.ai+1})
  |none=>(([],false),{n with ai:=n.ai+1})
def Wk {n:Nt}{p:zb}(c:k<n.ao.length)(h:Gf n p k=true)(b:∀j,j<k->Gf n p j=false):Pg n p=some k:=by
 unfold Pg;rw[List.find?_range_eq_some];exact⟨h,by simpa using c,λj a=>by rw[b j a];rfl⟩
def Y0 {n:Nt}{p:zb}(h:∀j,j<n.ao.length->Gf n p j=false):Pg n p=none:=by
 unfold Pg;rw[Bj];intro j a;rw[h j (by simpa using a)];simp
variable {fs':Fs}
def Bb (c:Fs)(b:za)(a:Nat):Prop:=∀f∈j8 (b.take a),xr c f.1=some f.2
theorem Eu (fs:Fs)(n:Nt)(h:n.ao=[])(p:zb):qr fs n p=(match xr fs p with
 |some d=>((d,true),{n with ai:=n.ai+1})
 |none=>(([],false),{n with ai:=n.ai+1})):=by
 unfold qr;have:Pg n p=none:=by unfold Pg;rw[h];rfl
 simp only[this]<;>cases xr fs p<;>rfl
def F8 (a:Fs)(n:Nt)(p:zb):(qr a n p).2.ai=n.ai+1:=by
 unfold qr;split
 ·rfl
 ·split<;>rfl
def Jm (a:Fs):S4 (qr a) (λn=>n.ao=[]) (xr a):=by
 refine⟨λn p h=>?_,λn p h=>?_⟩
 ·rw[Eu a n h];cases xr a p<;>rfl
 ·rw[Eu a n h];cases xr a p<;>exact h
def JT {fs:Fs}{b:za}{a:Nat}(o:∀e∈b,e.length<=20)(c:a<=b.length)(i:a<4^21)(h:Bb fs b a):Tru (qr fs) (λn=>n.ao=[]) (xr fs) b a:=by
 have g:a<2^63:=zq i (by decide);refine⟨Jm fs,o,c,g,λl j w r u e=>?_⟩;have d:(b.take a).length=a:=by simp;omega
 have p:l<=20:=by
  rcases Int.lt_or_le 20 l with k|k
  ·exfalso;have s:4^21<=4^l.toNat:=j2 (by omega) (by omega);have t:qx l a=0:=by unfold qx;exact Cy (by omega)
   omega
  ·exact k
 have m:CD (qx l a) (j/4)=w:=by
  unfold yd at e;simp only[xj,IJ]at e;unfold CD;omega
 have q:4*(j/4)+w<=qx l a:=by unfold CD at m;omega
 have f:Eb (b.take a) l (qx l a) (j/4)∈j8 (b.take a):=by
  rw[Cv,d];exact⟨l,j/4,⟨r,p⟩,by omega,rfl⟩
 have:=h _ f;unfold Eb at this;simp only at this;rw[m,Pa b a l (j/4) w q c]at this;rw[e];exact this
def Bb.bO {b more:za}{a:Nat}{g:Fs}{W:Fs}{c:zb}(h:Bb g b a)(i:Ip W c g fs')(e:a<=b.length):Bb fs' (b++more) a:=by
 intro f d;rw[vr e]at d;refine i.stays (h f d) ?_;obtain⟨l,j,-,-,rfl⟩:=Cv.1 d;exact QI
def JX (b:Fs)(a:za):Prop:=∀q x,xr b q=some x->q=CA\/∃n,n<=a.length/\(q,x)∈j8 (a.take n)
def JX.more {c:Fs}{b:za}(h:JX c b)(a:za):JX c (b++a):=by
 intro q x f;rcases h q x f with h|⟨n,d,e⟩
 ·exact .inl h
 ·exact .inr ⟨n,by simp;omega,by rw[vr d];exact e⟩
def JX.bO {f:Fs}{a:za}{c:zb}(h:JX f a)(i:Ip (j8 a) c f fs'):JX fs' a:=by
 intro q x d;rcases i q with b|⟨b,g⟩|b
 ·rw[b]at d;exact h q x d
 ·obtain⟨y,j,e⟩:=g;rw[d]at e;simp only[zn]at e;exact .inr ⟨a.length,zk _,by rw[jb,e];exact j⟩
 ·exact .inl b.1
def JX.bQ {i:Fs}{b:za}(h:JX i b)(r:b.length<=1000000):EV i (j8 b):=by
 intro q x m;cases t:xr i q with
 |none=>exact .inl rfl
 |some y =>
  right
  rcases h q y t with rfl|⟨n,s,u⟩
  ·exact absurd m ((TN r).2 x)
  ·obtain⟨l,j,o,p,e⟩:=Cv.1 m;obtain⟨w,v,k,c,a⟩:=Cv.1 u;unfold Eb at e a;simp only[xj]at e a;have d:(b.take n).length=n:=by simp;omega
   rw[d]at c a;have z:=IY l b.length;have A:=IY w n;obtain⟨rfl,B,C⟩:=SX (JD o p) (JD k c) (by omega) (by omega) (e.1.symm.trans a.1);have f:j=v:=by omega
   subst f;have g:CD (qx l b.length) j=CD (qx l n) j:=by omega
   rw[e.2,a.2,g,Pa b n l j _ (by unfold CD;omega) s]
variable {before:Fs}{d:Dk}
def C0 (d:Dk):Prop:=d.az=0/\d.dead=false/\d.hit=false
def C0.enter (h:C0 d):C0 (qu d):=by
 obtain⟨a,b,c⟩:=h;unfold qu;rw[b,if_neg (by simp),if_neg (by omega)];exact⟨a,rfl,c⟩
def C0.files (h:C0 d)(a:Fs):C0 {d with fs:=a}:=h
def C0.put (h:C0 d)(p x:zb):C0 (E0 d p x):=by
 unfold E0;split
 ·split
  ·split
   ·exact h.enter.files _
   ·exact h.enter
  ·exact⟨h.enter.1,h.enter.2.1,h.enter.2.2⟩
 ·split
  ·exact h.enter.files _
  ·exact h.enter
def C0.bY:∀(l:Fs) {d:Dk} ,C0 d->C0 (AU l d).2
 |[],_,h=>h
 |f::r,d,h=>by
  unfold AU;split
  ·exact h.put _ _
  ·exact C0.bY r (h.put _ _)
def C0.swap (h:C0 d)(p x:zb):C0 (GR d p x):=by
 unfold GR;split
 ·exact h.enter.files _
 ·exact h.enter
def C0.an (h:C0 d)(A9:Fs)(c:zb):C0 (CZ A9 c d).2:=by
 have a:=h.bY A9;unfold CZ;generalize AU A9 d=r at *;obtain⟨o,d1⟩:=r;cases o with
 |some p=>exact a
 |none =>
  simp only;split
  ·exact a.swap _ _
  ·exact a.swap _ _
def za9 {j8:Fs}(h:EV before j8):Ep before j8=false:=by
 unfold Ep;rw[List.any_eq_false];intro f a;rcases h f.1 f.2 a with e|e<;>rw[e]<;>simp
def Chp (c:Fs)(b:za)(a:Nat)(d:zb):Prop:=
 a<=b.length/\((xr c CA=none/\a=0)\/(xr c CA=some (AR a (yy (b.take a)) d)/\Bb c b a))
def Pf (b:Fs)(a:za):Bb b a 0:=λf c=>absurd c (by rw[List.take_zero];exact X4)
def Chp.all {d:Fs}{c:za}{b:Nat}{a:zb}(h:Chp d c b a):Bb d c b:=by
 rcases h.2 with ⟨-,rfl⟩|⟨-,h⟩
 ·exact Pf _ _
 ·exact h
def Bb.more {c:Fs}{b:za}{n:Nat}(h:Bb c b n)(e:n<=b.length)(a:za):Bb c (b++a) n:=λf d=>h f (by rw[vr e]at d;exact d)
def Chp.more {f:Fs}{e:za}{d:Nat}{b:zb}(h:Chp f e d b)(a:za):Chp f (e++a) d b:=by
 refine⟨by have:=h.1;simp;omega,?_⟩;rcases h.2 with c|⟨c,g⟩
 ·exact .inl c
 ·exact .inr ⟨by rw[vr h.1];exact c,g.more h.1 a⟩
variable {B db wb:Nat}{N O O':Nat->Prop}{T:List Nat}{ev lv:Value}{w w':World}
def zow (w:World)(O:Nat->Prop)(h:Nat)(i e:Value)(x:Wd)(d:Dk)(s:List Nat)(b:za)(a:Nat):Prop:=
 ∃c f,i=.pointer (some ⟨c,0,none⟩)/\O c/\KM w c f/\Ak w O h f {key:=x.key,es:=b,put:=a,live:=!x.failed}/\w.ownsRow 0 9 1 e b.length (b.map qy)/\(∀g,e.ownBlock=some g->O g)/\Ent x d s b a
def Fh (w:World)(O:Nat->Prop)(g a:Nat)(e c:Value)(x:Wd)(d:Dk)(s:List Nat)(n:Nat)(f:za)(b:Nat):Prop:=
 x.aw=false/\KO w g a e c x/\ym w O a d/\Num n x d s/\zow w O a e c x d s f b
def Fh.stay {x:Wd}{s:List Nat}{n:Nat}{c:za}{b:Nat}(h:Fh w O wb db lv ev x d s n c b)(a:zl N T w w')(r:76∉T)(t:144∉T)(u:125∉T)(v:209∉T)(y:9∉T)(z:200∉T)(A:94∉T)(B:5∉T):Fh w' O wb db lv ev x d s n c b:=by
 obtain⟨f,g,i,j,D,C,e,k,l,m,o,p,q⟩:=h;exact⟨f,a.keep g r,i.stay a t u,j,D,C,e,k,a.keep l v,m.stay a z A B,zy o a y,p,q⟩
def Fh.mono {x:Wd}{s:List Nat}{n:Nat}{c:za}{a:Nat}(h:Fh w O wb db lv ev x d s n c a)(b:∀k,O k->O' k):Fh w O' wb db lv ev x d s n c a:=by
 obtain⟨f,i,j,l,y,v,e,m,o,p,q,r,t⟩:=h;exact⟨f,i,j.mono b,l,y,v,e,b _ m,o,p.mono b,q,λg u=>b g (r g u),t⟩
def Fh.later {x:Wd}{s:List Nat}{n m:Nat}{b:za}{a:Nat}(h:Fh w O wb db lv ev x d s n b a)(c:n<=m):Fh w O wb db lv ev x d s m b a:=
 ⟨h.1,h.2.1,h.2.2.1,h.2.2.2.1.more c,h.2.2.2.2⟩
structure RP (B:Nat)(w:World)(O:Nat->Prop)(wb db n:Nat)(es:za)(an:Nat)(key:zb)(d:Dk):Prop where
 bI:O wb
 own:∀k,O k->B<=k/\k<w.heap.size
 full:∃lv ev s put,Fh w O wb db lv ev {key:=key,ar:=(an:Int),failed:=false,aw:=false} d s n es put
 still:C0 d
 since:JX d.fs es
 bh:Chp d.fs es an key
def RP.stay {n:Nat}{e:za}{c:Nat}{a:zb}(h:RP B w O wb db n e c a d)(i:zl N T w w')(l:76∉T)(m:144∉T)(o:125∉T)(p:209∉T)(q:9∉T)(r:200∉T)(t:94∉T)(u:5∉T):RP B w' O wb db n e c a d:=by
 obtain⟨v,j,s,b,g⟩:=h.full;exact⟨h.bI,λk f=>⟨(h.own k f).1,zq (h.own k f).2 i.size⟩,⟨v,j,s,b,g.stay i l m o p q r t u⟩,h.still,h.since,h.bh⟩
def RP.below {n:Nat}{c:za}{b:Nat}{a:zb}(h:RP B w O wb db n c b a d)(e:zc w w'):RP B w' O wb db n c b a d:=
 h.stay (N:=λ_=>False) (T:=[]) (.aa e) (by simp) (by simp) (by simp) (by simp) (by simp) (by simp) (by simp) (by simp)
def RP.later {n m:Nat}{e:za}{c:Nat}{a:zb}(h:RP B w O wb db n e c a d)(i:n<=m):RP B w O wb db m e c a d:=by
 obtain⟨j,f,s,b,g⟩:=h.full;exact⟨h.bI,h.own,⟨j,f,s,b,g.later i⟩,h.still,h.since,h.bh⟩
def RP.ext {n:Nat}{f:za}{e:Nat}{b:zb}(h:RP B w' O wb db n f e b d)(j:B<=w.heap.size):RP B w' (qv O w w') wb db n f e b d:=by
 obtain⟨l,i,s,c,g⟩:=h.full;exact⟨.inl h.bI,λk a=>by
  rcases a with a|a
  ·exact h.own k a
  ·exact⟨zt j a.1,a.2⟩,⟨l,i,s,c,g.mono (λ_ h=>.inl h)⟩,h.still,h.since,h.bh⟩
def Fh.full {x:Wd}{s:List Nat}{n:Nat}{i:za}{g:Nat}(h:Fh w O wb db lv ev x d s n i g):Jz w O wb db lv ev x d s n:=by
 obtain⟨a,b,c,e,k,j,f⟩:=h;exact⟨a,b,c,e,.inr ⟨k,j,i,g,f⟩⟩
def P5 (O:Nat->Prop)(W:World)(bz:Nat->Addr)(hE:DW W)(bB:vj W bz)(bA:RW W)(wb db:Nat)(lv ev:Value)(x:Wd)(d:Dk)(s:List Nat)(n:Nat)(w:World)(a8:∀k,O k->W.heap.size<=k/\k<w.heap.size)(hW:zc W w)(hn:n<=4100)(hO:O wb)(a:za)(C:Nat)(h:Fh w O wb db lv ev x d s n a C):
  Calls prog 91 #[.pointer (some ⟨wb,0,none⟩)] w λr m=>r=.returned (.bool true)/\zl O aT w m/\MU W.heap.size m (qv O w m) wb (n+1)/\(x.failed=false->C0 d->EV d.fs (j8 a)->∃b1 bW d',Fh m (qv O w m) wb db b1 bW {x with aw:=false,ar:=(a.length:Int)} d' s (n+1) a a.length/\C0 d'/\Ip (j8 a) (PK x a) d.fs d'.fs/\xr d'.fs CA=some (PK x a)/\∀f∈j8 a,xr d'.fs f.1=some f.2):=by
 have HF:=ze h.full;obtain⟨-,aL,hd,M,pb,lb,rfl,hX⟩:=h;have L:=hX.2.2.2.2.2;have b8:a.length<=40000:=by have:=Nl L;have:=M.small;omega
 have b0:=Xu a C;have i:Hid (d.fs.length+(A9 a C).length<=800000000):=by have:=M.count;show _<=_;omega
 have ca:=zf0 aL hd;obtain⟨⟨c0,-⟩,-⟩:=FK aL;obtain⟨ea,ec,rfl⟩:=qt hX.2.2.2.1;have b:=ze L;have I:=ze M;have ap:=ze aL;have HX:=ze hX;have ai:=ze a8;have HW:=ze hW;have HO:=ze hO;have bu:Hid (C0 d->C0 (CZ (A9 a C) (PK x a) d).2):=λh=>h.an _ _;have bp:=ze (CN O db wb d w (by have:=i.out;omega) hd c0);have br:=ze (λw2 (ax:zc w w2) (aq:zl O [] w w2)=>UA O W bz hE bB bA (λk hk=>(a8 k hk).1) db pb lb d _ w2 (by have:=i.out;show d.fs.length+(A9 a C).length<=_;omega) (by show a.length<=_;omega) L.le L.short (by have:=M.key;show x.key.length<=_;omega) (hW.trans (ax.mono hW.size)) (aq.keep hX.2.1 (by simp)) (hd.stay aq (by simp) (by simp)) (hX.2.2.1.stay aq (by simp) (by simp) (by simp)));have HD:=ze hd;clear aL hd M a8 hW hE bB bA hO hX L b0 c0;go_enter func91,ntmps91;go_wp2_with fail;refine bp.o.mono ?_;rintro r w2 ⟨v2,S,rfl,bK,⟨va,vc,rfl,-⟩,ax,bI⟩;have aj:=ze bK;have al:=ze bI;have ad:=ze ax;have aG:Hid (zl O [] w w2):=.aa ax;obtain⟨-,-,⟨d2,-⟩,-⟩:=FK (aG.o.keep ap.o (by simp));clear bK ax bI bp;go_wp2_with fail;refine(br.o w2 ad.o aG.o).mono ?_;rintro r P ⟨bg,aV⟩;have a5:Hid (zl O pT w P):=(zl.aa ad.o).trans (bg.mono (λ_ h=>.inl h) (λ_ h=>h));have bs:=ze bg;obtain⟨⟨g0,-⟩,-⟩:=FK (a5.o.keep ap.o (by decide));unfold BD at g0;have a0:∀o,(P.alloc o).cell? ⟨wb,0,none⟩=some (.pointer (some ⟨db,0,none⟩)):=λo=>by rw[xg _ _ ⟨wb,0,none⟩ (yf g0)];exact g0
 obtain⟨nv,j,pv,D3,rfl,be,U⟩:∃(nv j:Int) (pv:zb) (D3:Dk),r=.returned (.tuple #[.int .i64 nv,.agg #[.int .i64 j,.string ⟨pv.toArray⟩]])/\ym P (qv O w2 P) db D3/\((x.failed=true/\nv=0/\j=7/\D3=d/\zc w2 P)\/x.failed=false/\D3=(CZ (A9 a C) (PK x a) d).2/\∃F B,Ak P (qv O w2 P) db lb {key:=x.key,es:=a,put:=F,live:=B}/\(((CZ (A9 a C) (PK x a) d).1=none/\nv=a.length/\j=0/\F=a.length/\B=!x.failed)\/((CZ (A9 a C) (PK x a) d).1=some pv/\nv=0/\j=8/\F=C/\B=false))):=by
  rcases aV with ⟨h,K,hb⟩|⟨h,K,h2,h3,h4⟩|⟨h,p,K,h2,h3,h4⟩
  ·exact⟨0,7,[],d,K,((HD.o.stay aG.o (by simp) (by simp)).stay (zl.aa (O:=O) (T:=[]) hb) (by simp) (by simp)).mono (λ_=>.inl),.inl ⟨by simpa using h,rfl,rfl,rfl,hb⟩⟩
  ·exact⟨_,0,[],_,h2,h3,.inr ⟨by simpa using h,rfl,_,_,h4,.inl ⟨K,rfl,rfl,rfl,rfl⟩⟩⟩
  ·exact⟨_,8,p,_,h2,h3,.inr ⟨by simpa using h,rfl,_,_,h4,.inr ⟨K,rfl,rfl,rfl,rfl⟩⟩⟩
 have bq:=ze (λG hc=>zld (x':=x) hn I.o b.o G aj.o hc rfl);have bM:Hid (D3.fs.length<=800000001):=by
  have:=i.out;rcases U with ⟨-,-,-,rfl,-⟩|⟨-,rfl,-⟩
  ·show _<=_;omega
  ·have:=WL (A9 a C) (PK x a) d;show _<=_;omega
 generalize CZ (A9 a C) (PK x a) d=pd at *;have bl:=ze be;have bP:=ze U;have aZ:=ze (be.stay (O1:=O) (T:=[]) (.aa (zi P (.cells #[.int .i64 j,.string ⟨pv.toArray⟩] 39))) (by simp) (by simp));clear aV U bg d2 br be;go_wp2_with fail;refine(ZP (qv O w2 P) db D3 _ (by exact aZ.o)).mono ?_;rintro r cc ⟨rfl,rfl⟩;go_wp2_with fail;refine(CN (qv O w2 P) db wb D3 _ (by have:=bM.out;omega) (by exact aZ.o) (by exact a0 _)).mono ?_;rintro r w5 ⟨v5,l,rfl,bL,⟨b4,b5,rfl,-⟩,ay,bJ⟩;have a9:=(zi P _).trans (ay.mono (zi P _).size);have V:=ze ((zl.aa (O:=O) (T:=[]) ay).keep (zf P (.cells #[.int .i64 j,.string ⟨pv.toArray⟩] 39)) (by simp));have ae:=ze a9;have aH:=ze (a5.o.ah a9);have aP:=ze bJ;have ak:=ze bL;obtain⟨-,-,-,⟨k3,-⟩,-,⟨Z,-⟩,-⟩:=FK (aH.o.keep ap.o (by decide));obtain⟨n0,-⟩:=zm V.o 0 _ rfl;generalize P.heap.size=b3 at V n0 ⊢;clear bL a9 ay bJ g0 a0 aZ;rcases bP.o with ⟨G,rfl,rfl,rfl,bC⟩|⟨G,rfl,F,B,bG,az⟩
 ·have a1:=ze G;have bF:=aj.o.length_eq;have bH:=ak.o.length_eq;rw[bF,bH];rw[G]at Z;have bi:=ze (ad.o.trans (bC.mono ad.o.size));have HB:Hid (zc w w5):=bi.o.trans (ae.o.mono bi.o.size);clear G bC bF bH k3;generalize D3.fs.length=N at *
  go_wp2
  go_ret;exact⟨by first|rfl|simp,zl.aa HB.o,MU.more ⟨.inl HO.o,Db HW.o.size ai.o HB.o.size,.inr ⟨_,_,_,_,_,_,HF.o.below HB.o⟩⟩ (by omega),λh=>by simp[a1.o]at h⟩
 have a1:=ze G;have bo:=ze bG;have aY:=ze az;rw[G]at Z;clear G bG az n0;go_wp2_with fail;refine(UE _ a w5 (by omega) b.o.short (Dg (zy HX.o.2.2.2.1 aH.o (by decide)))).mono ?_;rintro r w6 ⟨v6,rfl,ba,bf⟩;obtain⟨wa,wc,rfl⟩:=qt bf;have am:=ze bf;have aE:Hid ((j8 a).length<=1000000000):=by have:=Zz a;show _<=_;omega
 have bd:Hid (S.length<=1000000000):=by have:=i.out;show _<=_;rw[aj.o.length_eq];omega
 have aI:Hid (l.length<=1000000000):=by have:=bM.out;show _<=_;rw[ak.o.length_eq];omega
 have aX:=ze ba;have a4:=ze ((bs.o.ah ae.o).ah ba);clear k3 Z bf ba;go_wp2_with fail;refine(zba _ _ S (j8 a) w6 bd.out aE.out (JC (zy al.o a4.o (by decide))) (JC am.o)).mono ?_;rintro r w7 ⟨rfl,bb⟩;have bj:=ze bb;have af:=ze (aX.o.trans (bb.mono aX.o.size));have aM:=ze (ae.o.trans (af.o.mono ae.o.size));have bw:=ze (aH.o.ah af.o);have J:=ze (bw.o.keep ap.o (by decide))
 -- what is brought from there on
 have z:Hid (∀m,zl O [76] w7 m->zl O aT w m/\ym m (qv O w m) db pd.2/\Ak m (qv O w m) db lb {key:=x.key,es:=a,put:=F,live:=B}/\KM m pb lb/\m.ownsRow 0 9 1 (.slice ea a.length ec) a.length (a.map qy)/\Mr m (.slice va S.length vc) S/\Mr m (.slice b4 l.length b5) l/\Mr m (.slice wa (j8 a).length wc) (j8 a)/\m.heap[b3]?=some (.cells #[.int .i64 j,.string ⟨pv.toArray⟩] 39 (0,0))):=λm t=>by
  have tw:zl O (76::pT) w m:=(bw.o.mono (λ_ h=>h) (by simp)).trans (t.mono (λ_ h=>.inl h) (by simp));have t5:zl O [76] w5 m:=(zl.aa af.o).trans (t.mono (λ_ h=>.inl h) (λ_ h=>h));have hx:∀k,qv O w2 P k->qv O w m k:=λk hk=>by
   have:=ad.o.size;have:=aM.o.size;have:=t.size;rcases hk with hk|hk
   ·exact .inl hk
   ·exact .inr ⟨by omega,by omega⟩
  have t3:zl O [76] P m:=(zl.aa aM.o).trans (t.mono (λ_ h=>.inl h) (λ_ h=>h));exact⟨tw.mono (λ_ h=>h) (by decide),(bl.o.stay t3 (by decide) (by decide)).mono hx,(bo.o.stay t3 (by decide) (by decide) (by decide)).mono hx,tw.keep HX.o.2.1 (by decide),zy HX.o.2.2.2.1 tw (by decide),JC (zy al.o (((a4.o.ah bj.o).mono (λ_ h=>h) (by simp)).trans (t.mono (λ_ h=>.inl h) (by simp)):zl O (76::pT) w2 m) (by decide)),JC (zy aP.o t5 (by decide)),JC (zy am.o ((zl.aa bj.o).trans (t.mono (λ_ h=>.inl h) (λ_ h=>h))) (by decide)),t5.keep V.o (by decide)⟩
 obtain⟨⟨k0,-⟩,⟨k1,-⟩,⟨k2,-⟩,⟨k3,-⟩,⟨k4,f4⟩,⟨Z,f5⟩,⟨k6,f6⟩⟩:=FK J.o;clear bb aX a4 bs am aP al V ae aH bl bo a5 aG;cases aJ:Ep S (j8 a)with
 |true =>
  have bO:=ze aJ;clear aJ
  go_wp2
  go_ret;have HK:=z.out _ (zam J.o HO.o 6 (.bool true));exact⟨by first|rfl|simp,HK.1,⟨.inl HO.o,Db HW.o.size ai.o HK.1.size,.inl ⟨_,_,_,_,(RV J.o).2.2.2.2 true,rfl⟩⟩,λ_ _ hc=>absurd (bO.o.symm.trans (za9 λq y hy=>by rw[Dy I.o.apart aj.o];exact hc q y hy)) (by simp)⟩
 |false =>
  obtain⟨aC,aD,aB,aS⟩:=bq.o a1.o aJ;have H:=ze aC;have R:=ze aD;have Q:=ze aB;have aN:=ze aS;have a6:=ze (zam J.o HO.o 6 (.bool false));have bx:=ze ((RV J.o).2.2.2.2 false);clear aJ aC aD aB aS bq;go_wp2_with fail;refine(Dl _ a _ (by omega) b.o.short (Dg (z.out _ (by exact a6.o)).2.2.2.2.1)).mono ?_;rintro r w9 ⟨rfl,bc⟩;have bV:=ze (a6.o.ah bc);have aR:=ze ((zl.aa (O:=O) (T:=[]) bc).keep bx.o (by simp));obtain⟨-,⟨m1,-⟩,-,⟨m3,-⟩,-⟩:=FK aR.o;simp only at m1;clear bc k0 k1 k2 k3 k4 f4 Z f5 k6 f6 a6 bx;unfold qy at m1;have bt:=ze (zds a)
  go_upto_region 12 with fail
  go_cut [10] from 71 to 81 (λb2 wx=>b2=.string ⟨(PK x a).toArray⟩/\zc w9 wx)
  case first =>
   have bT:Hid (x.key.length<=2097152):=by have:=I.o.key;show _<=_;omega
   clear I b ai HW HO aY H R Q aN i z HF HX ap
   go_region_with (go_at_call 39;refine(LO (a.length:Int) (by omega) (by omega) (yy a) x.key bt.o bT.o w9.drew).mono ?_;rintro r cb ⟨rfl,E⟩;have bh:=ze E;clear E)
   all_goals go_wp2_with fail
   all_goals go_meet
   all_goals exact⟨rfl,(show zc w9 w9.drew from ⟨rfl,rfl,rfl,zk _,λ_ _=>rfl⟩).trans (bh.o.mono (zk _))⟩
  case rest =>
   obtain⟨rfl,E⟩:=hcut;have X:=ze (bV.o.ah E);have u:=ze ((zl.aa (O:=O) (T:=[]) E).keep aR.o (by simp));have a2:=ze (z.out _ X.o).2.2.2.2.2.2.2.2;obtain⟨⟨k0,-⟩,⟨k1,-⟩,⟨k2,-⟩,⟨k3,-⟩,⟨k4,f4⟩,⟨Z,f5⟩,⟨k6,f6⟩⟩:=FK u.o;simp only at k1 k4 Z;obtain⟨p0,-⟩:=zm a2.o 0 _ rfl;obtain⟨p1,-⟩:=zm a2.o 1 _ rfl;have ag:=ze (Yu aj.o ak.o I.o.apart H.o.apart Q.o R.o);clear E m1 m3 bt a2;generalize bD:PK x a=c at *;have bk:=ze bD;clear bD;rcases aN.o with ⟨e,c1,l1,l2⟩|⟨⟨p,e,hp⟩,hh⟩
   ·have aU:=c1.2;rw[aU];have bN:=ze c1;have bU:=ze l1;have a3:=ze l2;rcases aY.o with ⟨K,rfl,rfl,rfl,rfl⟩|⟨K,-⟩
    rotate_left
    ·rw[e]at K;simp at K
    have Y:xr l CA=some c:=by rw[Dy H.o.apart ak.o];exact l1
    obtain⟨k,hk⟩:∃k,GC l CA=some k:=by
     cases e5:GC l CA with
     |none=>rw[(Bm e5).1]at Y;simp at Y
     |some k=>exact⟨k,rfl⟩
    obtain⟨bY,-,aK,-⟩:=Bn hk;have bR:Hid (Ed l CA=k):=by show _=_;unfold Ed;rw[hk]
    have bQ:Hid (l[k].2=c):=by show _=_;rw[Y]at aK;simpa using aK.symm
    have D:=ze (X.o.trans ((zam u.o HO.o 4 (.int .i64 a.length)).mono (λ_ h=>.inl h) (λ_ h=>h)));have ao:=ze ((RV u.o).2.2.1 a.length);clear e K c1 l1 aU Y hk aK l2;go_wp2_with fail;refine(AF _ l CA _ aI.out (z.out _ (by exact D.o)).2.2.2.2.2.2.1).mono ?_;rintro r b6 ⟨rfl,rfl⟩;rw[bR.o];have HK:=ze (z.out _ D.o);go_wp2_with fail;refine(We _ _ _ S l (j8 a) c _ bd.out aI.out aE.out (by exact HK.o.2.2.2.2.2.1) (by exact HK.o.2.2.2.2.2.2.1) (by exact HK.o.2.2.2.2.2.2.2.1)).mono ?_;rintro r b7 ⟨rfl,av⟩;rw[ag.o];have aQ:=ze (D.o.ah av);have a7:=ze ((zl.aa (O:=O) (T:=[]) av).keep ao.o (by simp));have bm:=ze (z.out _ aQ.o);clear av k0 k1 k2 k3 k4 f4 Z f5 k6 f6;go_wp2_with fail;refine(zd9 _ _ l (j8 a) b7 aI.out aE.out bm.o.2.2.2.2.2.2.1 bm.o.2.2.2.2.2.2.2.1).mono ?_;rintro r ab ⟨rfl,A⟩;rw[Xs ak.o H.o.apart a3.o];have v:=ze ((zl.aa (O:=O) (T:=[]) A).keep a7.o (by simp));obtain⟨k1,k2,k3,k4,Z,-,k7,-,k9⟩:=z.out _ (aQ.o.ah A);have bn:=ze k1;have aF:=ze (And.intro k2 (And.intro k3 (And.intro k4 Z)));obtain⟨⟨m0,-⟩,⟨m1,-⟩,⟨m2,-⟩,⟨m3,-⟩,⟨m4,g4⟩,⟨m5,g5⟩,⟨m6,g6⟩⟩:=FK v.o;unfold BD at m0;obtain⟨q0,-⟩:=zm k9 0 _ rfl;obtain⟨q1,-⟩:=zm k9 1 _ rfl;obtain⟨fv,-,aA,-⟩:=k2;obtain⟨-,-,-,-,-,-,-,⟨t7,-⟩⟩:=GW aA;rw[H.o.au]at t7;obtain⟨-,-,aW⟩:=k7.at;obtain⟨fb,fo,rfl,az⟩:=aW (by omega);obtain⟨-,y1⟩:=az k bY;rw[bQ.o]at y1;unfold qy at y1;have bX:decide ((k:Int)<0)=false:=by simp
    clear A aA az aW k1 k3 k4 Z k7 k9;go_wp2_with fail
    all_goals go_ret
    all_goals
     have FE:Fh ab (qv O w ab) wb db _ _ {x with aw:=false,ar:=(a.length:Int)} pd.2 s (n+1) a a.length:=⟨rfl,v.o,aF.o.1,JK H.o rfl rfl rfl,pb,lb,rfl,.inl HX.o.1,aF.o.2.2.1,aF.o.2.1,aF.o.2.2.2,λg hg=>.inl (HX.o.2.2.2.2.1 g hg),⟨b.o.short,b.o.ins,zk _,λ_=>⟨bN.o,λf hf=>a3.o f (by rw[jb]at hf;exact hf)⟩⟩⟩;exact⟨by first|rfl|simp,bn.o,⟨.inl HO.o,Db HW.o.size ai.o bn.o.size,.inr ⟨_,_,_,_,_,_,FE.full⟩⟩,λ_ hs _=>⟨_,_,_,FE,bu.o hs,by rw[bk.o];exact R.o,by rw[bk.o];exact bU.o,a3.o⟩⟩
   ·rw[hh];have HH:=ze hh;rcases aY.o with ⟨K,-⟩|⟨K,rfl,rfl,rfl,rfl⟩
    ·rw[e]at K;simp at K
    obtain rfl:p=pv:=by rw[e]at K;simpa using K
    obtain⟨kk,bE,bZ⟩:∃kk:Int,Ed (j8 a) p=kk/\(0<=kk\/(kk=-1/\p=CA)):=by
     refine⟨_,rfl,?_⟩;unfold Ed;rcases hp with rfl|⟨y,hy⟩
     ·rw[Je (λf hf e=>Q.o.2 f.2 (by rw[<- e];exact hf))];exact .inr ⟨rfl,rfl⟩
     ·cases e5:GC (j8 a) p with
      |none=>exact absurd rfl ((Bm e5).2 (p,y) hy)
      |some k=>simp
    have bS:=ze bE;have D:=ze (X.o.trans ((zam u.o HO.o 5 (.bool true)).mono (λ_ h=>.inl h) (λ_ h=>h)));have ao:=ze ((RV u.o).2.2.2.1 true);clear e K hh hp bE;go_wp2_with fail;refine(AF _ (j8 a) p _ aE.out (z.out _ X.o).2.2.2.2.2.2.2.1).mono ?_;rintro r b6 ⟨rfl,rfl⟩;rw[bS.o];have HK:=ze (z.out _ D.o);go_wp2_with fail;refine(We _ _ _ S l (j8 a) c _ bd.out aI.out aE.out (by exact HK.o.2.2.2.2.2.1) (by exact HK.o.2.2.2.2.2.2.1) (by exact HK.o.2.2.2.2.2.2.2.1)).mono ?_;rintro r ab ⟨rfl,A⟩;rw[ag.o];have v:=ze ((zl.aa (O:=O) (T:=[]) A).keep ao.o (by simp));obtain⟨k1,k2,k3,k4,Z,-,-,-,k9⟩:=z.out _ (D.o.ah A);have aO:Hid (zl O aT w ab/\MU W.heap.size ab (qv O w ab) wb (n+1)):=⟨k1,.inl HO.o,Db HW.o.size ai.o k1.size,.inr ⟨db,_,_,_,pd.2,s,rfl,v.o,k2,JK H.o rfl rfl rfl,.inr ⟨pb,lb,a,F,rfl,.inl HX.o.1,k4,k3,Z,λg hg=>.inl (HX.o.2.2.2.2.1 g hg),⟨b.o.short,b.o.ins,b.o.le,λh=>by simp at h⟩⟩⟩⟩;obtain⟨⟨m0,-⟩,⟨m1,-⟩,⟨m2,-⟩,⟨m3,-⟩,⟨m4,g4⟩,⟨m5,g5⟩,⟨m6,g6⟩⟩:=FK v.o;unfold BD at m0;obtain⟨q0,-⟩:=zm k9 0 _ rfl;obtain⟨q1,-⟩:=zm k9 1 _ rfl;obtain⟨fv,-,aA,-⟩:=k2;obtain⟨-,-,-,-,-,-,-,⟨t7,-⟩⟩:=GW aA;rw[H.o.au]at t7;clear A aA k0 k1 k2 k3 k4 f4 Z f5 k6 f6 k9;rcases bZ with bX|⟨rfl,rfl⟩
    case' inl =>
     have aK:decide (kk<0)=false:=by simp;omega
     have b9:¬kk<0:=by omega
    all_goals go_wp2_with fail
    all_goals go_ret
    all_goals exact⟨by first|rfl|simp,aO.o.1,aO.o.2,λ_ hs=>by have:=(bu.o hs).2.2;simp[HH.o]at this⟩
def UW (O:Nat->Prop)(W:World)(g:Nat->Addr)(z:DW W)(m:vj W g)(j:RW W)(i u:Nat)(p v:Value)(x:Wd)(d:Dk)(s:List Nat)(n:Nat)(w:World)(l:∀k,O k->W.heap.size<=k/\k<w.heap.size)(B:zc W w)(C:n<=4100)(A:O i)(h:Jz w O i u p v x d s n)(o:p≠ .pointer none):
  Calls prog 91 #[.pointer (some ⟨i,0,none⟩)] w λr t=>r=.returned (.bool true)/\zl O aT w t/\MU W.heap.size t (qv O w t) i (n+1):=by
 obtain⟨a,b,c,e,f|⟨E,D,y,q,f⟩⟩:=h
 ·exact absurd f o
 ·exact(P5 O W g z m j i u p v x d s n w l B C A y q ⟨a,b,c,e,E,D,f⟩).mono λ_ _ h=>⟨h.1,h.2.1,h.2.2.1⟩
end Go.Proofs.YtfdbeldiomkdiaaGreatDoor
