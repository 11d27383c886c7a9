import Derived.Test.YtfdbeldiomkdiaaGreatDoorG22
set_option maxHeartbeats 8000000
set_option maxRecDepth 100000
set_option linter.all false
namespace Go.Proofs.YtfdbeldiomkdiaaGreatDoor
open Go.RowKit Go.Proofs.Tryz
def Bt:=@Nat.mul_assoc
def BV:=@List.mem_cons_of_mem
def Cf:=@Nat.div_div_eq_div_mul
def Ck:=@List.mem_map_of_mem
def FG:=@Nat.div_self
def Ka:=@Nat.mul_add_div
variable {f:Fl}{k:Nat}{m:Mm}
def En (a:za)(p:Pl)(k:Nat)(c:Pc):Prop:=ze7 a p k c/\GS p k<qx p.1 a.length
def II (a:za)(p:Pl)(k:Nat)(c:Pc)(b:Bool)(h:En a p k c):En a p k {c with fits:=b}:=h
def Oe (l:Int){a b:Nat}(h:a<=b):qx l a<=qx l b:=CJ h
def Ye (a b:za)(l:Int)(k:Nat)(h:k<qx l a.length):Ao (a++b) l k=Ao a l k:=by
 have:=OZ (a++b) a.length l k h (by simp);rw[List.take_left']at this
 ·exact this.symm
 ·rfl
def Zm {a:za}{p:Pl}{c:Pc}(h:En a p k c)(d:za):En (a++d) p k c:=by
 obtain⟨⟨f,g⟩,b⟩:=h;refine⟨⟨λe=>?_,λe=>?_⟩,zq b (Oe _ (by simp))⟩
 ·have i:GS p k<a.length:=by rw[e]at b;simpa[qx]using b
  have:(a++d).getD (GS p k) []=a.getD (GS p k) []:=by
   simp only[zj,qh i]
  rw[this];exact f e
 ·rw[Ye a d _ _ b];exact g e
def LU.bN {V a:Pl->Nat->Pc->Prop}{p:Pl}(h:LU V p f)(hv:∀k c,V p k c->a p k c):LU a p f:=⟨h.1,λk b=>⟨(h.2 k b).1,λd=>hv k _ ((h.2 k b).2 d)⟩⟩
def GB.bN {V a:Pl->Nat->Pc->Prop}(h:GB V m)(hv:∀p k c,V p k c->a p k c):GB a m:=⟨h.1,λx b=>(h.2 x b).bN (hv x.1)⟩
def Oj (a:za)(l k:Nat):Ao a (l:Int) k=yy (CC a (k*4^l,4^l)):=by
 unfold Ao CC;rw[if_neg (by omega),zz]
def OE (b:za)(a q:Nat)(h:a+2^(q+1)<=b.length):yy (CC b (a,2^(q+1)))=vf (yy (CC b (a,2^q))) (yy (CC b (a+2^q,2^q))):=by
 have c:=EA b a (2^(q+1)) h;have d:2^(q+1)=2*2^q:=by rw[xp];omega
 have e:0<2^q:=jp (by omega);rw[LQ _ (by omega),c,Nr,IC b a _ _ (by omega),IA];congr 4;omega
def zfy (a:za)(l k:Nat)(h:4*k+3<qx (l:Int) a.length):
  Ao a ((l+1:Nat):Int) k=vf (vf (Ao a (l:Int) (4*k)) (Ao a (l:Int) (4*k+1))) (vf (Ao a (l:Int) (4*k+2)) (Ao a (l:Int) (4*k+3))):=by
 simp only[Oj];have i:0<4^l:=jp (by omega);have f:(4*k+4)*4^l<=a.length:=by
  unfold qx at h;rw[zz]at h;exact(BM i).1 h
 have b:=Az l;have d:4^(l+1)=2^(2*l+1+1):=by rw[Az];congr 1
 have e:2^(2*l+1+1)=4*4^l:=by rw[b,xp,xp];omega
 have c:2^(2*l+1)=2*4^l:=by rw[b,xp];omega
 have g:k*4^(l+1)=4*k*4^l:=by rw[d,e,EH 4 k,Bt]
 rw[BW]at f;rw[g,d,OE a _ _ (by rw[e];exact f),OE a _ _ (by rw[c];omega),OE a _ _ (by rw[c];omega),c,<- b];congr 4
 ·congr 2;rw[BW];omega
 ·congr 2;rw[BW]
 ·congr 2;rw[BW];omega
def zef (b:za)(a l j:Nat)(h:zb)(d:j<qx (l:Int) b.length)(c:h=Ao b (l:Int) j):En b (yd a (l:Int) j) (j%4) ⟨true,true,h,[]⟩:=by
 refine⟨⟨λe=>?_,λ_=>?_⟩,?_⟩
 ·have:((l:Nat):Int)=-1:=e;omega
 ·rw[Fy];exact c
 ·rw[Fy];exact d
def LU.set {V:Pl->Nat->Pc->Prop}{p:Pl}(h:LU V p f){c:Pc}(a:Gd V p k c):LU V p (f.set k c):=by
 refine⟨by rw[DJ];exact h.1,λi d=>?_⟩;rw[UK];split
 ·rename_i b;obtain⟨rfl,-⟩:=b;exact a
 ·exact h.2 i d
def Rw {u:zb}(h:M4 f=some u):f.length=4/\(∀k,k<4->(f.getD k .no).fits=true)/\u=vf (vf (f.getD 0 .no).hash (f.getD 1 .no).hash) (vf (f.getD 2 .no).hash (f.getD 3 .no).hash):=by
 match f,h with
 |[a,b,c,d],h =>
  unfold M4 at h;simp only at h;split at h
  ·rename_i e;simp only[A3]at e;simp only[zn]at h;refine⟨rfl,λk g=>?_,h.symm⟩
   match k,g with
   |0,_=>exact e.1.1.1
   |1,_=>exact e.1.1.2
   |2,_=>exact e.1.2
   |3,_=>exact e.2
  ·simp at h
def K0 (b:za)(a:Nat):∀(f:Nat) (g:Mm) (l j:Nat) (h:zb),GB (En b) g->j<qx (l:Int) b.length->h=Ao b (l:Int) j->GB (En b) (Ac a f g l j h):=by
 intro f
 induction f with
 |zero=>intro g l j h c _ _;exact c
 |succ f v =>
  intro g l j h c t s;rw[Ac];cases r:g.get (yd a (l:Int) j)with
  |none=>exact c
  |some i =>
   simp only;have m:=(c.get r).set ⟨λ_=>rfl,λ_=>zef b a l j h t s⟩;have n:=c.set m;cases u:M4 (i.set (j%4) ⟨true,true,h,[]⟩)with
   |none=>exact n
   |some up =>
    simp only;obtain⟨z,x,y⟩:=Rw u;have d:∀k,k<4->((i.set (j%4) ⟨true,true,h,[]⟩).getD k .no).hash=Ao b (l:Int) (4*(j/4)+k)/\4*(j/4)+k<qx (l:Int) b.length:=by
     intro k o;obtain⟨p,q⟩:=m.2 k o;obtain⟨⟨-,t1⟩,t2⟩:=q (p (x k o));have e:GS (yd a (l:Int) j) k=4*(j/4)+k:=by unfold GS yd;simp only[zz]
     rw[e]at t1 t2;exact⟨t1 (by show((l:Nat):Int)≠-1;omega),t2⟩
    have w:=(d 3 (by omega)).2;refine v _ (l+1) (j/4) up n ?_ ?_
    ·unfold qx at *;rw[zz]at *;rw[xp,<- Cf];omega
    ·rw[y,(d 0 (by omega)).1,(d 1 (by omega)).1,(d 2 (by omega)).1,(d 3 (by omega)).1];exact(zfy b l (j/4) w).symm
def R6 (a:Nat):∀(f:Nat) (d:Mm) (l j:Nat) (h:zb),Lb d->Lb (Ac a f d l j h):=by
 intro f
 induction f with
 |zero=>intro d l j h b;exact b
 |succ f m =>
  intro d l j h b;rw[Ac];cases i:d.get (yd a (l:Int) j)with
  |none=>exact b
  |some g =>
   simp only;have e:=b.set ((b.get i).set (k:=j%4) (c:=⟨true,true,h,[]⟩) ⟨λ_=>rfl,λ_=>trivial⟩);cases n:M4 (g.set (j%4) ⟨true,true,h,[]⟩)with
   |none=>exact e
   |some up=>exact m _ _ _ _ e
def DH (a:Nat):∀(f:Nat) (b:Mm) (l j:Nat) (h:zb),(Ac a f b l j h).map (·.1)=b.map (·.1):=by
 intro f
 induction f with
 |zero=>intro b l j h;rfl
 |succ f d =>
  intro b l j h;rw[Ac];cases e:b.get (yd a (l:Int) j)with
  |none=>rfl
  |some c =>
   simp only;cases g:M4 (c.set (j%4) ⟨true,true,h,[]⟩)with
   |none=>exact Mm.aL _ _ _
   |some up=>rw[d];exact Mm.aL _ _ _
def MY (a b:Mm):Prop:=∀q f,a.get q=some f->f.length=4->∃g,b.get q=some g/\g.length=4/\∀k,(f.getD k .no).there=true->(g.getD k .no).there=true/\((f.getD k .no).fits=true->(g.getD k .no).fits=true)
def MY.refl (a:Mm):MY a a:=λ_ f h b=>⟨f,h,b,λ_ c=>⟨c,id⟩⟩
def MY.trans {a b c:Mm}(h:MY a b)(m:MY b c):MY a c:=by
 intro q f e o;obtain⟨g,j,l,d⟩:=h q f e o;obtain⟨u,u1,u2,u3⟩:=m q g j l;exact⟨u,u1,u2,λk i=>⟨(u3 k (d k i).1).1,λn=>(u3 k (d k i).1).2 ((d k i).2 n)⟩⟩
def MY.has {a b:Mm}(h:MY a b){d:List (Pl×Nat)}(j:Has a d):Has b d:=by
 intro x k;obtain⟨f,f1,f2,f3,f4⟩:=j x k;obtain⟨g,e,i,c⟩:=h x.1 f f1 f2;exact⟨g,e,i,(c x.2 f3).1,(c x.2 f3).2 f4⟩
def Ws {p:Pl}{g:Fl}(b:m.get p=some f)(d:g.length=4)(e:∀k,(f.getD k .no).there=true->(g.getD k .no).there=true/\((f.getD k .no).fits=true->(g.getD k .no).fits=true)):MY m (m.set p g):=by
 intro q u a h
 by_cases c:q=p
 ·subst c;rw[b]at a;simp only[zn]at a;subst a;exact⟨g,by rw[Mm.bB,if_pos rfl,b];rfl,d,e⟩
 ·exact⟨u,by rw[Mm.bB,if_neg c];exact a,h,λk i=>⟨i,id⟩⟩
def Y3 {p:Pl}(a:m.get p=some f)(b:f.length=4)(k:Nat)(h:zb):MY m (m.set p (f.set k ⟨true,true,h,[]⟩)):=by
 refine Ws a (by rw[DJ];exact b) (λi c=>?_);rw[UK];split
 ·exact⟨rfl,λ_=>rfl⟩
 ·exact⟨c,id⟩
def UM (a:Nat):∀(f:Nat) (b:Mm) (l j:Nat) (h:zb),Lb b->MY b (Ac a f b l j h):=by
 intro f
 induction f with
 |zero=>intro b l j h _;exact MY.refl _
 |succ f n =>
  intro b l j h e;rw[Ac];cases d:b.get (yd a (l:Int) j)with
  |none=>exact MY.refl _
  |some i =>
   simp only;have g:=Y3 d (e.get d).1 (j%4) h;have m:=e.set ((e.get d).set (k:=j%4) (c:=⟨true,true,h,[]⟩) ⟨λ_=>rfl,λ_=>trivial⟩);cases o:M4 (i.set (j%4) ⟨true,true,h,[]⟩)with
   |none=>exact g
   |some up=>exact g.trans (n _ _ _ _ m)
def Lf (b l:Fl)(d:b.length=4)(f:l.length=4)(k:Nat)(e:k<4):(GU b l).getD k .no=if ((b.getD k .no).there&&(l.getD k .no).fits&&decide ((b.getD k .no).hash=(l.getD k .no).hash))=true then {b.getD k .no with fits:=true} else b.getD k .no:=by
 have a:k<b.length:=by omega
 have c:k<l.length:=by omega
 unfold GU;simp only[zj,IT,zo a,zo c,AX]
def OU (b l:Fl)(a:b.length=4)(c:l.length=4):(GU b l).length=4:=by simp[GU,a,c]
def XQ {V:Pl->Nat->Pc->Prop}(f:∀p k c b,V p k c->V p k {c with fits:=b}){p:Pl}{b l:Fl}(a:LU V p b)(e:l.length=4):LU V p (GU b l):=by
 refine⟨OU b l a.1 e,λk d=>?_⟩;rw[Lf b l a.1 e k d];split
 ·rename_i h;simp only[A3]at h;exact⟨λ_=>h.1.1,λg=>f _ _ _ _ ((a.2 k d).2 g)⟩
 ·exact a.2 k d
def P2 {V:Pl->Nat->Pc->Prop}(j:∀p k c b,V p k c->V p k {c with fits:=b})(a:Nat)(e:Mm)(i:Nat)(d:zb)(h:GB V (Ac a 64 e 0 i d)):GB V (AO a e i d):=by
 unfold AO;cases f:(Ac a 64 e 0 i d).get (yd a 0 i)with
 |none=>exact h
 |some l =>
  simp only;cases g:(Ac a 64 e 0 i d).get (yd a (-1) i)with
  |none=>exact h
  |some b=>exact h.set (XQ j (h.get g) (h.get f).1)
def Za (c:za)(b:Nat)(d:Mm)(i:Nat)(a:zb)(h:GB (En c) d)(e:i<c.length)(f:a=AH (c.getD i [])):GB (En c) (AO b d i a):=by
 refine P2 (II c) b d i a (K0 c b 64 d 0 i a h (by simpa[qx]using e) ?_);rw[f,Oj];have:CC c (i*4^0,4^0)=[c.getD i []]:=by
  unfold CC;simp only[Nat.pow_zero,Ba];rw[FL e,zj,zo e]
  rfl
 rw[this,zdt]
def Ho (a:Nat)(d:Mm)(i:Nat)(c:zb):(AO a d i c).map (·.1)=d.map (·.1):=by
 unfold AO;cases e:(Ac a 64 d 0 i c).get (yd a 0 i)with
 |none=>exact DH ..
 |some g =>
  simp only;cases f:(Ac a 64 d 0 i c).get (yd a (-1) i)with
  |none=>exact DH ..
  |some b=>simp only;rw[Mm.aL];exact DH ..
def Zb (b:Nat)(c:Mm)(i:Nat)(a:zb)(h:Lb c):Lb (AO b c i a):=P2 (λ_ _ _ _ _=>trivial) b c i a (R6 b 64 c 0 i a h)
def UL (a:Nat)(d:Mm)(i:Nat)(c:zb)(h:Lb d):MY d (AO a d i c):=by
 have g:=UM a 64 d 0 i c h;have n:=R6 a 64 d 0 i c h;unfold AO;cases p:(Ac a 64 d 0 i c).get (yd a 0 i)with
 |none=>exact g
 |some o =>
  simp only;cases j:(Ac a 64 d 0 i c).get (yd a (-1) i)with
  |none=>exact g
  |some b =>
   have l:=(n.get j).1;have m:=(n.get p).1;refine g.trans (Ws j (OU b o l m) (λk f=>?_));have e:k<4:=by
    rcases qf k 4 with e|e
    ·exact e
    ·rw[zj,Bc (by omega)]at f;simp[Pc.no]at f
   rw[Lf b o l m k e];split
   ·exact⟨f,λ_=>rfl⟩
   ·exact⟨f,id⟩
section
def zl5 (a b x y:Nat)(h:2^a*(2*x+1)=2^b*(2*y+1)):a=b:=by
 rcases Fi a b with f|d|e
 ·obtain⟨c,rfl⟩:∃c,b=a+(c+1):=⟨b-a-1,by omega⟩;rw[Qh,Bt]at h;have:=FO (jp (by omega)) h;rw[xp,EH _ 2,Bt]at this;omega
 ·exact d
 ·obtain⟨c,rfl⟩:∃c,a=b+(c+1):=⟨a-b-1,by omega⟩;rw[Qh,Bt]at h;have:=FO (jp (by omega)) h;rw[xp,EH _ 2,Bt]at this;omega
def zg9 (r c:Nat)(h:2^r*(2*c+1)<2^64):Bg (2^r*(2*c+1))=r/2:=by
 have b:0<2^r:=jp (by omega);obtain⟨m,a,-⟩:=Qu (2^r*(2*c+1)) (Nat.mul_pos b (by omega)) h;unfold Bg;rw[<- zl5 _ _ _ _ a]
def Ko (r:Nat)(h:r<64):Bg (2^r)=r/2:=by
 have:=zg9 r 0 (by simpa using Nat.pow_lt_pow_right (by omega:1<2) h);simpa using this
def JO (b:Nat)(z:b<2^63):∀(f a n:Nat),a+n<=b->1<=n->n<=2^f->∀p∈jg b (f+1) a n,∃l j:Nat,p=(yd b (l:Int) j,j%4)/\a/4^l<=j/\j<qx (l:Int) b/\4^l<=n:=by
 have d:∀(f a n:Nat),a+n<=b->1<=n->n/4^Bg n=1->∀p∈jg b (f+1) a n,∃l j:Nat,p=(yd b (l:Int) j,j%4)/\a/4^l<=j/\j<qx (l:Int) b/\4^l<=n:=by
  intro f a n k m i p c;obtain⟨-,-,g⟩:=F7 n m (by omega);rw[jg,if_pos i]at c;obtain rfl:=yl.1 c;exact⟨Bg n,a/4^Bg n,rfl,zk _,PS a n (Bg n) b k (g.1 i),by rw[<- g.1 i];exact zk _⟩
 intro f
 induction f with
 |zero =>
  intro a n k m s;obtain rfl:n=1:=by omega
  exact d 0 a 1 k (by omega) (by decide)
 |succ f t =>
  intro a n k m s p c
  by_cases i:n/4^Bg n=1
  ·exact d (f+1) a n k m i p c
  ·have r:2<=n:=by
    rcases qf n 2 with h|h
    ·exact absurd (by
       obtain rfl:n=1:=by omega
       decide) i
    ·exact h
   obtain⟨v,w,x,y,A,B⟩:=Bo n f r s;rw[jg,if_neg i]at c;rcases yj.1 c with c|c
   ·obtain⟨l,j,e,o,q,u⟩:=t a (yo n) (by omega) x v p c;exact⟨l,j,e,o,q,by omega⟩
   ·obtain⟨l,j,e,o,q,u⟩:=t (a+yo n) (n-yo n) (by omega) y w p c;exact⟨l,j,e,zt (CJ (by omega)) o,q,by omega⟩
def YG:∀(f c a n:Nat) (b:Bool),n<=2^f->Al a n->a<c->c<a+n->(b=true->a=0)->(∀r,c≠2^r)->∃d r,(d,2^r)∈AB f c a n b/\d+2^r=c/\2^(r+1) ∣ d:=by
 intro f
 induction f with
 |zero=>intro c a n b h _ o v _ _;simp at h;omega
 |succ f t =>
  intro c a n b h k o v s l;obtain⟨y,z,B,C,D,E⟩:=Bo n f (by omega) h
  by_cases p:c<=a+yo n
  ·rw[Ew f c a n b (by omega) p]
   by_cases w:c=a+yo n
   ·obtain⟨q,x⟩:=Mb n;have m:b=false:=by
     cases b with
     |false=>rfl
     |true =>
      have:=s rfl;exact absurd (by omega:c=2^q) (l q)
    subst m;refine⟨a,q,yj.2 (.inl ?_),by omega,?_⟩
    ·rw[Dz _ _ _ _ _ w,x];simp
    ·obtain⟨e,A,u⟩:=k;refine EU (DM 2 ?_) u;have:2^q<2^e:=by omega
     exact(jm (by omega:1<2)).1 this
   ·obtain⟨d,r,g,i,j⟩:=t c a (yo n) b y (k.left (by omega)) o (by omega) s l;exact⟨d,r,yj.2 (.inl g),i,j⟩
  ·rw[Ex f c a n b (by omega) p];obtain⟨d,r,g,i,j⟩:=t c (a+yo n) (n-yo n) false z (k.right (by omega)) (by omega) (by omega) (by simp) l;exact⟨d,r,yj.2 (.inl g),i,j⟩
def WA (r:Nat):∀(f n:Nat),n<=2^f->2^r<=n->∀s∈AB f (2^r) 0 n true,2^r<=s.1:=by
 intro f
 induction f with
 |zero =>
  intro n h d s a;have:0<2^r:=jp (by omega);rw[Dz _ _ _ _ _ (by simp at h;omega)]at a;simp at a
 |succ f g =>
  intro n h d s a;have j:0<2^r:=jp (by omega)
  by_cases c:2^r=0+n
  ·rw[Dz _ _ _ _ _ c]at a;simp at a
  ·obtain⟨i,k,l,m,o,p⟩:=Bo n f (by omega) h;obtain⟨q,e⟩:=Mb n;have b:2^r<=yo n:=by
    rw[e];refine j2 (by omega) ?_;have:2^r<2^(q+1):=by rw[xp];omega
    have:=(jm (by omega:1<2)).1 this;omega
   rw[Ew f _ 0 n true c (by omega)]at a;rcases yj.1 a with a|a
   ·exact g (yo n) i b s a
   ·obtain rfl:=yl.1 a;simp only;omega
def Po (a:Nat)(l:Int)(j b:Nat)(h:j/4=b/4):yd a l j=yd a l b:=by unfold yd;rw[h]
def Xc (b a r:Nat)(n:b<2^63)(h:a+2^r<=b)(l:2^(r+1) ∣ a):(yd b ((r/2:Nat):Int) ((a+2^r)/4^(r/2)-1),((a+2^r)/4^(r/2)-1)%4)∈jg b 64 a (2^r):=by
 have m:r<63:=by
  have:2^r<2^63:=by omega
  exact(jm (by omega:1<2)).1 this
 have d:0<4^(r/2):=jp (by omega);rcases Bk r with h0|k
 ·have e:2^r=4^(r/2):=by rw[Az];congr 1;omega
  have g:=Ko r (by omega);rw[jg,if_pos (by rw[g,e];exact FG d),g,e,Nat.add_div_right _ d];simp
 ·obtain⟨c,rfl⟩:∃c,r=2*c+1:=⟨r/2,by omega⟩;have i:(2*c+1)/2=c:=by omega
  rw[i]at d ⊢;have e:2^(2*c+1)=2*4^c:=by rw[xp,Az];omega
  have g:Bg (2^(2*c+1))=c:=by rw[Ko _ (by omega)];omega
  have j:yo (2^(2*c+1))=4^c:=by rw[Nr,Az]
  rw[jg,if_neg (by rw[g,e,Nat.mul_div_cancel _ d];omega),j];refine yj.2 (.inr ?_);rw[e,show 2*4^c-4^c=4^c by omega];have f:=ZV c (by omega);rw[jg,if_pos (by rw[f];exact FG d),f];have:(a+2*4^c)/4^c-1=(a+4^c)/4^c:=by
   rw[show a+2*4^c=a+4^c+4^c by omega,Nat.add_div_right _ d];rfl
  rw[this];exact yl.2 rfl
def P6 (a:Nat)(m:Mm):Prop:=∀x∈m,4*x.1.2.1+x.1.2.2<=(qx x.1.1 a:Int)
def P6.more {a b:Nat}(h:P6 a m)(c:a<=b):P6 b m:=λx d=>by
 have e:=h x d;have f:=Oe x.1.1 c;omega
def O7 (a:Nat)(l:Int)(j:Nat):4*(yd a l j).2.1+(yd a l j).2.2<=(qx (yd a l j).1 a:Int):=by
 unfold yd;simp only;omega
def P6.put {a:Nat}(h:P6 a m)(b:Int)(p:Pl)(f:Fl)(d:4*p.2.1+p.2.2<=(qx p.1 a:Int)):P6 a (m.put b p f):=by
 intro x e;rcases Mm.bC e with rfl|⟨c,-⟩
 ·exact d
 ·exact h x c
def P6.aK {b:Nat}(a:Int):∀(c d:Mm),P6 b d->P6 b c->P6 b (qd a d c)
 |[],d,h,_=>h
 |x::c,d,h,e=>by
  show P6 b (qd a (d.put a x.1 (GY x.2)) c);exact P6.aK a c _ (h.put a _ _ (e x (by simp))) (λy f=>e y (by simp[f]))
def P6.keys {c:Nat}{a b:Mm}(h:P6 c a)(e:b.map (·.1)=a.map (·.1)):P6 c b:=by
 intro x f;have:x.1∈a.map (·.1):=by rw[<- e];exact Ck f
 obtain⟨y,g,d⟩:=yi.1 this;rw[<- d];exact h y g
def Zc (e:za)(b:Nat)(g:Mm)(a:Nat)(d:zb)(f:GB (En e) g)(p:1<=a)(u:a<=e.length)(v:a<2^64)(z:d=yy (e.take a))
 (n:∀c,g.get (yd b (Bg a:Nat) (a/4^Bg a-1))=some c->a/4^Bg a-1≠0->(c.getD ((a/4^Bg a-1)%4) .no).there=true/\(a/4^Bg a-1=1->(c.getD 0 .no).there=true)):GB (En e) (F9 b g a d):=by
 obtain⟨w,-,i⟩:=F7 a p v;have y:0<4^Bg a:=jp (by omega);have A:1<=a/4^Bg a:=by
  exact Nat.div_pos (Nat.le_of_dvd p w) y
 have q:a/4^Bg a<=qx ((Bg a:Nat):Int) e.length:=by
  unfold qx;rw[zz];exact CJ u
 have o:∀c,g.get (yd b (Bg a:Nat) (a/4^Bg a-1))=some c->(c.getD ((a/4^Bg a-1)%4) .no).there=true->(c.getD ((a/4^Bg a-1)%4) .no).hash=Ao e ((Bg a:Nat):Int) (a/4^Bg a-1):=by
  intro c h j;obtain⟨⟨-,t⟩,-⟩:=((f.get h).2 _ (TU _ (by omega))).2 j;rw[Fy]at t;exact t (by show((Bg a:Nat):Int)≠-1;omega)
 unfold F9;cases h:g.get (yd b (Bg a:Nat) (a/4^Bg a-1))with
 |none=>exact f
 |some c =>
  simp only;have x:=n c h;have j:=o c h
  by_cases l:a/4^Bg a-1=0
  ·rw[if_pos l];refine K0 e b 64 g (Bg a) 0 d f (by omega) ?_;rw[z,Oj,NV];have:=i.1 (by omega);unfold CC;simp only[Qe];rw[<- this]
  ·rw[if_neg l];obtain⟨m,r⟩:=x l
   by_cases k:a/4^Bg a-1=1
   ·rw[if_pos k];rw[k]at m j h;have s:=r k;split
    ·refine K0 e b 64 _ (Bg a) 1 _ (f.set ((f.get h).fitsAt (II e) s)) (by omega) (j m)
    ·exact f
   ·rw[if_neg k];exact K0 e b 64 g (Bg a) _ _ f (by omega) (j m)
def NJ (a:Nat)(d:Mm)(c:Nat)(b:zb):(F9 a d c b).map (·.1)=d.map (·.1):=by
 unfold F9;cases f:d.get (yd a (Bg c:Nat) (c/4^Bg c-1))with
 |none=>rfl
 |some e =>
  simp only;split
  ·exact DH ..
  ·split
   ·split
    ·rw[DH,Mm.aL]
    ·rfl
   ·exact DH ..
section
variable {σ:Type}{fe:σ -> zb -> (zb × Bool) × σ}
def YY {b:Mm}{a d:Nat}{s:σ}{T:Ms σ}(R:a<2^63)(O:1<=d)(h2:d<a)(H:Lb b)(F:P6 d b)(J:Bu fe b a ⟨s,[]⟩ ((AB 64 d 0 a true).flatMap λx=>jg a 64 x.1 x.2) T):
  ∀z,T.ag.get (yd a (Bg d:Nat) (d/4^Bg d-1))=some z->d/4^Bg d-1≠0->(z.getD ((d/4^Bg d-1)%4) .no).there=true/\(d/4^Bg d-1=1->(z.getD 0 .no).there=true):=by
 intro z o m;have f:Lb (⟨s,[]⟩:Ms σ).ag:=Ec _
 by_cases j:∀r,d≠2^r
 ·obtain⟨U,r,V,N,W⟩:=YG 64 d 0 a true (by omega) (LV _) (by omega) (by omega) (λ_=>rfl) j;obtain⟨c,P⟩:=W;have D:d=2^r*(2*c+1):=by rw[<- N,P,xp,Nat.mul_add,Ba,Bt]
  have p:Bg d=r/2:=by rw[D];exact zg9 r c (by omega)
  have k:=Xc a U r R (by omega) ⟨c,P⟩;rw[N,<- p]at k;obtain⟨f',f1,f2,f3,f4⟩:=(J.has H f).1 _ (Bz.2 ⟨_,V,k⟩);simp only at f1 f3;rw[o]at f1;simp only[zn]at f1;subst f1;refine⟨f3,λM=>?_⟩;exfalso;have i:0<4^(r/2):=jp (by omega);have C:d/4^Bg d=2:=by omega
  rw[p,D]at C;rcases Bk r with h0|O
  ·have e:2^r=4^(r/2):=by rw[Az];congr 1;omega
   rw[e,Au _ i]at C;omega
  ·have e:2^r=4^(r/2)*2:=by rw[Az,<- xp];congr 1;omega
   rw[e,Bt,Au _ i]at C;have:c=0:=by omega
   subst this;exact j r (by rw[D];simp)
 ·obtain⟨r,A⟩:∃r,d=2^r:=by
   rcases Classical.em (∃r,d=2^r)with h|h
   ·exact h
   ·exact absurd (λr e=>h ⟨r,e⟩) j
  have t:r<64:=by
   have:2^r<2^64:=by omega
   exact(jm (by omega:1<2)).1 this
  have p:Bg d=r/2:=by rw[A];exact Ko r t
  have i:0<4^(r/2):=jp (by omega);have n:d/4^(r/2)=2:=by
   rcases Bk r with h0|O
   ·exfalso;apply m;have e:2^r=4^(r/2):=by rw[Az];congr 1;omega
    rw[p,A,e,FG i]
   ·have e:2^r=4^(r/2)*2:=by rw[Az,<- xp];congr 1;omega
    rw[A,e,Au _ i]
  rw[p,n]at o m ⊢;simp only[Nat.reduceSub]at o m ⊢;have hk:=J.keys H f _ (Mm.get_mem o);rcases hk with ⟨y,hy,-⟩|⟨q,K,l⟩
  ·simp at hy
  ·simp only at l;obtain⟨w,u,L⟩:=Bz.1 K;have Q:=WA r 64 a (by omega) (by omega) w (by rw[<- A];exact u);obtain⟨i1,i2,i3⟩:=LF 64 d 0 a true (by omega) (by omega) (by omega) (by omega) w u;obtain⟨l',S,M,e2,e3,-⟩:=JO a R 63 w.1 w.2 (by omega) i3 (by omega) q L;rw[M]at l;simp only at l;have I:l'=r/2/\S/4=0:=by
    unfold yd at l;simp only[xj]at l;have q1:=l.1;have q2:=l.2.1;exact⟨by omega,by omega⟩
   obtain⟨rfl,Y⟩:=I;have Z:2<=S:=by
    have:d/4^(r/2)<=w.1/4^(r/2):=CJ (by omega);omega
   have G:b.get (yd a ((r/2:Nat):Int) 1)=none:=by
    cases E:b.get (yd a ((r/2:Nat):Int) 1)with
    |none=>rfl
    |some g =>
     exfalso;have B:=F _ (Mm.get_mem E);have X:qx ((r/2:Nat):Int) d=2:=by unfold qx;rw[zz];exact n
     unfold yd at B;simp only at B;rw[X]at B;omega
   have v:=J.whole H f (λx hx=>by simp at hx) _ (Mm.get_mem o) G;have hw:(2:Int)<=(yd a ((r/2:Nat):Int) 1).2.2:=by unfold yd;simp only;omega
   exact⟨v 1 (by omega) (by simp only;omega),λ_=>v 0 (by omega) (by simp only;omega)⟩
end
end
variable {q:Nat}
def Al.dvd {a:Nat}(h:Al a (2^q)):2^q ∣ a:=by
 obtain⟨e,b,c⟩:=h;exact EU (DM 2 ((C9 (by omega:1<2)).1 b)) c
def Al.bJ {a n:Nat}(h:Al a n)(d:2^q<n):2^(q+1) ∣ a:=by
 obtain⟨e,c,b⟩:=h;have:2^q<2^e:=by omega
 exact EU (DM 2 ((jm (by omega:1<2)).1 this)) b
def Ls (k a q f:Nat)(n:q<64)(w:1<=f)(r:2^q ∣ a):∀p∈jg k (f+1) a (2^q),∃j,p=(yd k ((q/2:Nat):Int) j,j%4)/\j/4=a/4^(q/2+1):=by
 intro p i;have d:0<4^(q/2):=jp (by omega);have g:∀x,x/4^(q/2)/4=x/4^(q/2+1):=λx=>by rw[xp,Cf]
 rcases Bk q with h0|v
 ·have e:2^q=4^(q/2):=by rw[Az];congr 1;omega
  have l:=Ko q n;rw[jg,if_pos (by rw[l,e];exact FG d),l]at i;obtain rfl:=yl.1 i;exact⟨_,rfl,g a⟩
 ·obtain⟨c,rfl⟩:∃c,q=2*c+1:=⟨q/2,by omega⟩;have t:(2*c+1)/2=c:=by omega
  rw[t]at d g ⊢;have e:2^(2*c+1)=2*4^c:=by rw[xp,Az];omega
  have l:Bg (2^(2*c+1))=c:=by rw[Ko _ n];omega
  have u:yo (2^(2*c+1))=4^c:=by rw[Nr,Az]
  have h:=ZV c (by omega);obtain⟨f,rfl⟩:∃o,f=o+1:=⟨f-1,by omega⟩;rw[jg,if_neg (by rw[l,e,Nat.mul_div_cancel _ d];omega),u,e,show 2*4^c-4^c=4^c by omega]at i;rw[jg,if_pos (by rw[h];exact FG d),h,jg,if_pos (by rw[h];exact FG d),h]at i;obtain⟨b,s⟩:=r;have m:a/4^c=2*b:=by
   rw[s,e,show 2*4^c*b=4^c*(2*b) by rw[EH 2 (4^c),Bt],Au _ d]
  rcases yj.1 i with i|i
  ·obtain rfl:=yl.1 i;exact⟨_,rfl,g a⟩
  ·obtain rfl:=yl.1 i;refine⟨_,rfl,?_⟩;rw[Nat.add_div_right _ d,<- g a,m];omega
def ZH (a n q:Nat)(j:2^(q+1) ∣ a)(i:2^q<=n)(g:n<2^(q+1)):a/4^(q/2+1)=((a+n)/4^(q/2)-1)/4:=by
 have c:0<4^(q/2):=jp (by omega);have f:∀x,x/4^(q/2)/4=x/4^(q/2+1):=λx=>by rw[xp,Cf]
 obtain⟨b,h⟩:=j;rw[<- f];rcases Bk q with h0|h0
 ·have e:2^q=4^(q/2):=by rw[Az];congr 1;omega
  have d:a=4^(q/2)*(2*b):=by rw[h,xp,e,Bt]
  have k:n/4^(q/2)=1:=by
   rw[xp,e]at g;rw[e]at i;exact Nat.div_eq_of_lt_le (by omega) (by omega)
  rw[d,Ka c,Au _ c,k];omega
 ·have e:2^q=2*4^(q/2):=by rw[Az,EH,<- xp];congr 1;omega
  have d:a=4^(q/2)*(4*b):=by rw[h,xp,e,EH 2,Bt,Bt];congr 1;omega
  have l:2<=n/4^(q/2):=(BM c).2 (by omega);have m:n/4^(q/2)<4:=(Nat.div_lt_iff_lt_mul c).2 (by rw[xp,e]at g;omega);rw[d,Ka c,Au _ c];omega
def SJ (a q:Nat)(g:2^q ∣ a):a/4^(q/2+1)=((a+2^q)/4^(q/2)-1)/4:=by
 have c:0<4^(q/2):=jp (by omega);have d:∀x,x/4^(q/2)/4=x/4^(q/2+1):=λx=>by rw[xp,Cf]
 obtain⟨b,f⟩:=g;rw[<- d];rcases Bk q with h0|h0
 ·have e:2^q=4^(q/2):=by rw[Az];congr 1;omega
  rw[f,e,Ka c,Au _ c,FG c];omega
 ·have e:2^q=4^(q/2)*2:=by rw[Az,<- xp];congr 1;omega
  rw[f,e,Bt,Ka c,Au _ c,Au _ c];omega
def zf4 (b:Nat)(A:b<2^63):∀(f a n:Nat),Al a n->a+n=b->1<=n->n<=2^f->∀p∈jg b (f+2) a n,∃l j:Nat,p=(yd b (l:Int) j,j%4)/\j/4=(b/4^l-1)/4/\4^l<=n:=by
 intro f
 induction f with
 |zero =>
  intro a n g m v o p d;obtain rfl:n=2^0:=by simp at o ⊢;omega
  obtain⟨j,e,i⟩:=Ls b a 0 1 (by omega) (by omega) g.dvd p d;exact⟨0,j,e,by rw[i,<- m];exact SJ a 0 g.dvd,by simp⟩
 |succ f w =>
  intro a n g m v o p d
  by_cases c:∃q,n=2^q
  ·obtain⟨q,rfl⟩:=c;have t:q<63:=by
    have:2^q<2^63:=by omega
    exact(jm (by omega:1<2)).1 this
   obtain⟨j,e,i⟩:=Ls b a q (f+2) (by omega) (by omega) g.dvd p d;refine⟨q/2,j,e,by rw[i,<- m];exact SJ a q g.dvd,?_⟩;rw[Az];exact j2 (by omega) (by omega)
  ·have k:2<=n:=by
    rcases qf n 2 with h|h
    ·exact absurd ⟨0,by simp;omega⟩ c
    ·exact h
   obtain⟨B,x,C,y,D,E⟩:=Bo n f k o;obtain⟨q,t⟩:=Mb n;have r:¬n/4^Bg n=1:=by
    intro h;have:=((F7 n (by omega) (by omega)).2.2).1 h;rw[Az]at this;exact c ⟨_,this⟩
   rw[jg,if_neg r]at d;have u:q<63:=by
    have:2^q<2^63:=by omega
    exact(jm (by omega:1<2)).1 this
   rcases yj.1 d with d|d
   ·rw[t]at d;have s:=g.bJ (q:=q) (by omega);obtain⟨j,e,i⟩:=Ls b a q (f+1) (by omega) (by omega) (EU (DM 2 (by omega)) s) p d;refine⟨q/2,j,e,?_,?_⟩
    ·rw[i,<- m];refine ZH a n q s (by omega) ?_;rw[xp];rcases qf n (2^q*2)with h|h
     ·exact h
     ·exact absurd ⟨q+1,by rw[xp];omega⟩ c
    ·refine zt ?_ (show 2^q<=n by omega);rw[Az];exact j2 (by omega) (by omega)
   ·obtain⟨l,j,e,i,z⟩:=w (a+yo n) (n-yo n) (g.right k) (by omega) y x p d;exact⟨l,j,e,i,by omega⟩
def Qm (a x y q:Nat)(c:2^(q+1) ∣ a)(g:a<=x/\x<a+2^(q+1))(h:a<=y/\y<a+2^(q+1)):x/4^(q/2+1)=y/4^(q/2+1):=by
 have e:4^(q/2+1)=2^(q+1)*2^(2*(q/2+1)-(q+1)):=by rw[Az,<- Qh];congr 1;omega
 have f:0<2^(q+1):=jp (by omega);obtain⟨b,d⟩:=c;have k:∀z,a<=z/\z<a+2^(q+1)->z/2^(q+1)=b:=by
  intro z i;rw[d]at i;obtain⟨r,rfl⟩:∃r,z=2^(q+1)*b+r:=⟨z-2^(q+1)*b,by omega⟩;rw[Ka f,Cy (by omega)]
  rfl
 rw[e,<- Cf,<- Cf,k x g,k y h]
def zh1 (b i:Nat)(M:b<2^63):∀(f a n:Nat),n<=2^f->Al a n->a<=i->i<a+n->a+n<=b->(a+n=b\/∃q,n=2^q)->∀s∈AD f a n i,∀p∈jg b 64 s.1 s.2,∃l j:Nat,p=(yd b (l:Int) j,j%4)/\(j/4=i/4^(l+1)\/j/4=(b/4^l-1)/4)/\4^l<n:=by
 intro f
 induction f with
 |zero=>intro a n _ _ _ _ _ _ s c;simp[AD]at c
 |succ f F =>
  intro a n h v o L N A s c p k
  by_cases J:n<=1
  ·rw[Gk _ _ _ _ J]at c;simp at c
  obtain⟨O,P,S,Q,T,U⟩:=Bo n f (by omega) h;obtain⟨q,B⟩:=Mb n;have E:q<63:=by
   have:2^q<2^63:=by omega
   exact(jm (by omega:1<2)).1 this
  have w:=v.bJ (q:=q) (by omega);have t:2^q ∣ a:=EU (DM 2 (by omega)) w;have D:4^(q/2)<n:=by
   refine qw ?_ (show 2^q<n by omega);rw[Az];exact j2 (by omega) (by omega)
  have d:n=2^(q+1)\/(n<2^(q+1)/\a+n=b):=by
   rw[xp];rcases qf n (2^q*2)with z|K
   ·right
    refine⟨z,?_⟩;rcases A with h|⟨r,R⟩
    ·exact h
    ·exfalso;have G:2^q<2^r:=by omega
     have H:2^r<2^(q+1):=by rw[xp];omega
     have d1:=(jm (by omega:1<2)).1 G;have d2:=(jm (by omega:1<2)).1 H;omega
   ·left;omega
  by_cases x:i<a+yo n
  ·rw[Ez f a n i (by omega) x]at c;rcases yj.1 c with c|c
   ·obtain⟨l,j,e,g,y⟩:=F a (yo n) O (v.left (by omega)) o x (by omega) (.inr ⟨q,B⟩) s c p k;exact⟨l,j,e,g,by omega⟩
   ·obtain rfl:=yl.1 c;simp only at k;rcases d with m|⟨m,C⟩
    ·have I:n-yo n=2^q:=by rw[xp]at m;omega
     rw[I,B]at k;obtain⟨j,e,g⟩:=Ls b (a+2^q) q 63 (by omega) (by omega) (Nat.dvd_add t (Nat.dvd_refl _)) p k;refine⟨q/2,j,e,.inl ?_,D⟩;rw[g];exact Qm a _ _ q w ⟨by omega,by rw[xp];omega⟩ ⟨o,by omega⟩
    ·obtain⟨l,j,e,g,y⟩:=zf4 b M 62 (a+yo n) (n-yo n) (v.right (by omega)) (by omega) Q (by omega) p k;exact⟨l,j,e,.inr g,by omega⟩
  ·rw[D7 f a n i (by omega) x]at c;rcases yj.1 c with c|c
   ·have u:(a+yo n)+(n-yo n)=b\/∃r,n-yo n=2^r:=by
     rcases d with m|⟨m,C⟩
     ·exact .inr ⟨q,by rw[xp]at m;omega⟩
     ·exact .inl (by omega)
    obtain⟨l,j,e,g,y⟩:=F (a+yo n) (n-yo n) P (v.right (by omega)) (by omega) (by omega) (by omega) u s c p k;exact⟨l,j,e,g,zq y (Nat.sub_le _ _)⟩
   ·obtain rfl:=yl.1 c;simp only at k;rw[B]at k;obtain⟨j,e,g⟩:=Ls b a q 63 (by omega) (by omega) t p k;refine⟨q/2,j,e,?_,D⟩;rcases d with m|⟨m,C⟩
    ·left
     rw[g];exact Qm a _ _ q w ⟨by omega,by rw[xp];omega⟩ ⟨o,by omega⟩
    ·right
     rw[g,<- C];exact ZH a n q w (by omega) m
def ZX {α:Type} [DecidableEq α]:∀(l s:List α),l.Nodup->(∀x∈l,x∈s)->l.length<=s.length
 |[],s,_,_=>by simp
 |x::l,s,f,b=>by
  have c:=b x (by simp);have a:=AK.1 f;have:=ZX l (s.erase x) a.2 (λy d=>(List.mem_erase_of_ne (λe=>a.1 (by rw[<- e];exact d))).2 (b y (by simp[d])));rw[List.length_erase_of_mem c]at this;have:=List.length_pos_of_mem c;simp only[xf];omega
def I4 (a i:Nat):List (Pl×Nat):=(yd a (-1) i,i%4)::(AD 64 0 a i).flatMap λs=>jg a 64 s.1 s.2
def zj3 (a i:Nat):List Pl:=yd a (-1) i::(List.range 4).flatMap λ(l:Nat)=>[yd a (l:Int) (i/4^l),yd a (l:Int) (a/4^l-1)]
def WS (a i:Nat)(g:i<a)(k:a<=256):∀p∈I4 a i,p.1∈zj3 a i:=by
 intro p c;unfold I4 at c;unfold zj3;rcases jl.1 c with rfl|c
 ·simp
 ·obtain⟨s,e,f⟩:=Bz.1 c;obtain⟨l,j,rfl,b,h⟩:=zh1 a i (by omega) 64 0 a (by omega) (LV _) (by omega) (by omega) (by omega) (.inl (by omega)) s e p f;have d:l<4:=by
   have:4^l<4^4:=by omega
   exact(jm (by omega:1<4)).1 this
  refine BV _ (Bz.2 ⟨l,CH.2 d,?_⟩);simp only[jl,Cx,N6];rcases b with b|b
  ·left
   refine Po a l j _ ?_;rw[b,xp,Cf]
  ·right
   exact Po a l j _ b
def zfn (a i:Nat):(zj3 a i).length=9:=rfl
end Go.Proofs.YtfdbeldiomkdiaaGreatDoor
