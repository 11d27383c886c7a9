import Derived.Test.YtfdbeldiomkdiaaGreatDoorG21
set_option maxHeartbeats 8000000
set_option maxRecDepth 100000
set_option linter.all false
namespace Go.Proofs.YtfdbeldiomkdiaaGreatDoor
open Go.RowKit Go.Proofs.Tryz
def Au:=@Nat.mul_div_cancel_left
def CX:=@List.mem_filter
def Dv:=@List.mem_cons_self
def DM:=@Nat.pow_dvd_pow
def EU:=@Nat.dvd_trans
def FN:=@List.pairwise_iff_getElem
def FO:=@Nat.eq_of_mul_eq_mul_left
def IT:=@List.getElem?_zipWith
def Mu:=@List.getElem?_set
def Qh:=@Nat.pow_add
def S2:=@Sum.inr.injEq
variable {f:Fl}{j k:Nat}{m nd pr:Mm}
section
def MG (f:Fl)(k:Nat):(Bl f k).length=f.length:=by simp[Bl]
def Fb (f:Fl)(k i:Nat):(Bl f k).getD i .no=if i=k/\k<f.length then {f.getD i .no with fits:=true} else f.getD i .no:=by
 unfold Bl;simp only[zj,List.getElem?_modify]
 by_cases h:k=i
 ·subst h
  by_cases a:k<f.length
  ·simp[a]
  ·simp[a]
 ·have:¬i=k:=λe=>h e.symm;simp[h,this]
def zbu (f c:Fl)(h:f.length=c.length):(G3 f c).length=f.length:=by simp[G3,h]
def Ga (f c:Fl)(h:f.length=c.length)(i:Nat)(b:i<f.length):(G3 f c).getD i .no=if (f.getD i .no).fits then f.getD i .no else c.getD i .no:=by
 have a:i<c.length:=by omega
 unfold G3;simp only[zj,IT,zo b,zo a,AX]
def VK (f:Fl)(i:Nat):(GY f).getD i .no=if (f.getD i .no).fits then f.getD i .no else .no:=by
 unfold GY;simp only[zj,List.getElem?_map]
 by_cases a:i<f.length
 ·simp[zo a]
 ·simp[Bc (Nat.not_lt.1 a),Pc.no]
def UK (f:Fl)(k i:Nat)(p:Pc):(f.set k p).getD i .no=if i=k/\k<f.length then p else f.getD i .no:=by
 simp only[zj,Mu]
 by_cases h:k=i
 ·subst h
  by_cases a:k<f.length
  ·simp[a]
  ·simp[a]
 ·have:¬i=k:=λe=>h e.symm;simp[h,this]
def RG (w:Nat)(d:zb):(K5 w d).length=4:=by simp[K5]
def SB (a:za):(Mw a).length=4:=by simp[Mw]
def MS (w:Nat)(d:zb)(k:Nat)(a:k<4):(K5 w d).getD k .no=if k<w then ⟨true,false,(d.drop (8*k)).take 8,[]⟩ else .no:=by
 simp[K5,zj,a]
def NZ (a:za)(k:Nat)(b:k<4):(Mw a).getD k .no=if k<a.length then ⟨true,false,AH (a.getD k []),a.getD k []⟩ else .no:=by
 simp[Mw,zj,b]
structure zmn (w:Int)(f:Fl):Prop where
 len:f.length=4
 fits:∀k,(f.getD k .no).fits=false
 there:∀k,k<4->(f.getD k .no).there=decide ((k:Int)<w)
def Ro {l w:Int}{d:zb}(h:FQ l w d=some f):zmn w f:=by
 unfold FQ at h
 by_cases g:l=-1
 ·rw[if_pos g]at h;cases i:DV d with
  |none=>rw[i]at h;simp at h
  |some e =>
   rw[i]at h
   by_cases c:(e.length:Int)=w
   ·simp only[c,if_true,zn]at h;subst h;refine⟨SB _,λk=>?_,λk b=>?_⟩
    ·by_cases b:k<4
     ·rw[NZ _ _ b];split<;>rfl
     ·rw[zj,Bc (by rw[SB];omega)];rfl
    ·rw[NZ _ _ b]
     by_cases a:k<e.length
     ·rw[if_pos a];simp;omega
     ·rw[if_neg a];simp[Pc.no];omega
   ·simp[c]at h
 ·rw[if_neg g]at h
  by_cases c:(d.length:Int)=w*8
  ·rw[if_pos c]at h;simp only[zn]at h;subst h;refine⟨RG _ _,λk=>?_,λk b=>?_⟩
   ·by_cases b:k<4
    ·rw[MS _ _ _ b];split<;>rfl
    ·rw[zj,Bc (by rw[RG];omega)];rfl
   ·rw[MS _ _ _ b]
    by_cases a:k<w.toNat
    ·rw[if_pos a];simp;omega
    ·rw[if_neg a];simp[Pc.no];omega
  ·rw[if_neg c]at h;simp at h
section
variable {σ:Type}{fe:σ -> zb -> (zb × Bool) × σ}
def Pn {s a:σ}{p:Pl}(h:B0 fe s p=(some f,a)):zmn p.2.2 f:=by
 unfold B0 at h;simp only[xj]at h;obtain⟨h,-⟩:=h;split at h
 ·exact Ro h
 ·simp at h
def Mm.get_mem {k:Pl}(h:m.get k=some f):(k,f)∈m:=by
 unfold Mm.get at h;cases e:m.find? (λx=>decide (x.1=k))with
 |none=>rw[e]at h;simp at h
 |some x =>
  rw[e]at h;simp only[zn]at h;have c:=DI e;have d:=DA e;simp only[ja]at c;obtain⟨a,b⟩:=x;simp only at h c;subst h;subst c;exact d
def Mm.get_none {k:Pl}(h:m.get k=none):∀x∈m,x.1≠k:=by
 unfold Mm.get at h;cases e:m.find? (λx=>decide (x.1=k))with
 |some x=>rw[e]at h;simp at h
 |none =>
  intro x a;have:=Bj.1 e x a;simpa using this
def Mm.get_of_mem (q:m.ok){k:Pl}(h:(k,f)∈m):m.get k=some f:=by
 cases e:m.get k with
 |none=>exact absurd rfl (Mm.get_none e _ h)
 |some g =>
  have s:=Mm.get_mem e;unfold Mm.ok at q;obtain⟨i,o,b⟩:=ji h;obtain⟨j,p,a⟩:=ji s;have l:i=j:=by
   have r:=FN.1 q;rcases Fi i j with n|c|d
   ·exact absurd (by rw[A5,A5,b,a]) (r i j (by simpa using o) (by simpa using p) n)
   ·exact c
   ·exact absurd (by rw[A5,A5,b,a]) (r j i (by simpa using p) (by simpa using o) d)
  subst l;rw[b]at a;simp only[xj,IJ]at a;rw[a]
def Mm.aJ {k:Pl}{x:Pl×Fl}:x∈m.drop k↔x∈m/\x.1≠k:=by
 unfold Mm.drop;rw[CX];simp
def Mm.bP (h:m.ok)(k:Pl):(m.drop k).ok:=by
 unfold Mm.ok Mm.drop at *;exact(List.filter_sublist.map _).nodup h
def Mm.bD (h:m.ok)(k:Pl)(f:Fl):(m.drop k++[(k,f)]:Mm).ok:=by
 have e:=Mm.bP h k;unfold Mm.ok at *;rw[yv,Aj];refine⟨e,by simp,?_⟩;intro a d b c;simp only[j4,DQ,yl]at c;subst c;obtain⟨x,g,rfl⟩:=yi.1 d;exact(Mm.aJ.1 g).2
def Mm.bC {a:Int}{k:Pl}{x:Pl×Fl}(h:x∈m.put a k f):x=(k,f)\/(x∈m/\x.1≠k):=by
 have b:x∈m.drop k++[(k,f)]:=by
  unfold Mm.put at h;split at h
  ·exact List.mem_of_mem_tail h
  ·exact h
 rcases yj.1 b with h|h
 ·exact .inr (Mm.aJ.1 h)
 ·exact .inl (by simpa using h)
def Mm.bL {a:Int}(h:m.ok)(k:Pl)(f:Fl):(m.put a k f).ok:=by
 have:=Mm.bD h k f;unfold Mm.put;split
 ·unfold Mm.ok at *;rw[List.map_tail];exact(List.tail_sublist _).nodup this
 ·exact this
def Mm.aL (m:Mm)(k:Pl)(f:Fl):(m.set k f).map (·.1)=m.map (·.1):=by
 unfold Mm.set;rw[EG];apply FT;intro x _;simp only[Function.comp_apply];split
 ·rename_i h;exact h.symm
 ·rfl
def Mm.set_ok (h:m.ok)(k:Pl)(f:Fl):(m.set k f).ok:=by
 unfold Mm.ok at *;rw[Mm.aL];exact h
def Mm.bR {k:Pl}{x:Pl×Fl}(h:x∈m.set k f):x=(k,f)\/(x∈m/\x.1≠k):=by
 unfold Mm.set at h;obtain⟨y,b,e⟩:=yi.1 h
 by_cases a:y.1=k
 ·rw[if_pos a]at e;exact .inl e.symm
 ·rw[if_neg a]at e;subst e;exact .inr ⟨b,a⟩
def Gd (V:Pl->Nat->Pc->Prop)(p:Pl)(k:Nat)(c:Pc):Prop:=(c.fits=true->c.there=true)/\(c.there=true->V p k c)
def LU (V:Pl->Nat->Pc->Prop)(p:Pl)(f:Fl):Prop:=f.length=4/\∀k,k<4->Gd V p k (f.getD k .no)
def GB (V:Pl->Nat->Pc->Prop)(m:Mm):Prop:=m.ok/\∀x∈m,LU V x.1 x.2
def VR (V:Pl->Nat->Pc->Prop)(p:Pl)(k:Nat):Gd V p k .no:=⟨by simp[Pc.no],by simp[Pc.no]⟩
def zm8 (V:Pl->Nat->Pc->Prop)(p:Pl):LU V p .no:=⟨rfl,λk a=>by
 match k,a with
 |0,_=>exact VR _ _ _
 |1,_=>exact VR _ _ _
 |2,_=>exact VR _ _ _
 |3,_=>exact VR _ _ _⟩
def GB.get {V:Pl->Nat->Pc->Prop}(h:GB V m){k:Pl}(e:m.get k=some f):LU V k f:=h.2 _ (Mm.get_mem e)
def GB.known {V:Pl->Nat->Pc->Prop}(h:GB V pr)(b:GB V nd)(p:Pl):LU V p (j6 pr nd p):=by
 unfold j6;cases e:nd.get p with
 |some f=>exact b.get e
 |none =>
  cases a:pr.get p with
  |some f=>exact h.get a
  |none=>exact zm8 V p
def GB.snoc {V:Pl->Nat->Pc->Prop}(h:GB V m){k:Pl}(b:LU V k f):GB V (m.drop k++[(k,f)]):=by
 refine⟨Mm.bD h.1 k f,λx c=>?_⟩;rcases yj.1 c with a|a
 ·exact h.2 x (Mm.aJ.1 a).1
 ·obtain rfl:x=(k,f):=by simpa using a
  exact b
def GB.put {V:Pl->Nat->Pc->Prop}(h:GB V m){k:Pl}(c:LU V k f)(a:Int):GB V (m.put a k f):=by
 refine⟨Mm.bL h.1 k f,λx d=>?_⟩;rcases Mm.bC d with rfl|⟨b,-⟩
 ·exact c
 ·exact h.2 x b
def GB.set {V:Pl->Nat->Pc->Prop}(h:GB V m){k:Pl}(b:LU V k f):GB V (m.set k f):=by
 refine⟨Mm.set_ok h.1 k f,λx c=>?_⟩;rcases Mm.bR c with rfl|⟨a,-⟩
 ·exact b
 ·exact h.2 x a
def Ec (V:Pl->Nat->Pc->Prop):GB V []:=⟨by simp[Mm.ok],λx a=>by simp at a⟩
def LU.fitsAt {V:Pl->Nat->Pc->Prop}(e:∀p k c b,V p k c->V p k {c with fits:=b}){p:Pl}(h:LU V p f)(j:(f.getD k .no).there=true):LU V p (Bl f k):=by
 refine⟨by rw[MG];exact h.1,λi d=>?_⟩;rw[Fb]
 by_cases a:i=k/\k<f.length
 ·rw[if_pos a];obtain⟨rfl,-⟩:=a;exact⟨λ_=>j,λg=>e _ _ _ _ ((h.2 i d).2 g)⟩
 ·rw[if_neg a];exact h.2 i d
def LU.fill {V:Pl->Nat->Pc->Prop}{p:Pl}{c:Fl}(h:LU V p f)(b:LU V p c):LU V p (G3 f c):=by
 have e:f.length=c.length:=by rw[h.1,b.1]
 refine⟨by rw[zbu f c e];exact h.1,λi a=>?_⟩;rw[Ga f c e i (by rw[h.1];exact a)];split
 ·exact h.2 i a
 ·exact b.2 i a
def LU.fit {V:Pl->Nat->Pc->Prop}{p:Pl}(h:LU V p f):LU V p (GY f):=by
 refine⟨by simp[GY,h.1],λi a=>?_⟩;rw[VK];split
 ·exact h.2 i a
 ·exact VR _ _ _
def Jl {V:Pl->Nat->Pc->Prop}(a:Int):∀(b c:Mm),GB V c->(∀x∈b,LU V x.1 x.2)->GB V (qd a c b)
 |[],c,h,_=>h
 |x::b,c,h,d=>by
  show GB V (qd a (c.put a x.1 (GY x.2)) b);exact Jl a b _ (h.put (d x (by simp)).fit a) (λy e=>d y (by simp[e]))
structure zmt (fe:σ->zb->(zb×Bool)×σ)(I:σ->Prop)(T:Pl->Option Fl):Prop where
 file:∀s p,I s->(B0 fe s p).1=T p
 keep:∀s p,I s->I (B0 fe s p).2
def Oy {I:σ->Prop}{T:Pl->Option Fl}{V:Pl->Nat->Pc->Prop}(z:zmt fe I T)(A:∀p k c b,V p k c->V p k {c with fits:=b})
 {proved:Mm}{a:Nat}{m:Ms σ}{l:Int}(D:∀d,T (yd a l j)=some d->LU V (yd a l j) d)
 (E:GB V proved) (x:GB V m.ag) (hI:I m.al) (F:j<qx l a) :
  (∃c f,BI fe proved a m l j=(.inr c,f)/\c.there=true/\V (yd a l j) (j%4) c/\GB V f.ag/\I f.al) \/
  (∃f,BI fe proved a m l j=(.inl (KH (yd a l j)),f)/\T (yd a l j)=none/\f.ag=m.ag/\I f.al):=by
 have i:LU V (yd a l j) (j6 proved m.ag (yd a l j)):=E.known x _;have G:(yd a l j).2.2<=4:=by unfold yd;simp;omega
 have w:((j%4:Nat):Int)<(yd a l j).2.2:=by unfold yd;simp;omega
 unfold BI;generalize yd a l j=p at *
 by_cases g:((j6 proved m.ag p).getD (j%4) .no).there=true
 ·rw[if_pos g];have t:=i.fitsAt A g;have e:((Bl (j6 proved m.ag p) (j%4)).getD (j%4) .no).there=true:=by
   rw[Fb];split
   ·exact g
   ·exact g
  exact .inl ⟨_,_,rfl,e,(t.2 (j%4) (by omega)).2 e,x.snoc t,hI⟩
 ·rw[if_neg g];have q:=z.file m.al p hI;have r:=z.keep m.al p hI;cases C:B0 fe m.al p with
  |mk o s =>
   rw[C]at q r;simp only at q r;cases o with
   |none=>exact .inr ⟨_,rfl,q.symm,rfl,r⟩
   |some d =>
    have B:=D d q.symm;have u:=Pn C;have t:=i.fill B;have e:((G3 (j6 proved m.ag p) d).getD (j%4) .no).there=true:=by
     rw[Ga _ _ (by rw[i.1,B.1]) _ (by rw[i.1];omega)];have y:((j6 proved m.ag p).getD (j%4) .no).fits≠true:=λv=>g ((i.2 (j%4) (by omega)).1 v);rw[if_neg y,u.there _ (by omega)];simpa using w
    have h:=t.fitsAt A e;have n:((Bl (G3 (j6 proved m.ag p) d) (j%4)).getD (j%4) .no).there=true:=by
     rw[Fb];split
     ·exact e
     ·exact e
    exact .inl ⟨_,_,rfl,n,(h.2 (j%4) (by omega)).2 n,x.snoc h,r⟩
end
end
section
def Qu (n:Nat)(h0:0<n)(h:n<2^64):∃m,n=2^Lib.ctz 64 n*(2*m+1)/\Lib.ctz 64 n<64:=by
 unfold Lib.ctz;rw[if_neg (by omega)];exact Lib.ctzFrom_spec 64 n h0 h
def Az (l:Nat):4^l=2^(2*l):=by rw[Nat.pow_mul]
def F7 (n:Nat)(h0:0<n)(h:n<2^64):4^Bg n ∣ n/\Bg n<32/\(n/4^Bg n=1↔n=4^Bg n):=by
 obtain⟨m,d,g⟩:=Qu n h0 h;unfold Bg;generalize Lib.ctz 64 n=c at *;have a:4^(c/2) ∣ n:=by
  rw[Az];refine EU (DM 2 (show 2*(c/2)<=c by omega)) ?_;rw[d];exact Nat.dvd_mul_right _ _
 refine⟨a,by omega,?_⟩;obtain⟨q,f⟩:=a;have b:0<4^(c/2):=jp (by omega);rw[f,Au _ b];constructor
 ·intro e;rw[e,Ba]
 ·intro e;exact FO b (by rw[e,Ba])
def ZV (L:Nat)(h:L<32):Bg (4^L)=L:=by
 have g:0<4^L:=jp (by omega);have d:4^L<2^64:=by rw[Az];exact Nat.pow_lt_pow_right (by omega) (by omega)
 obtain⟨m,f,k⟩:=Qu (4^L) g d;unfold Bg;generalize Lib.ctz 64 (4^L)=c at *;have a:2^(2*L)=2^c*(2*m+1):=by rw[<- Az];exact f
 have i:c<=2*L:=by
  have:2^c<=2^(2*L):=by rw[a];exact Nat.le_mul_of_pos_right _ (by omega)
  exact(C9 (by omega:1<2)).1 this
 have b:2^(2*L-c)=2*m+1:=by
  have:2^c*2^(2*L-c)=2^c*(2*m+1):=by rw[<- Qh,<- a];congr 1;omega
  exact FO (jp (by omega)) this
 have j:2*L-c=0:=by
  cases e:2*L-c with
  |zero=>rfl
  |succ x=>rw[e,xp]at b;omega
 omega
section
variable {σ:Type}{fe:σ -> zb -> (zb × Bool) × σ}
def KK (H:Pl->Nat->zb)(b:Nat):Nat->Nat->Nat->zb
 |0,_,_=>BE
 |f+1,a,n=>if n/4^Bg n=1 then H (yd b (Bg n:Nat) (a/4^Bg n)) (a/4^Bg n%4)
  else vf (KK H b f a (yo n)) (KK H b f (a+yo n) (n-yo n))
def jg (b:Nat):Nat->Nat->Nat->List (Pl×Nat)
 |0,_,_=>[]
 |f+1,a,n=>if n/4^Bg n=1 then [(yd b (Bg n:Nat) (a/4^Bg n),a/4^Bg n%4)]
  else jg b f a (yo n)++jg b f (a+yo n) (n-yo n)
def Has (a:Mm)(b:List (Pl×Nat)):Prop:=∀x∈b,∃f,a.get x.1=some f/\f.length=4/\(f.getD x.2 .no).there=true/\(f.getD x.2 .no).fits=true
structure Ctx (fe:σ->zb->(zb×Bool)×σ)(I:σ->Prop)(T:Pl->Option Fl)(V:Pl->Nat->Pc->Prop)(H:Pl->Nat->zb)(proved:Mm)(size:Nat):Prop where
 bV:zmt fe I T
 bare:∀p k c b,V p k c->V p k {c with fits:=b}
 told:∀l j came,-1<=l->j<qx l size->T (yd size l j)=some came->LU V (yd size l j) came
 hash:∀(l j:Nat) c,j<qx (l:Int) size->V (yd size (l:Int) j) (j%4) c->c.hash=H (yd size (l:Int) j) (j%4)
 proved:GB V proved
def PS (a n l b:Nat)(h:a+n<=b)(e:n=4^l):a/4^l<qx (l:Int) b:=by
 unfold qx;rw[zz];have c:0<4^l:=jp (by omega);have d:a/4^l+1<=b/4^l:=by
  rw[BM c,BW,Qg];have:=Nat.div_mul_le_self a (4^l);omega
 omega
def OC {b:Mm}{d f a n:Nat}{m e:Ms σ}{c:Pc}(g:n/4^Bg n=1)(h:BI fe b d m (Bg n:Nat) (a/4^Bg n)=(.inr c,e)):AE fe b d (f+1) m a n=(.inr c.hash,e):=by
 rw[AE,if_pos g,h]
def Rv {b:Mm}{c f a n:Nat}{m d:Ms σ}{e:zb}(g:n/4^Bg n=1)(h:BI fe b c m (Bg n:Nat) (a/4^Bg n)=(.inl e,d)):AE fe b c (f+1) m a n=(.inl e,d):=by
 rw[AE,if_pos g,h]
def OD {b:Mm}{c f a n:Nat}{m d e:Ms σ}{x y:zb}(i:¬n/4^Bg n=1)(g:AE fe b c f m a (yo n)=(.inr x,d))(h:AE fe b c f d (a+yo n) (n-yo n)=(.inr y,e)):AE fe b c (f+1) m a n=(.inr (vf x y),e):=by
 rw[AE,if_neg i,g];simp only[h]
def Ru {b:Mm}{c f a n:Nat}{m d:Ms σ}{e:zb}(h:¬n/4^Bg n=1)(g:AE fe b c f m a (yo n)=(.inl e,d)):AE fe b c (f+1) m a n=(.inl e,d):=by
 rw[AE,if_neg h,g]
def Ps {b:Mm}{c f a n:Nat}{m d g:Ms σ}{x e:zb}(j:¬n/4^Bg n=1)(h:AE fe b c f m a (yo n)=(.inr x,d))(i:AE fe b c f d (a+yo n) (n-yo n)=(.inl e,g)):AE fe b c (f+1) m a n=(.inl e,g):=by
 rw[AE,if_neg j,h];simp only[i]
def Pu {a:Mm}{b:Nat}{m c d:Ms σ}{s:Nat×Nat}{r:List (Nat×Nat)}{x:zb}{e:za}(f:AE fe a b 64 m s.1 s.2=(.inr x,c))(g:Ax fe a b c r=(.inr e,d)):Ax fe a b m (s::r)=(.inr (x::e),d):=by
 rw[Ax,f];simp only[g]
def Pt {a:Mm}{b:Nat}{m c:Ms σ}{s:Nat×Nat}{r:List (Nat×Nat)}{e:zb}(d:AE fe a b 64 m s.1 s.2=(.inl e,c)):Ax fe a b m (s::r)=(.inl e,c):=by
 rw[Ax,d]
def Pw {a:Mm}{b:Nat}{m c d:Ms σ}{s:Nat×Nat}{r:List (Nat×Nat)}{x e:zb}(f:AE fe a b 64 m s.1 s.2=(.inr x,c))(g:Ax fe a b c r=(.inl e,d)):Ax fe a b m (s::r)=(.inl e,d):=by
 rw[Ax,f];simp only[g]
def zdq {I:σ->Prop}{T:Pl->Option Fl}{V:Pl->Nat->Pc->Prop}{H:Pl->Nat->zb}{d:Mm}{b:Nat}(q:Ctx fe I T V H d b)(Q:b<2^63):
  ∀(f:Nat) (m:Ms σ) (a n:Nat),GB V m.ag->I m.al->a+n<=b->1<=n->n<=2^f ->
   ∃i,GB V i.ag/\I i.al/\(AE fe d b (f+1) m a n=(.inr (KK H b (f+1) a n),i)\/∃p,AE fe d b (f+1) m a n=(.inl (KH p.1),i)/\p∈jg b (f+1) a n/\T p.1=none):=by
 have j:∀(f:Nat) (m:Ms σ) (a n:Nat),GB V m.ag->I m.al->a+n<=b->1<=n->n/4^Bg n=1 ->
   ∃i,GB V i.ag/\I i.al/\(AE fe d b (f+1) m a n=(.inr (KK H b (f+1) a n),i)\/∃p,AE fe d b (f+1) m a n=(.inl (KH p.1),i)/\p∈jg b (f+1) a n/\T p.1=none):=by
  intro f m a n k hI s t g;obtain⟨-,-,r⟩:=F7 n t (by omega);have A:=PS a n (Bg n) b s (r.1 g);rw[KK,jg,if_pos g,if_pos g];rcases Oy (proved:=d) (m:=m) q.bV q.bare (λo h=>q.told _ _ o (by omega) A h) q.proved k hI A with ⟨c,l,v,-,w,x,y⟩|⟨l,v,w,x,y⟩
  ·exact⟨l,x,y,.inl (by rw[OC g v,q.hash _ _ c A w])⟩
  ·exact⟨l,by rw[x];exact k,y,.inr ⟨_,Rv g v,yl.2 rfl,w⟩⟩
 intro f
 induction f with
 |zero =>
  intro m a n k hI s t F;obtain rfl:n=1:=by omega
  exact j 0 m a 1 k hI s (by omega) (by decide)
 |succ f G =>
  intro m a n k hI s t F
  by_cases g:n/4^Bg n=1
  ·exact j (f+1) m a n k hI s t g
  ·have B:2<=n:=by
    rcases qf n 2 with h|h
    ·exact absurd (by
       obtain rfl:n=1:=by omega
       decide) g
    ·exact h
   obtain⟨M,N,O,P,R,S⟩:=Bo n f B F;rw[KK,jg,if_neg g,if_neg g];obtain⟨l,D,E,e|⟨p,e,C,z⟩⟩:=G m a (yo n) k hI (by omega) O M
   ·obtain⟨J,K,L,u|⟨p,u,C,z⟩⟩:=G l (a+yo n) (n-yo n) D E (by omega) P N
    ·exact⟨J,K,L,.inl (OD g e u)⟩
    ·exact⟨J,K,L,.inr ⟨p,Ps g e u,yj.2 (.inr C),z⟩⟩
   ·exact⟨l,D,E,.inr ⟨p,Ru g e,yj.2 (.inl C),z⟩⟩
def YV {I:σ->Prop}{T:Pl->Option Fl}{V:Pl->Nat->Pc->Prop}{H:Pl->Nat->zb}{b:Mm}{a:Nat}(x:Ctx fe I T V H b a)(y:a<2^63):
  ∀(c:List (Nat×Nat)) (m:Ms σ),GB V m.ag->I m.al->(∀s∈c,s.1+s.2<=a/\1<=s.2) ->
   ∃f,GB V f.ag/\I f.al/\(Ax fe b a m c=(.inr (c.map λs=>KK H a 64 s.1 s.2),f)\/∃s∈c,∃p,Ax fe b a m c=(.inl (KH p.1),f)/\p∈jg a 64 s.1 s.2/\T p.1=none):=by
 intro c
 induction c with
 |nil=>intro m i hI _;exact⟨m,i,hI,.inl rfl⟩
 |cons s c z =>
  intro m i hI o;obtain⟨v,w⟩:=o s (by simp);obtain⟨q,l,n,e|⟨p,e,j,h⟩⟩:=zdq x y 63 m s.1 s.2 i hI v w (by omega)
  ·obtain⟨r,t,u,g|⟨k,d,p,g,j,h⟩⟩:=z q l n (λk d=>o k (by simp[d]))
   ·exact⟨r,t,u,.inl (Pu e g)⟩
   ·exact⟨r,t,u,.inr ⟨k,by simp[d],p,Pw e g,j,h⟩⟩
  ·exact⟨q,l,n,.inr ⟨s,by simp,p,Pt e,j,h⟩⟩
end
end
section
abbrev Say:=zb->Option (zb)
def MJ (say:Say)(p:Pl):Option Fl:=match say (KH p)with
 |some d=>FQ p.1 p.2.2 d
 |none=>none
section
variable {σ:Type}{fe:σ -> zb -> (zb × Bool) × σ}
structure S4 (fe:σ->zb->(zb×Bool)×σ)(I:σ->Prop)(say:Say):Prop where
 bV:∀s q,I s->say q=if (fe s q).1.2 then some (fe s q).1.1 else none
 keep:∀s q,I s->I (fe s q).2
def S4.place {I:σ->Prop}{a:Say}(h:S4 fe I a){s:σ}(hI:I s)(p:Pl):(B0 fe s p).1=MJ a p/\I (B0 fe s p).2:=by
 refine⟨?_,h.keep s _ hI⟩;unfold B0 MJ;rw[h.bV s (KH p) hI];cases (fe s (KH p)).1.2<;>rfl
def S4.aZ {I:σ->Prop}{a:Say}(h:S4 fe I a):zmt fe I (MJ a):=⟨λ_ p hI=>(h.place hI p).1,λ_ p hI=>(h.place hI p).2⟩
end
def GS (p:Pl)(k:Nat):Nat:=4*p.2.1.toNat+k
def ze7 (a:za)(p:Pl)(k:Nat)(c:Pc):Prop:=
 (p.1=-1->c.hash=AH (a.getD (GS p k) [])/\c.entry=a.getD (GS p k) [])/\(p.1≠-1->c.hash=Ao a p.1 (GS p k))
def TK (a:za)(p:Pl)(k:Nat):zb:=Ao a p.1 (GS p k)
def Fy (a:Nat)(l:Int)(j:Nat):GS (yd a l j) (j%4)=j:=by
 unfold GS yd;simp only[zz];omega
def Zl (b:za)(a:Nat)(l j:Nat)(c:Pc)(h:ze7 b (yd a (l:Int) j) (j%4) c):c.hash=TK b (yd a (l:Int) j) (j%4):=
 h.2 (by show(l:Int)≠-1;omega)
def Al (a n:Nat):Prop:=∃e,n<=2^e/\2^e ∣ a
def LV (n:Nat):Al 0 n:=⟨n,Nat.le_of_lt Nat.lt_two_pow_self,Nat.dvd_zero _⟩
def Mb (n:Nat):∃q,yo n=2^q:=⟨_,rfl⟩
def Al.left {a n:Nat}(h:Al a n)(b:2<=n):Al a (yo n):=by
 obtain⟨e,d,c⟩:=h;obtain⟨f,g,i⟩:=Be n b;exact⟨e,by omega,c⟩
def Al.right {a n:Nat}(h:Al a n)(d:2<=n):Al (a+yo n) (n-yo n):=by
 obtain⟨e,g,f⟩:=h;obtain⟨i,j,k⟩:=Be n d;obtain⟨q,c⟩:=Mb n;refine⟨q,by omega,?_⟩;have b:q<=e:=by
  have:2^q<=2^e:=by rw[<- c];omega
  exact(C9 (by omega:1<2)).1 this
 rw[c];exact Nat.dvd_add (EU (DM 2 b) f) (Nat.dvd_refl _)
def Al.four {a l:Nat}(h:Al a (4^l)):a/4^l*4^l=a:=by
 obtain⟨e,b,c⟩:=h;rw[Az]at *;have:=(C9 (by omega:1<2)).1 b;exact Nat.div_mul_cancel (EU (DM 2 this) c)
def zh0:∀(f a n i:Nat),n<=2^f->Al a n->∀s∈AD f a n i,Al s.1 s.2:=by
 intro f
 induction f with
 |zero=>intro a n i h c s b;simp[AD]at b
 |succ f e =>
  intro a n i h c s b
  by_cases g:n<=1
  ·rw[Gk _ _ _ _ g]at b;simp at b
  obtain⟨j,k,l,m,o,p⟩:=Bo n f (by omega) h
  by_cases d:i<a+yo n
  ·rw[Ez f a n i (by omega) d]at b;rcases yj.1 b with b|b
   ·exact e a (yo n) i j (c.left (by omega)) s b
   ·obtain rfl:s=_:=yl.1 b;exact c.right (by omega)
  ·rw[D7 f a n i (by omega) d]at b;rcases yj.1 b with b|b
   ·exact e (a+yo n) (n-yo n) i k (c.right (by omega)) s b
   ·obtain rfl:s=_:=yl.1 b;exact c.left (by omega)
def zhx:∀(f m a n:Nat) (b:Bool),n<=2^f->a<m->m<=a+n->Al a n->∀s∈AB f m a n b,Al s.1 s.2:=by
 intro f
 induction f with
 |zero =>
  intro m a n b h e j d s c;unfold AB at c;split at c
  ·split at c
   ·simp at c
   ·obtain rfl:s=_:=yl.1 c;exact d
  ·simp at c
 |succ f k =>
  intro m a n b h e j d s c
  by_cases i:m=a+n
  ·rw[Dz _ _ _ _ _ i]at c;split at c
   ·simp at c
   ·obtain rfl:s=_:=yl.1 c;exact d
  obtain⟨l,o,p,q,r,t⟩:=Bo n f (by omega) h
  by_cases g:m<=a+yo n
  ·rw[Ew f m a n b i g]at c;rcases yj.1 c with c|c
   ·exact k m a (yo n) b l e g (d.left (by omega)) s c
   ·obtain rfl:s=_:=yl.1 c;exact d.right (by omega)
  ·rw[Ex f m a n b i g]at c;rcases yj.1 c with c|c
   ·exact k m (a+yo n) (n-yo n) false o (by omega) (by omega) (d.right (by omega)) s c
   ·obtain rfl:s=_:=yl.1 c;exact d.left (by omega)
def YT (c:za)(b:Nat)(y:b<=c.length)(r:b<2^63):∀(f a n:Nat),a+n<=b->1<=n->n<=2^f->Al a n->KK (TK c) b (f+1) a n=yy (CC c (a,n)):=by
 have d:∀(f a n:Nat),a+n<=b->1<=n->Al a n->n/4^Bg n=1->KK (TK c) b (f+1) a n=yy (CC c (a,n)):=by
  intro f a n m k e i;obtain⟨-,-,j⟩:=F7 n k (by omega);have p:=j.1 i;rw[KK,if_pos i];unfold TK;rw[Fy];show Ao c ((Bg n:Nat):Int) _=_;unfold Ao;rw[if_neg (by omega),zz];unfold CC;rw[Al.four (l:=Bg n) (p▸e)];exact congrArg (λx=>yy ((c.drop a).take x)) p.symm
 intro f
 induction f with
 |zero =>
  intro a n m k o e;obtain rfl:n=1:=by omega
  exact d 0 a 1 m (by omega) e (by decide)
 |succ f q =>
  intro a n m k o e
  by_cases i:n/4^Bg n=1
  ·exact d (f+1) a n m k e i
  ·have g:2<=n:=by
    rcases qf n 2 with h|h
    ·exact absurd (by
       obtain rfl:n=1:=by omega
       decide) i
    ·exact h
   obtain⟨t,u,v,w,z,A⟩:=Bo n f g o;rw[KK,if_neg i,q a (yo n) (by omega) v t (e.left g),q (a+yo n) (n-yo n) (by omega) w u (e.right g)];have s:=EA c a n (by omega);rw[LQ (CC c (a,n)) (by omega),s,IC c a n _ (by omega),IA]
def zem:∀(a:za),(∀l∈a,l.length<=20)->Xz (DB a)=some a:=by
 intro a
 induction a with
 |nil=>intro _;rfl
 |cons l a d =>
  intro h;have f:=h l (by simp);have e:DB (l::a)=UInt8.ofNat l.length::(l++DB a):=by simp[DB,NY]
  have b:(UInt8.ofNat l.length).toNat=l.length:=by rw[GH];omega
  rw[e,UR _ _ (by rw[b];simp),b];simp only[CE,Qf];rw[d (λx c=>h x (by simp[c]))]
  rfl
def TL (a:za)(h:Iz a=true):DV (DB a)=some a:=by
 have b:∀l∈a,l.length<=20:=by
  intro l b;unfold Iz at h;simp only[A3,AW,ja]at h;exact h.2.2 l b
 unfold DV;rw[zem a b];simp[h]
def Om (a:za)(j w:Nat)(h:4*j+w<=a.length):D6 a (-1) j w=DB ((a.drop (4*j)).take w):=by
 unfold D6 DB;congr 1;apply FF
 ·simp;omega
 ·intro i b c;simp only[yg,List.length_range']at b;simp only[A5,List.getElem_range',js,Ai];unfold Ao;rw[if_pos rfl,zj,zo (by omega)];simp
def zdi (a:za)(n:∀e∈a,e.length<=20)(l:Int)(t:-1<=l)(j w:Nat)(q:1<=w)(r:w<=4)(m:4*j+w<=qx l a.length):
  ∃f,FQ l w (D6 a l j w)=some f/\∀k,k<4->(f.getD k .no).there=true->ze7 a (l,(j:Int),(w:Int)) k (f.getD k .no):=by
 unfold FQ
 by_cases h:l=-1
 ·subst h;have p:qx (-1) a.length=a.length:=by unfold qx;simp
  rw[p]at m;rw[if_pos rfl,Om a j w m];have d:((a.drop (4*j)).take w).length=w:=by simp;omega
  have i:Iz ((a.drop (4*j)).take w)=true:=by
   unfold Iz;simp only[A3,AW,ja];refine⟨by omega,by omega,λx s=>n x (jz (qa s))⟩
  rw[TL _ i];simp only[d,if_true];refine⟨_,rfl,λk g c=>?_⟩;rw[NZ _ _ g]at c ⊢
  by_cases b:k<((a.drop (4*j)).take w).length
  ·rw[if_pos b];have e:((a.drop (4*j)).take w).getD k []=a.getD (GS (-1,(j:Int),(w:Int)) k) []:=by
    unfold GS;simp only[zz,zj,qi,BT];rw[if_pos (by omega)]
   rw[e];exact⟨λ_=>⟨rfl,rfl⟩,λh=>absurd rfl h⟩
  ·rw[if_neg b]at c;simp[Pc.no]at c
 ·rw[if_neg h];obtain⟨L,rfl⟩:∃L:Nat,l=(L:Int):=⟨l.toNat,by omega⟩;rw[RH,if_pos (by omega)];refine⟨_,rfl,λk g c=>?_⟩;rw[MS _ _ _ g]at c ⊢
  by_cases b:k<(w:Int).toNat
  ·rw[if_pos b];refine⟨λo=>absurd o h,λ_=>?_⟩;have:=TD a L (4*j+k) w (by omega);rw[show(4*j+k)/4=j by omega,show(4*j+k)%4=k by omega]at this;unfold GS;simpa using this
  ·rw[if_neg b]at c;simp[Pc.no]at c
def OZ (b:za)(n:Nat)(l:Int)(k:Nat)(h:k<qx l n)(_:n<=b.length):Ao (b.take n) l k=Ao b l k:=by
 unfold Ao qx at *
 by_cases a:l=-1
 ·rw[if_pos a,if_pos a];subst a;have h:k<n:=by simpa using h
  simp[zj,h]
 ·rw[if_neg a,if_neg a];have c:0<4^l.toNat:=jp (by omega);have:(k+1)*4^l.toNat<=n:=(BM c).1 h;rw[BW,Qg]at this;congr 1;rw[List.drop_take,KV];congr 1;omega
def Pa (a:za)(n:Nat)(l:Int)(j w:Nat)(h:4*j+w<=qx l n)(c:n<=a.length):D6 (a.take n) l j w=D6 a l j w:=by
 unfold D6;congr 1;apply FT;intro k b;rw[Mv]at b;exact OZ a n l k (by omega) c
end
section
abbrev WfF (p:Pl)(f:Fl):Prop:=LU (λ_ _ _=>True) p f
abbrev Lb (m:Mm):Prop:=GB (λ_ _ _=>True) m
def LU.wf {V:Pl->Nat->Pc->Prop}{p:Pl}(h:LU V p f):WfF p f:=⟨h.1,λk a=>⟨(h.2 k a).1,λ_=>trivial⟩⟩
def GB.wf {V:Pl->Nat->Pc->Prop}(h:GB V m):Lb m:=⟨h.1,λx a=>(h.2 x a).wf⟩
def Mm.aS (m:Mm)(p q:Pl)(g:Fl):Mm.get (m.drop p++[(p,g)]) q=if q=p then some g else m.get q:=by
 unfold Mm.get;rw[List.find?_append]
 by_cases h:q=p
 ·subst h;have:(m.drop q).find? (λx=>decide (x.1=q))=none:=by
   rw[Bj];intro x a;have:=(Mm.aJ.1 a).2;simpa using this
  rw[this];simp
 ·have b:¬p=q:=λe=>h e.symm;have:(m.drop p).find? (λx=>decide (x.1=q))=m.find? (λx=>decide (x.1=q)):=by
   unfold Mm.drop;rw[List.find?_filter];congr 1;funext x
   by_cases a:x.1=q
   ·simp[a,h]
   ·simp[a]
  rw[this,if_neg h];cases m.find? (λx=>decide (x.1=q))with
  |none=>simp[b]
  |some x=>simp
def Mm.bB (m:Mm)(p q:Pl)(g:Fl):(m.set p g).get q=if q=p then (m.get p).map (λ_=>g) else m.get q:=by
 unfold Mm.get Mm.set;rw[List.find?_map];have e:((λx:Pl×Fl=>decide (x.1=q))∘λx:Pl×Fl=>if x.1=p then (p,g) else x)=λx=>decide (x.1=q):=by
  funext x;simp only[Function.comp_apply]
  by_cases a:x.1=p
  ·simp[a]
  ·simp[a]
 rw[e]
 by_cases h:q=p
 ·subst h;rw[if_pos rfl];cases b:m.find? (λx=>decide (x.1=q))with
  |none=>rfl
  |some x =>
   have:=DI b;simp only[ja]at this;simp[this]
 ·rw[if_neg h];cases b:m.find? (λx=>decide (x.1=q))with
  |none=>rfl
  |some x =>
   have:=DI b;simp only[ja]at this;have a:¬x.1=p:=by rw[this];exact h
   simp[a]
section
variable {σ:Type}{fe:σ -> zb -> (zb × Bool) × σ}
def Gg {b:Mm}{a:Nat}{m r:Ms σ}{l:Int}{c:Pc}(h:BI fe b a m l j=(.inr c,r))(y:Lb b)(x:Lb m.ag)(z:j<qx l a):
  ∃f,WfF (yd a l j) f/\r.ag=m.ag.drop (yd a l j)++[(yd a l j,Bl f (j%4))]/\(f.getD (j%4) .no).there=true/\c=(Bl f (j%4)).getD (j%4) .no /\
   ((f=j6 b m.ag (yd a l j)/\r.al=m.al)\/(∃d,zmn (yd a l j).2.2 d/\f=G3 (j6 b m.ag (yd a l j)) d/\B0 fe m.al (yd a l j)=(some d,r.al)/\((j6 b m.ag (yd a l j)).getD (j%4) .no).there=false)):=by
 have A:(yd a l j).2.2<=4:=by unfold yd;simp;omega
 have u:((j%4:Nat):Int)<(yd a l j).2.2:=by unfold yd;simp;omega
 have n:=y.known x (yd a l j);unfold BI at h;generalize yd a l j=p at *
 by_cases q:((j6 b m.ag p).getD (j%4) .no).there=true
 ·rw[if_pos q]at h;simp only[xj,S2]at h;obtain⟨rfl,rfl⟩:=h;exact⟨_,n,rfl,q,rfl,.inl ⟨rfl,rfl⟩⟩
 ·rw[if_neg q]at h;cases v:B0 fe m.al p with
  |mk o s =>
   rw[v]at h;cases o with
   |none=>simp at h
   |some d =>
    simp only[xj,S2]at h;obtain⟨rfl,rfl⟩:=h;have g:=Pn v;have e:(j6 b m.ag p).length=d.length:=by rw[n.1,g.len]
    have t:WfF p d:=⟨g.len,λk _=>⟨λw=>by rw[g.fits k]at w;simp at w,λ_=>trivial⟩⟩;refine⟨_,n.fill t,rfl,?_,rfl,.inr ⟨d,g,rfl,rfl,by simpa using q⟩⟩;rw[Ga _ _ e _ (by rw[n.1];omega)];split
    ·rename_i i;exact absurd ((n.2 (j%4) (by omega)).1 i) q
    ·rw[g.there _ (by omega)];simpa using u
def Bu (fe:σ->zb->(zb×Bool)×σ)(proved:Mm)(a:Nat):Ms σ->List (Pl×Nat)->Ms σ->Prop
 |m,[],d=>d=m
 |m,x::r,e=>∃(l:Int) (j:Nat) (c:Pc) (b:Ms σ),x=(yd a l j,j%4)/\j<qx l a/\BI fe proved a m l j=(.inr c,b)/\Bu fe proved a b r e
def Bu.nil {a:Mm}{b:Nat}(m:Ms σ):Bu fe a b m [] m:=rfl
def Bu.cons {a:Mm}{b:Nat}{m d f:Ms σ}{l:Int}{c:Pc}{r:List (Pl×Nat)}(g:j<qx l b)(e:BI fe a b m l j=(.inr c,d))(h:Bu fe a b d r f):Bu fe a b m ((yd b l j,j%4)::r) f:=⟨l,j,c,d,rfl,g,e,h⟩
def Bu.ind {b:Mm}{d:Nat}{a:(m:Ms σ)->(g:List (Pl×Nat))->(f:Ms σ)->Bu fe b d m g f->Prop}(nil:∀m,a m [] m (Bu.nil m))(cons:∀{m i n:Ms σ}{l:Int}{j:Nat}{c:Pc}{r:List (Pl×Nat)}(k:j<qx l d) (e:BI fe b d m l j=(.inr c,i)) (h:Bu fe b d i r n),a i r n h->a m ((yd d l j,j%4)::r) n (Bu.cons k e h)):∀{m:Ms σ}{g:List (Pl×Nat)}{f:Ms σ}(h:Bu fe b d m g f),a m g f h:=by
 intro m g
 induction g generalizing m with
 |nil =>
  intro f h;have e:=h;subst e;exact nil f
 |cons x r o =>
  intro f h;obtain⟨l,j,c,i,rfl,k,e,h⟩:=h;exact cons k e h (o h)
def Bu.append {c:Mm}{d:Nat}{m g i:Ms σ}{a b:List (Pl×Nat)}(h:Bu fe c d m a g)(f:Bu fe c d g b i):Bu fe c d m (a++b) i:=by
 induction h using Bu.ind with
 |nil m=>exact f
 |cons j e _ k=>exact .cons j e (k f)
def zdp {d:Mm}{b:Nat}(D:b<2^63):∀(f:Nat) (m i:Ms σ) (a n:Nat) (x:zb),a+n<=b->1<=n->n<=2^f->AE fe d b (f+1) m a n=(.inr x,i)->Bu fe d b m (jg b (f+1) a n) i:=by
 have j:∀(f:Nat) (m i:Ms σ) (a n:Nat) (x:zb),a+n<=b->1<=n->n/4^Bg n=1->AE fe d b (f+1) m a n=(.inr x,i)->Bu fe d b m (jg b (f+1) a n) i:=by
  intro f m i a n x l q g h;obtain⟨-,-,k⟩:=F7 n q (by omega);have y:=PS a n (Bg n) b l (k.1 g);rw[jg,if_pos g];cases s:BI fe d b m (Bg n:Nat) (a/4^Bg n)with
  |mk o w =>
   cases o with
   |inl e=>rw[Rv g s]at h;simp at h
   |inr c =>
    rw[OC g s]at h;simp only[xj]at h;obtain⟨-,rfl⟩:=h;exact .cons y s (.nil _)
 intro f
 induction f with
 |zero =>
  intro m i a n x l q u h;obtain rfl:n=1:=by omega
  exact j 0 m i a 1 x l (by omega) (by decide) h
 |succ f v =>
  intro m i a n x l q u h
  by_cases g:n/4^Bg n=1
  ·exact j (f+1) m i a n x l q g h
  ·have t:2<=n:=by
    rcases qf n 2 with h|h
    ·exact absurd (by
       obtain rfl:n=1:=by omega
       decide) g
    ·exact h
   obtain⟨z,A,B,C,E,F⟩:=Bo n f t u;rw[jg,if_neg g];cases p:AE fe d b (f+1) m a (yo n)with
   |mk o w =>
    cases o with
    |inl e=>rw[Ru g p]at h;simp at h
    |inr H =>
     cases r:AE fe d b (f+1) w (a+yo n) (n-yo n)with
     |mk o G =>
      cases o with
      |inl e=>rw[Ps g p r]at h;simp at h
      |inr I =>
       rw[OD g p r]at h;simp only[xj]at h;obtain⟨-,rfl⟩:=h;exact(v _ _ _ _ _ (by omega) B z p).append (v _ _ _ _ _ (by omega) C A r)
def MM {a:Mm}{b:Nat}(p:b<2^63):∀(c:List (Nat×Nat)) (m f:Ms σ) (j:za),(∀s∈c,s.1+s.2<=b/\1<=s.2)->Ax fe a b m c=(.inr j,f)->Bu fe a b m (c.flatMap λs=>jg b 64 s.1 s.2) f:=by
 intro c
 induction c with
 |nil =>
  intro m f j _ h;simp only[Ax,xj]at h;obtain⟨-,rfl⟩:=h;exact .nil _
 |cons s r q =>
  intro m f j k h;obtain⟨l,n⟩:=k s (by simp);cases d:AE fe a b 64 m s.1 s.2 with
  |mk o t =>
   cases o with
   |inl e=>rw[Pt d]at h;simp at h
   |inr w =>
    cases g:Ax fe a b t r with
    |mk o v =>
     cases o with
     |inl e=>rw[Pw d g]at h;simp at h
     |inr x =>
      rw[Pu d g]at h;simp only[xj]at h;obtain⟨-,rfl⟩:=h;rw[DO];exact(zdp p 63 _ _ _ _ _ l n (by omega) d).append (q _ _ _ (λu i=>k u (by simp[i])) g)
def GZ (f:Fl)(k i:Nat):((Bl f k).getD i .no).there=(f.getD i .no).there:=by
 rw[Fb];split<;>rfl
def Hu {p:Pl}(h:WfF p f)(a:(f.getD k .no).there=true):WfF p (Bl f k):=LU.fitsAt (λ_ _ _ _ _=>trivial) h a
def Bu.wf {a:Mm}{b:Nat}{m d:Ms σ}{o:List (Pl×Nat)}(h:Bu fe a b m o d)(k:Lb a)(c:Lb m.ag):Lb d.ag:=by
 induction h using Bu.ind with
 |nil m=>exact c
 |cons j e _ n =>
  obtain⟨f,i,g,l,-,-⟩:=Gg e k c j;exact n (by rw[g];exact c.snoc (Hu i l))
def Bu.keys {a:Mm}{c:Nat}{m k:Ms σ}{l:List (Pl×Nat)}(h:Bu fe a c m l k)(r:Lb a)(j:Lb m.ag):∀x∈k.ag,(∃y∈m.ag,y.1=x.1)\/∃q∈l,q.1=x.1:=by
 induction h using Bu.ind with
 |nil m=>exact λx d=>.inl ⟨x,d,rfl⟩
 |cons p e _ u =>
  obtain⟨f,o,g,t,-,-⟩:=Gg e r j p;intro x d;rcases u (by rw[g];exact j.snoc (Hu o t)) x d with ⟨y,b,i⟩|⟨q,s,n⟩
  ·rw[g]at b;rcases yj.1 b with b|b
   ·exact .inl ⟨y,(Mm.aJ.1 b).1,i⟩
   ·obtain rfl:=yl.1 b;exact .inr ⟨_,Dv,i⟩
  ·exact .inr ⟨q,by simp[s],n⟩
def Bu.has {a:Mm}{b:Nat}{m z:Ms σ}{I:List (Pl×Nat)}(h:Bu fe a b m I z)(L:Lb a)(F:Lb m.ag):Has z.ag I/\∀d,Has m.ag d->Has z.ag d:=by
 induction h using Bu.ind with
 |nil m=>exact⟨λx i=>by simp at i,λd t=>t⟩
 |cons K e _ P =>
  rename_i m A Q l j c r _;obtain⟨f,y,u,G,-,J⟩:=Gg e L F K;have M:Lb A.ag:=by rw[u];exact F.snoc (Hu y G)
  obtain⟨O,H⟩:=P M;have E:(Bl f (j%4)).length=4:=by rw[MG];exact y.1
  have s:Has A.ag [(yd b l j,j%4)]:=by
   intro x i;obtain rfl:=yl.1 i;refine⟨Bl f (j%4),by rw[u,Mm.aS,if_pos rfl],E,by rw[GZ];exact G,?_⟩;rw[Fb,if_pos ⟨rfl,by rw[y.1];omega⟩]
  have q:∀d,Has m.ag d->Has A.ag d:=by
   intro d t x i;obtain⟨g,C,D,n,v⟩:=t x i
   by_cases k:x.1=yd b l j
   ·refine⟨Bl f (j%4),by rw[u,Mm.aS,if_pos k],E,?_⟩;have p:j6 a m.ag (yd b l j)=g:=by unfold j6;rw[<- k,C]
    have N:x.2<4:=by
     rcases qf x.2 4 with h|h
     ·exact h
     ·rw[zj,Bc (by omega)]at n;simp[Pc.no]at n
    have o:(f.getD x.2 .no).there=true/\(f.getD x.2 .no).fits=true:=by
     rcases J with ⟨rfl,-⟩|⟨B,w,rfl,-,-⟩
     ·rw[p];exact⟨n,v⟩
     ·rw[p]at *;rw[Ga _ _ (by rw[D,w.len]) _ (by omega),if_pos v];exact⟨n,v⟩
    refine⟨by rw[GZ];exact o.1,?_⟩;rw[Fb];split
    ·rfl
    ·exact o.2
   ·exact⟨g,by rw[u,Mm.aS,if_neg k];exact C,D,n,v⟩
  refine⟨?_,λd t=>H d (q d t)⟩;intro x i;rcases jl.1 i with rfl|i
  ·exact H _ s _ (by simp)
  ·exact O x i
def Wh (a:Mm)(x:Pl×Fl):Prop:=a.get x.1=none->∀k:Nat,k<4->(k:Int)<x.1.2.2->(x.2.getD k .no).there=true
def Bu.whole {a:Mm}{o:Nat}{m E:Ms σ}{K:List (Pl×Nat)}(h:Bu fe a o m K E)(I:Lb a)(z:Lb m.ag)(B:∀x∈m.ag,Wh a x):∀x∈E.ag,Wh a x:=by
 induction h using Bu.ind with
 |nil m=>exact B
 |cons H e _ J =>
  rename_i m L M l j c r _;obtain⟨f,F,C,A,-,D⟩:=Gg e I z H;refine J (by rw[C];exact z.snoc (Hu F A)) (λx u=>?_);rw[C]at u;rcases yj.1 u with u|u
  ·exact B x (Mm.aJ.1 u).1
  ·obtain rfl:=yl.1 u;intro t k d n;rw[GZ];simp only at t n;generalize yd o l j=p at *;cases w:m.ag.get p with
   |some g =>
    have i:j6 a m.ag p=g:=by unfold j6;rw[w]
    have s:=B _ (Mm.get_mem w) t k d n;simp only at s;rcases D with ⟨rfl,-⟩|⟨v,b,rfl,-,-⟩
    ·rw[i];exact s
    ·have y:=(z.get w).1;rw[i,Ga _ _ (by rw[y,b.len]) _ (by omega)];split
     ·exact s
     ·rw[b.there k d];simpa using n
   |none =>
    have i:j6 a m.ag p=Fl.no:=by unfold j6;rw[w,t]
    rcases D with ⟨rfl,-⟩|⟨v,b,rfl,-,-⟩
    ·rw[i]at A;have:j%4<4:=TU _ (by omega);generalize j%4=q at *
     match q,this with
     |0,_|1,_|2,_|3,_=>simp[Fl.no,Pc.no]at A
    ·rw[i,Ga _ _ (by rw[b.len];rfl) _ (by show k<4;exact d)];split
     ·rename_i G
      match k,d with
      |0,_|1,_|2,_|3,_=>simp[Fl.no,Pc.no]at G
     ·rw[b.there k d];simpa using n
def Bu.last {b:Mm}{d:Nat}{m n:Ms σ}{g:List (Pl×Nat)}(h:Bu fe b d m g n)(u:Lb b)(k:Lb m.ag):g=[]\/∃(a:Mm) (x:Pl×Fl),n.ag=a++[x]/\∃q∈g,q.1=x.1:=by
 induction h using Bu.ind with
 |nil m=>exact .inl rfl
 |cons t e w z =>
  rename_i m B C l j c r;obtain⟨f,s,i,y,-,A⟩:=Gg e u k t;rcases z (by rw[i];exact k.snoc (Hu s y))with rfl|⟨a,x,o,q,v,p⟩
  ·cases w;exact .inr ⟨_,_,i,_,Dv,rfl⟩
  ·exact .inr ⟨a,x,o,q,by simp[v],p⟩
def Bu.quiet {a:Mm}{b:Nat}{m s:Ms σ}{u:List (Pl×Nat)}(h:Bu fe a b m u s)(A:Lb a)(p:Lb m.ag)(o:∀q∈u,((j6 a m.ag q.1).getD q.2 .no).there=true):s.al=m.al:=by
 induction h using Bu.ind with
 |nil m=>rfl
 |cons y e _ D =>
  rename_i m t E l j c r _;obtain⟨f,x,k,C,-,v⟩:=Gg e A p y;have h0:=o (yd b l j,j%4) (by simp);simp only at h0;rcases v with ⟨rfl,z⟩|⟨n,w,-,-,i⟩
  ·rw[D (by rw[k];exact p.snoc (Hu x C)) (λq B=>?_),z];have g:=o q (by simp[B])
   by_cases d:q.1=yd b l j
   ·have:j6 a t.ag q.1=Bl (j6 a m.ag (yd b l j)) (j%4):=by
     conv=>lhs;unfold j6
     rw[k,Mm.aS,if_pos d]
    rw[this,GZ,<- d];exact g
   ·have:j6 a t.ag q.1=j6 a m.ag q.1:=by
     unfold j6;rw[k,Mm.aS,if_neg d]
    rw[this];exact g
  ·rw[h0]at i;simp at i
end
end
end Go.Proofs.YtfdbeldiomkdiaaGreatDoor
