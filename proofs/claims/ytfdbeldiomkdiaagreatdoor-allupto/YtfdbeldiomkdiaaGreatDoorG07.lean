import Derived.Test.YtfdbeldiomkdiaaGreatDoorG06
import Derived.Shelf.Small.Wraps
import Derived.Shelf.Strconv.AtoiAll
import Derived.Shelf.Strconv.Itoa3
import Derived.Shelf.Strings.Cut
import Derived.Shelf.Strings.Split
set_option maxHeartbeats 8000000
set_option maxRecDepth 100000
set_option linter.all false
namespace Go.Proofs.YtfdbeldiomkdiaaGreatDoor
open Go.RowKit Go.Proofs.Tryz
def UH (a:zb)(f n:Nat)(v:Value)(b:List ByteArray)(w:World)(h:CT w v b):
  Calls prog 74 #[.int .i64 n,.int .i64 n,v,.bool true,AL a] w λr i=>r=.returned (.tuple #[AL (Ad [] a (f+1) n n (A0 b) true).1,AL (Ad [] a (f+1) n n (A0 b) true).2.1,.bool (Ad [] a (f+1) n n (A0 b) true).2.2])/\zc w i:=by
 rw[Ff,jd];obtain⟨c,g,rfl,-,-⟩:=h;have d:((b.length:Int)==0)=decide (b.length=0):=by
  rw[CV];simp
 have e:=ze d;clear d;unfold AL;go_enter func74,ntmps74
 go_wp2
 go_ret3
 exact⟨by rw[<- e.o];rfl,zu _ _⟩
def YR (a:zb)(f n:Nat)(v:Value)(b:List ByteArray)(w:World)(e:b.length≠1)(h:CT w v b):
  Calls prog 74 #[.int .i64 n,.int .i64 n,v,.bool false,AL a] w λr g=>r=.returned (.tuple #[AL (Ad [] a (f+1) n n (A0 b) false).1,AL (Ad [] a (f+1) n n (A0 b) false).2.1,.bool (Ad [] a (f+1) n n (A0 b) false).2.2])/\zc w g:=by
 rw[JQ _ _ _ _ _ (by rw[jd];exact e)];obtain⟨c,d,rfl,-,-⟩:=h;have i:((b.length:Int) != 1)=true:=by rw[bne_iff_ne];omega
 unfold AL;go_enter func74,ntmps74
 go_wp2
 go_ret3
 exact⟨rfl,zu _ _⟩
def WZ (a:zb)(f n:Nat)(v:Value)(d:List ByteArray)(w:World)(i:d.length=1)(h:CT w v d):
  Calls prog 74 #[.int .i64 n,.int .i64 n,v,.bool false,AL a] w λr q=>r=.returned (.tuple #[AL (Ad [] a (f+1) n n (A0 d) false).1,AL (Ad [] a (f+1) n n (A0 d) false).2.1,.bool (Ad [] a (f+1) n n (A0 d) false).2.2])/\zc w q:=by
 rw[Gn _ _ _ _ _ (by rw[jd];exact i)];obtain⟨t,rfl⟩:=List.length_eq_one_iff.1 i;obtain⟨c,k,rfl,j,e⟩:=h;rcases e with e|⟨b,g,rfl,o⟩
 ·simp at e
 have p:w.cell? ⟨b,g,none⟩=some (.string t):=o 0 (by simp);have m:Value.string t=AL t.data.toList:=by simp[AL]
 rw[m]at p;have l:(A0 [t]).headD []=t.data.toList:=rfl;rw[l];generalize t.data.toList=L at *;simp only[Cu]at *;go_enter func74,ntmps74
 go_wp2
 go_quiet (fail)
 go_wp2
 go_ret3
 exact⟨rfl,DR (zu _ _) _⟩
def WY (a:zb)(f m n:Nat)(e:m≠n)(v:Value)(d:List ByteArray)(b:Bool)(w:World)(h0:d.length=0)(h:CT w v d):
  Calls prog 74 #[.int .i64 m,.int .i64 n,v,.bool b,AL a] w λr i=>r=.returned (.tuple #[AL (Ad [] a (f+1) m n (A0 d) b).1,AL (Ad [] a (f+1) m n (A0 d) b).2.1,.bool (Ad [] a (f+1) m n (A0 d) b).2.2])/\zc w i:=by
 rw[Ig _ _ _ _ _ _ _ e (by rw[jd];exact h0)];obtain⟨c,g,rfl,-,-⟩:=h;rw[h0];have j:=yp.2 (by omega);unfold AL;go_enter func74,ntmps74
 go_wp2
 go_ret3
 exact⟨rfl,zu _ _⟩
abbrev ze2 (a:Array Value)(R:zb×zb×Bool)(w:World):Prop:=
 Calls prog 74 a w λr b=>r=.returned (.tuple #[AL R.1,AL R.2.1,.bool R.2.2])/\zc w b
def YQ (a:zb)(T:a.length<=8)(f:Nat):∀(m n:Int) (v:Value) (g:List ByteArray) (d:Bool) (w:World),1<=m->m<=n->n<=9223372036854775807->g.length<f->g.length<=1000000->(∀p∈A0 g,p.length<=8)->CT w v g ->
  ze2 #[.int .i64 m,.int .i64 n,v,.bool d,AL a] (Ad [] a f m.toNat n.toNat (A0 g) d) w:=by
 induction f with
 |zero=>exact λm n v g d w _ _ _ h=>absurd h (Am _)
 |succ f X =>
 intro m n v g d w h0 aa hn hf C H h;obtain⟨m,rfl⟩:=qc (show 0<=m by omega);obtain⟨n,rfl⟩:=qc (show 0<=n by omega);rw[zz,zz]
 by_cases G:m=n
 ·subst G;cases d with
  |true=>exact UH a f m v g w h
  |false =>
   by_cases W:g.length=1
   ·exact WZ a f m v g w W h
   ·exact YR a f m v g w W h
 by_cases O:g.length=0
 ·exact WY a f m n G v g d w O h
 unfold ze2;obtain⟨q,D⟩:∃q,g.length=q+1:=⟨g.length-1,by omega⟩;obtain⟨c,t,e,U,V⟩:=id h;obtain⟨b,B,rfl,-⟩:=V.resolve_left (λe=>O (by simp[e]));subst e;clear V;have x:=Gc (A0 g) q (by rw[jd];exact D) [];have I:(A0 g)[q]'(by rw[jd];omega)=(g[q]).data.toList:=by simp[A0]
 have s:Hid (Ad [] a (f+1) m n (A0 g) d=if m<=yo n then ((Ad [] a f m (yo n) (A0 (g.take q)) d).1,vf (Ad [] a f m (yo n) (A0 (g.take q)) d).2.1 (g[q]).data.toList,(Ad [] a f m (yo n) (A0 (g.take q)) d).2.2) else (vf (g[q]).data.toList (Ad [] a f (m-yo n) (n-yo n) (A0 (g.take q)) false).1,vf (g[q]).data.toList (Ad [] a f (m-yo n) (n-yo n) (A0 (g.take q)) false).2.1,(Ad [] a f (m-yo n) (n-yo n) (A0 (g.take q)) false).2.2)):=by
  show _=_;rw[Ad,if_neg G,if_neg (by rw[jd];exact O),x.1,x.2,<- F3,I]
 have k:Hid ((g[q]).data.toList.length<=8):=I▸H _ (ye (l:=A0 g) (n:=q) (by rw[jd];omega));rw[D]at h;have hx:=h.last D;rw[show Value.string g[q]=AL (g[q]).data.toList by simp[AL]]at hx;have ad:(g.take q).length=q:=by simp;omega
 have E:Hid (∀p∈A0 (g.take q),p.length<=8):=λp C=>H p (by rw[F3]at C;exact qa C);have F:=ze (λm n wh w (a:1<=m) (Z:m<=n) (c:n<=9223372036854775807)=>X m n (.slice (some ⟨b,B,none⟩) q t) (g.take q) wh w a Z c (by omega) (by omega) E.o);have Q:Hid (CT w (.slice (some ⟨b,B,none⟩) q t) (g.take q)):=h.take q (by omega);obtain⟨k1,k2,k3⟩:=Be n (by omega);have n1:((m:Int)==(n:Int))=false:=yp.2 (by omega);have m1:(((q:Int)+1)==0)=false:=yp.2 (by omega);have c1:(q:Int)<=(t:Int):=by omega
 have c2:(q:Int)<(q:Int)+1:=by omega
 have P:=ze T;have ab:q<=1000000:=by omega
 generalize Ad [] a (f+1) m n (A0 g) d=RR at *;rw[D];clear X h H x I hf C T;generalize (g[q]).data.toList=L at *;go_enter func74,ntmps74;go_wp2_with fail;refine(Fk n _ (by omega) (by omega)).mono ?_;rintro e w2 ⟨rfl,N⟩;subst N
 by_cases z:m<=yo n
 case' pos =>
  rw[if_pos z]at s;have A:(m:Int)<=(yo n:Int):=by omega
  have j:=ze (F.out m (yo n) d _ (by omega) (by omega) (by omega) Q.o);have u:=Xf [] a (by simp) P.o f m (yo n) (A0 (g.take q)) d E.o;rw[zz,zz]at j;generalize Ad [] a f m (yo n) (A0 (g.take q)) d=R at *
 case' neg =>
  rw[if_neg z]at s;have A:¬(m:Int)<=(yo n:Int):=by omega
  have j:=ze (F.out ((m:Int)-(yo n:Int)) ((n:Int)-(yo n:Int)) false _ (by omega) (by omega) (by omega) Q.o);have u:=Xf [] a (by simp) P.o f (m-yo n) (n-yo n) (A0 (g.take q)) false E.o;rw[show((m:Int)-(yo n:Int)).toNat=m-yo n by omega,show((n:Int)-(yo n:Int)).toNat=n-yo n by omega]at j;generalize Ad [] a f (m-yo n) (n-yo n) (A0 (g.take q)) false=R at *
 all_goals
  clear F;obtain⟨Y,S,R3⟩:=R;have r:=ze u;clear u;go_wp2_with fail;refine j.out.mono ?_;rintro e w3 ⟨rfl,J⟩;have y:=ze J;go_wp2_with fail
  first|refine(E4 S L _ r.o.2 k.o).mono ?_|refine(E4 L Y _ k.o r.o.1).mono ?_
  rintro e w4 ⟨rfl,K⟩;have i:=ze (y.o.trans (K.mono y.o.size));go_wp2_with fail
  try (refine(E4 L S _ k.o r.o.2).mono ?_;rintro e w5 ⟨rfl,M⟩;replace i:=ze (i.o.trans (M.mono i.o.size));go_wp2_with fail)
  go_ret3
  exact⟨by rw[s.o];rfl,i.o⟩
variable {ps:za}
def zkb (a b:zb)(m n:Int)(v:Value)(l:za)(w:World)(e:m<1\/n<m)(g:a.length=8)(i:b.length=8)(h:ON w v l):
  Calls prog 73 #[.int .i64 m,.int .i64 n,.agg (hv a),.agg (hv b),v] w λr o=>r=.returned (.bool false)/\zc w o:=by
 obtain⟨c,f,rfl,-,-,-⟩:=h;have p:(hv a).size=8:=by rw[BU,g]
 have k:(hv b).size=8:=by rw[BU,i]
 by_cases d:m<1
 ·go_enter func73,ntmps73
  go_wp2
  go_ret;exact⟨rfl,qg _ _ _⟩
 ·have j:n<m:=by omega
  go_enter func73,ntmps73
  go_wp2
  go_ret;exact⟨rfl,qg _ _ _⟩
def zm0 (f:Nat)(a b:zb)(m n:Int)(hm:1<=m)(D:m<=n)(hn:n<=9223372036854775807)(v:Value)(j:za)(w:World)(hf:j.length<f)(hp:j.length<=1000000)(A:a.length=8)(S:b.length=8)(h:ON w v j):
  Calls prog 73 #[.int .i64 m,.int .i64 n,.agg (hv a),.agg (hv b),v] w λr w'=>r=.returned (.bool ((Ad jh a f m.toNat n.toNat j true).2.2&&Kh (Ad jh a f m.toNat n.toNat j true).1 a&&Kh (Ad jh a f m.toNat n.toNat j true).2.1 b))/\zc w w':=by
 have H:=ze h;have C:∀p∈j,p.length=8:=by obtain⟨_,_,_,_,C,_⟩:=h;exact C
 obtain⟨c,B,rfl,-,-,-⟩:=h;have O:=ze (zls a A f m n (.slice c j.length B) j true);obtain⟨W,X⟩:=Mf jh a rfl A f m.toNat n.toNat j true C;generalize Ad jh a f m.toNat n.toNat j true=R at *;obtain⟨y,z,Z⟩:=R;obtain⟨F,G,I,J,K,L,M,N,E⟩:=MB a A;obtain⟨u0,u1,u2,u3,u4,u5,u6,u7,T⟩:=MB b S;obtain⟨x0,x1,x2,x3,x4,x5,x6,x7,U⟩:=MB y W;obtain⟨z0,z1,z2,z3,z4,z5,z6,z7,V⟩:=MB z X;have s:Hid (∀w,(binOp .eql 91 (.agg #[.int .u8 x0,.int .u8 x1,.int .u8 x2,.int .u8 x3,.int .u8 x4,.int .u8 x5,.int .u8 x6,.int .u8 x7]) (.agg #[.int .u8 F,.int .u8 G,.int .u8 I,.int .u8 J,.int .u8 K,.int .u8 L,.int .u8 M,.int .u8 N])).run prog w=.ok (.bool (Kh y a)) w):=λw=>by
  rw[<- U,<- E];exact Ln y a W A w
 have t:Hid (∀w,(binOp .eql 91 (.agg #[.int .u8 z0,.int .u8 z1,.int .u8 z2,.int .u8 z3,.int .u8 z4,.int .u8 z5,.int .u8 z6,.int .u8 z7]) (.agg #[.int .u8 u0,.int .u8 u1,.int .u8 u2,.int .u8 u3,.int .u8 u4,.int .u8 u5,.int .u8 u6,.int .u8 u7])).run prog w=.ok (.bool (Kh z b)) w):=λw=>by
  rw[<- V,<- T];exact Ln z b X S w
 have P:=ze (And.intro U V);have i1:¬m<1:=by omega
 have i2:¬n<m:=by omega
 rw[E,T];rw[E]at O;generalize Kh y a=Y at *;generalize Kh z b=E2 at *;go_enter func73,ntmps73;go_wp2_with fail;refine(O.o _ hm D hn hf hp (H.o.below (qg _ _ _))).mono ?_;rintro e x ⟨u,q⟩;rw[P.o.1,P.o.2]at u;subst u;have i:=ze ((qg _ _ _).trans (q.mono (by simp;omega)));have g0:x.heap[w.heap.size]?=some (.cells #[.int .u8 F,.int .u8 G,.int .u8 I,.int .u8 J,.int .u8 K,.int .u8 L,.int .u8 M,.int .u8 N] 91 (0,0)):=by
  rw[q.block _ (by simp;omega)];exact zr (zf _ _)
 have Q:x.heap[w.heap.size+1]?=some (.cells #[.int .u8 u0,.int .u8 u1,.int .u8 u2,.int .u8 u3,.int .u8 u4,.int .u8 u5,.int .u8 u6,.int .u8 u7] 91 (0,0)):=by
  rw[q.block _ (by simp),show w.heap.size+1=(w.alloc (.cells #[.int .u8 F,.int .u8 G,.int .u8 I,.int .u8 J,.int .u8 K,.int .u8 L,.int .u8 M,.int .u8 N] 91)).heap.size by simp];exact zf _ _
 have aa:=vk Q;have k:=λ(d g:Obj)=>Ue (zr (o:=g) (zr (o:=d) g0));have l:=λ(d g:Obj)=>Ue (zr (o:=g) (zr (o:=d) Q));have c0:=λd g=>(k d g).1;have c1:=λd g=>(k d g).2.1;have c2:=λd g=>(k d g).2.2.1;have c3:=λd g=>(k d g).2.2.2.1;have c4:=λd g=>(k d g).2.2.2.2.1;have c5:=λd g=>(k d g).2.2.2.2.2.1;have c6:=λd g=>(k d g).2.2.2.2.2.2.1;have c7:=λd g=>(k d g).2.2.2.2.2.2.2;have d0:=λd g=>(l d g).1;have d1:=λd g=>(l d g).2.1;have d2:=λd g=>(l d g).2.2.1;have d3:=λd g=>(l d g).2.2.2.1;have d4:=λd g=>(l d g).2.2.2.2.1;have d5:=λd g=>(l d g).2.2.2.2.2.1;have d6:=λd g=>(l d g).2.2.2.2.2.2.1;have d7:=λd g=>(l d g).2.2.2.2.2.2.2;cases Z with
 |false =>
  go_wp2
  go_ret;exact⟨rfl,i.o.trans ((qg x _ _).mono i.o.size)⟩
 |true =>
  have h1:=s.out;cases Y with
  |false =>
   go_wp2
   go_ret;exact⟨rfl,i.o.trans ((qg x _ _).mono i.o.size)⟩
  |true =>
   have h2:=t.out
   go_wp2
   go_ret;exact⟨rfl,i.o.trans ((qg x _ _).mono i.o.size)⟩
def P8 (f:Nat)(m n:Int)(a b:zb)(c:za):Bool:=
 if m<1\/n<m then false else (Ad jh a f m.toNat n.toNat c true).2.2&&Kh (Ad jh a f m.toNat n.toNat c true).1 a&&Kh (Ad jh a f m.toNat n.toNat c true).2.1 b
def V9 {f:Nat}{a b:zb}{m n:Int}(h:m<1\/n<m):P8 f m n a b ps=false:=by
 rw[P8,if_pos h]
def Uj {f:Nat}{a b:zb}{m n:Int}(h:¬(m<1\/n<m)):P8 f m n a b ps=((Ad jh a f m.toNat n.toNat ps true).2.2&&Kh (Ad jh a f m.toNat n.toNat ps true).1 a&&Kh (Ad jh a f m.toNat n.toNat ps true).2.1 b):=by
 rw[P8,if_neg h]
def zfs {f:Nat}{a b:zb}{m n:Int}(h:¬(m<1\/n<m)):P8 f m n a b ps=((Ad [] a f m.toNat n.toNat ps true).2.2&&Kh (Ad [] a f m.toNat n.toNat ps true).1 a&&Kh (Ad [] a f m.toNat n.toNat ps true).2.1 b):=by
 rw[Uj h];obtain⟨d,e⟩:=YW jh [] a f m.toNat n.toNat ps true;cases c:(Ad jh a f m.toNat n.toNat ps true).2.2
 ·rw[<- d,c];rfl
 ·rw[<- e c,c]
def ZB (f:Nat)(a b:zb)(m n:Int)(j:n<=9223372036854775807)(v:Value)(d:za)(w:World)(i:d.length<f)(k:d.length<=1000000)(e:a.length=8)(g:b.length=8)(h:ON w v d):
  Calls prog 73 #[.int .i64 m,.int .i64 n,.agg (hv a),.agg (hv b),v] w λr l=>r=.returned (.bool (P8 f m n a b d))/\zc w l:=by
 by_cases c:m<1\/n<m
 ·rw[V9 c];exact zkb a b m n v d w c e g h
 ·rw[Uj c];exact zm0 f a b m n (by omega) (by omega) j v d w i k e g h
def U7 (f:Nat)(a b:ByteArray)(m n:Int)(C:n<=9223372036854775807)(v:Value)(j:List ByteArray)(w:World)(A:j.length<f)(y:j.length<=1000000)(h:CT w v j):
  Calls prog 28 #[.int .i64 m,.int .i64 n,.string a,.string b,v] w λr D=>r=.returned (.bool (P8 f m n (e8 a.data.toList) (e8 b.data.toList) (j.map λs=>e8 s.data.toList)))/\zc w D:=by
 have H:=ze h;obtain⟨c,z,rfl,-,-⟩:=h;go_enter func28,ntmps28;go_wp2_with fail;refine(JF a _).mono ?_;rintro e E ⟨rfl,p⟩;have g:=ze p;go_wp2_with fail;refine(JF b _).mono ?_;rintro e F ⟨rfl,q⟩;have d:=ze (g.o.trans (q.mono g.o.size));go_wp2_with fail;refine(Q6 _ j _ y (H.o.below d.o)).mono ?_;rintro e G ⟨x,rfl,t,B⟩;have i:=ze (d.o.trans (t.mono d.o.size));have l:=ze B;go_wp2_with fail;refine(ZB f _ _ m n C x _ _ (by rw[yg];exact A) (by rw[yg];exact y) (CB _) (CB _) l.o).mono ?_;rintro e I ⟨rfl,u⟩;have k:=ze (i.o.trans (u.mono i.o.size))
 go_wp2
 go_ret;exact⟨rfl,k.o⟩
def YN (a b:zb)(m n:Int)(v:Value)(i:List ByteArray)(w:World)(e:m<1\/n<m)(h:CT w v i):
  Calls prog 29 #[.int .i64 m,.int .i64 n,AL a,AL b,v] w λr j=>r=.returned (.bool false)/\zc w j:=by
 obtain⟨c,f,rfl,-,-⟩:=h
 by_cases d:m<1
 ·go_enter func29,ntmps29
  go_wp2
  go_ret;exact⟨rfl,zu _ _⟩
 ·have g:n<m:=by omega
  go_enter func29,ntmps29
  go_wp2
  go_ret;exact⟨rfl,zu _ _⟩
def zdl (f:Nat)(a b:zb)(m n:Int)(A:1<=m)(k:m<=n)(B:n<=9223372036854775807)(v:Value)(d:List ByteArray)(w:World)(z:d.length<f)(C:d.length<=1000000)(y:a.length<=8)(x:∀p∈A0 d,p.length<=8)(h:CT w v d):
  Calls prog 29 #[.int .i64 m,.int .i64 n,AL a,AL b,v] w λr D=>r=.returned (.bool ((Ad [] a f m.toNat n.toNat (A0 d) true).2.2&&Kh (Ad [] a f m.toNat n.toNat (A0 d) true).1 a&&Kh (Ad [] a f m.toNat n.toNat (A0 d) true).2.1 b))/\zc w D:=by
 have H:=ze h;obtain⟨c,i,rfl,-,-⟩:=h;have s:=ze (YQ a y f m n (.slice c d.length i) d true);generalize Ad [] a f m.toNat n.toNat (A0 d) true=R at *;obtain⟨t,E,u⟩:=R;have F:¬m<1:=by omega
 have G:¬n<m:=by omega
 have q:=ze x;go_enter func29,ntmps29;go_wp2_with fail;refine(s.o _ A k B z C q.o H.o).mono ?_;rintro e I ⟨rfl,j⟩;have g:=ze j;cases u with
 |false =>
  go_wp2
  go_ret;exact⟨rfl,g.o⟩
 |true =>
  cases l:(t==a)with
  |false =>
   unfold AL
   go_wp2
   go_ret;exact⟨by rw[<- PI,l];rfl,g.o⟩
  |true =>
   unfold AL
   go_wp2
   go_ret;exact⟨by rw[<- PI,<- PI,l];rfl,g.o⟩
def Rq (f:Nat)(a b:zb)(m n:Int)(j:n<=9223372036854775807)(v:Value)(d:List ByteArray)(w:World)(i:d.length<f)(k:d.length<=1000000)(g:a.length<=8)(e:∀p∈A0 d,p.length<=8)(h:CT w v d):
  Calls prog 29 #[.int .i64 m,.int .i64 n,AL a,AL b,v] w λr l=>r=.returned (.bool (P8 f m n a b (A0 d)))/\zc w l:=by
 by_cases c:m<1\/n<m
 ·rw[V9 c];exact YN a b m n v d w c h
 ·rw[zfs c];exact zdl f a b m n (by omega) (by omega) j v d w i k g e h
def Uk (a b:ByteArray)(m n:Int)(D:n<=9223372036854775807)(v:Value)(e:List ByteArray)(w:World)(I:e.length<=maxLen)(G:∀s∈e,s.size<=maxLen)(h:CT w v e):
  Calls prog 7 #[.int .i64 m,.int .i64 n,.string a,.string b,v] w λr L=>r=.returned (.bool true)/\zc w L:=by
 have H:=ze h;have C:=ze I;have A:=ze G;obtain⟨c,F,rfl,-,-⟩:=h;cases d:Mn e with
 |false =>
  have p:=ze d;go_enter func7,ntmps7;go_wp2_with fail;refine(GX _ e _ C.o A.o H.o).mono ?_;rintro r M ⟨f,rfl⟩;rw[p.o]at f;subst f
  go_wp2
  go_ret;exact⟨rfl,zu _ _⟩
 |true =>
  have p:=ze d;obtain⟨J,-⟩:=JB d;go_enter func7,ntmps7;go_wp2_with fail;refine(GX _ e _ C.o A.o H.o).mono ?_;rintro r M ⟨f,rfl⟩;rw[p.o]at f;subst f;go_wp2_with fail;refine(U7 5000 a b m n D _ e _ (by omega) (by omega) H.o).mono ?_;rintro r N ⟨rfl,q⟩;have i:=ze q;go_wp2_with fail;refine(FZ a _).mono ?_;rintro r O ⟨rfl,t⟩;have j:=ze (i.o.trans (t.mono i.o.size));go_wp2_with fail;refine(FZ b _).mono ?_;rintro r P ⟨rfl,u⟩;have g:=ze (j.o.trans (u.mono j.o.size));go_wp2_with fail;refine(Qw _ e _ (by omega) (H.o.below g.o)).mono ?_;rintro r Q ⟨x,rfl,y,K⟩;have k:=ze (g.o.trans (y.mono g.o.size));have E:=ze K;go_wp2_with fail;refine(Rq 5000 (e8 a.data.toList) (e8 b.data.toList) m n D x (e.map c8) _ (by rw[yg];omega) (by rw[yg];omega) (vx (CB _)) (zg3 e) E.o).mono ?_;rintro r R ⟨f,z⟩;rw[XW]at f;subst f;have l:=ze (k.o.trans (z.mono k.o.size));generalize P8 5000 m n (e8 a.data.toList) (e8 b.data.toList) (e.map λs=>e8 s.data.toList)=B at *
  go_wp2
  go_ret;exact⟨by simp,l.o⟩
end Go.Proofs.YtfdbeldiomkdiaaGreatDoor
namespace Go.Proofs
open Go.Shelf Tryz
def Tryz.lays103_ren:Go.Shelf.Ren:=⟨fun | 103=>166 | 210=>200 | 206=>241 | n=>n,fun | 9=>9 | 4=>4 | 24=>52 | 3=>3 | n=>n,fun | n=>n⟩
def Tryz.lays103:Go.Proofs.Lays.n103 prog lays103_ren:={
 mixed:=by kernel_rfl
 f103:=kq func166 (by kernel_rfl)
 f206:=kq func241 (by kernel_rfl)
 f210:=kq func200 (by kernel_rfl)
 t3:=underlying3
 a3:=isAgg3
 z3:=sizeOf3
 v3:=zeroValue3
 t4:=underlying4
 a4:=isAgg4
 z4:=sizeOf4
 v4:=zeroValue4
 t9:=underlying9
 a9:=isAgg9
 z9:=sizeOf9
 v9:=zeroValue9
 t24:=underlying52
 a24:=isAgg52
 z24:=sizeOf52
 v24:=zeroValue52 }
def Tryz.laysM171_ren:Go.Shelf.Ren:=⟨fun | 171=>118 | 243=>165 | 246=>199 | 283=>237 | 284=>238 | 285=>239 | 286=>240 | 129=>196 | 317=>280 | 318=>281 | 319=>282 | 320=>226 | 337=>270 | 338=>271 | n=>n,fun | 3=>3 | 9=>9 | 2=>2 | 4=>4 | 171=>349 | 0=>0 | 53=>169 | 37=>94 | 5=>5 | 173=>351 | 212=>387 | 51=>225 | 20=>20 | 213=>388 | 46=>170 | 232=>403 | 233=>404 | n=>n,fun | 17=>11 | 18=>12 | 19=>13 | n=>n⟩
def Tryz.laysM171:Go.Proofs.LaysM.n171 prog laysM171_ren:={
 mixed:=by kernel_rfl
 f129:=kq func196 (by kernel_rfl)
 f171:=kq func118 (by kernel_rfl)
 f243:=kq func165 (by kernel_rfl)
 f246:=kq func199 (by kernel_rfl)
 f283:=kq func237 (by kernel_rfl)
 f284:=kq func238 (by kernel_rfl)
 f285:=kq func239 (by kernel_rfl)
 f286:=kq func240 (by kernel_rfl)
 f317:=kq func280 (by kernel_rfl)
 f318:=kq func281 (by kernel_rfl)
 f319:=kq func282 (by kernel_rfl)
 f320:=kq func226 (by kernel_rfl)
 f337:=kq func270 (by kernel_rfl)
 f338:=kq func271 (by kernel_rfl)
 t0:=underlying0
 a0:=isAgg0
 z0:=sizeOf0
 v0:=zeroValue0
 t2:=underlying2
 a2:=isAgg2
 z2:=sizeOf2
 v2:=zeroValue2
 t3:=underlying3
 a3:=isAgg3
 z3:=sizeOf3
 v3:=zeroValue3
 t4:=underlying4
 a4:=isAgg4
 z4:=sizeOf4
 v4:=zeroValue4
 t5:=underlying5
 a5:=isAgg5
 z5:=sizeOf5
 v5:=zeroValue5
 t9:=underlying9
 a9:=isAgg9
 z9:=sizeOf9
 v9:=zeroValue9
 t20:=underlying20
 a20:=isAgg20
 z20:=sizeOf20
 v20:=zeroValue20
 t37:=underlying94
 a37:=isAgg94
 z37:=sizeOf94
 v37:=zeroValue94
 t46:=underlying170
 a46:=isAgg170
 z46:=sizeOf170
 v46:=zeroValue170
 t51:=underlying225
 a51:=isAgg225
 z51:=sizeOf225
 v51:=zeroValue225
 t53:=underlying169
 a53:=isAgg169
 z53:=sizeOf169
 v53:=zeroValue169
 t171:=underlying349
 a171:=isAgg349
 z171:=sizeOf349
 v171:=zeroValue349
 t173:=underlying351
 a173:=isAgg351
 z173:=sizeOf351
 v173:=zeroValue351
 t212:=underlying387
 a212:=isAgg387
 z212:=sizeOf387
 v212:=zeroValue387
 t213:=underlying388
 a213:=isAgg388
 z213:=sizeOf388
 t232:=underlying403
 a232:=isAgg403
 z232:=sizeOf403
 v232:=zeroValue403
 t233:=underlying404
 a233:=isAgg404
 z233:=sizeOf404
 v233:=zeroValue404
 g17:=by kernel_rfl
 g18:=by kernel_rfl
 g19:=by kernel_rfl
 i0:=by kernel_rfl
 i2:=by kernel_rfl
 i3:=by kernel_rfl
 i4:=by kernel_rfl
 i5:=by kernel_rfl
 i9:=by kernel_rfl
 i20:=by kernel_rfl
 i37:=by kernel_rfl
 i46:=by kernel_rfl
 i51:=by kernel_rfl
 i53:=by kernel_rfl
 i171:=by kernel_rfl
 i173:=by kernel_rfl
 i212:=by kernel_rfl
 i232:=by kernel_rfl
 i233:=by kernel_rfl
 m17:=by kernel_rfl
 m18:=by kernel_rfl
 m19:=by kernel_rfl }
def Tryz.laysC172_ren:Go.Shelf.Ren:=⟨fun | 172=>168 | 244=>202 | 245=>171 | 247=>246 | 279=>208 | 280=>209 | 281=>210 | 282=>211 | 287=>170 | 316=>250 | 171=>118 | 205=>251 | 321=>206 | 322=>207 | 243=>165 | 246=>199 | 283=>237 | 284=>238 | 285=>239 | 286=>240 | 129=>196 | 317=>280 | 318=>281 | 319=>282 | 320=>226 | 337=>270 | 338=>271 | n=>n,fun | 9=>9 | 3=>3 | 75=>100 | 76=>268 | 4=>4 | 5=>5 | 167=>321 | 37=>94 | 0=>0 | 85=>355 | 2=>2 | 168=>323 | 53=>169 | 175=>194 | 46=>170 | 210=>360 | 127=>391 | 145=>394 | 143=>392 | 21=>21 | 171=>349 | 173=>351 | 212=>387 | 51=>225 | 20=>20 | 213=>388 | 232=>403 | 233=>404 | 80=>416 | n=>n,fun | 15=>9 | 16=>10 | 17=>11 | 18=>12 | 19=>13 | n=>n⟩
def Tryz.laysC172:Go.Proofs.LaysC.n172 prog laysC172_ren:={
 mixed:=by kernel_rfl
 f129:=kq func196 (by kernel_rfl)
 f171:=kq func118 (by kernel_rfl)
 f172:=kq func168 (by kernel_rfl)
 f205:=kq func251 (by kernel_rfl)
 f243:=kq func165 (by kernel_rfl)
 f244:=kq func202 (by kernel_rfl)
 f245:=kq func171 (by kernel_rfl)
 f246:=kq func199 (by kernel_rfl)
 f247:=kq func246 (by kernel_rfl)
 f279:=kq func208 (by kernel_rfl)
 f280:=kq func209 (by kernel_rfl)
 f281:=kq func210 (by kernel_rfl)
 f282:=kq func211 (by kernel_rfl)
 f283:=kq func237 (by kernel_rfl)
 f284:=kq func238 (by kernel_rfl)
 f285:=kq func239 (by kernel_rfl)
 f286:=kq func240 (by kernel_rfl)
 f287:=kq func170 (by kernel_rfl)
 f316:=kq func250 (by kernel_rfl)
 f317:=kq func280 (by kernel_rfl)
 f318:=kq func281 (by kernel_rfl)
 f319:=kq func282 (by kernel_rfl)
 f320:=kq func226 (by kernel_rfl)
 f321:=kq func206 (by kernel_rfl)
 f322:=kq func207 (by kernel_rfl)
 f337:=kq func270 (by kernel_rfl)
 f338:=kq func271 (by kernel_rfl)
 t0:=underlying0
 a0:=isAgg0
 z0:=sizeOf0
 v0:=zeroValue0
 t2:=underlying2
 a2:=isAgg2
 z2:=sizeOf2
 v2:=zeroValue2
 t3:=underlying3
 a3:=isAgg3
 z3:=sizeOf3
 v3:=zeroValue3
 t4:=underlying4
 a4:=isAgg4
 z4:=sizeOf4
 v4:=zeroValue4
 t5:=underlying5
 a5:=isAgg5
 z5:=sizeOf5
 v5:=zeroValue5
 t9:=underlying9
 a9:=isAgg9
 z9:=sizeOf9
 v9:=zeroValue9
 t20:=underlying20
 a20:=isAgg20
 z20:=sizeOf20
 v20:=zeroValue20
 t21:=underlying21
 a21:=isAgg21
 z21:=sizeOf21
 v21:=zeroValue21
 t37:=underlying94
 a37:=isAgg94
 z37:=sizeOf94
 v37:=zeroValue94
 t46:=underlying170
 a46:=isAgg170
 z46:=sizeOf170
 v46:=zeroValue170
 t51:=underlying225
 a51:=isAgg225
 z51:=sizeOf225
 v51:=zeroValue225
 t53:=underlying169
 a53:=isAgg169
 z53:=sizeOf169
 v53:=zeroValue169
 t75:=underlying100
 a75:=isAgg100
 z75:=sizeOf100
 v75:=zeroValue100
 t76:=underlying268
 a76:=isAgg268
 z76:=sizeOf268
 v76:=zeroValue268
 t85:=underlying355
 a85:=isAgg355
 z85:=sizeOf355
 v85:=zeroValue355
 t127:=underlying391
 a127:=isAgg391
 z127:=sizeOf391
 v127:=zeroValue391
 t143:=underlying392
 a143:=isAgg392
 z143:=sizeOf392
 v143:=zeroValue392
 t145:=underlying394
 a145:=isAgg394
 z145:=sizeOf394
 v145:=zeroValue394
 t167:=underlying321
 a167:=isAgg321
 z167:=sizeOf321
 v167:=zeroValue321
 t168:=underlying323
 a168:=isAgg323
 z168:=sizeOf323
 v168:=zeroValue323
 t171:=underlying349
 a171:=isAgg349
 z171:=sizeOf349
 v171:=zeroValue349
 t173:=underlying351
 a173:=isAgg351
 z173:=sizeOf351
 v173:=zeroValue351
 t175:=underlying194
 a175:=isAgg194
 z175:=sizeOf194
 v175:=zeroValue194
 t210:=underlying360
 a210:=isAgg360
 z210:=sizeOf360
 v210:=zeroValue360
 t212:=underlying387
 a212:=isAgg387
 z212:=sizeOf387
 v212:=zeroValue387
 t213:=underlying388
 a213:=isAgg388
 z213:=sizeOf388
 t232:=underlying403
 a232:=isAgg403
 z232:=sizeOf403
 v232:=zeroValue403
 t233:=underlying404
 a233:=isAgg404
 z233:=sizeOf404
 v233:=zeroValue404
 g15:=by kernel_rfl
 g16:=by kernel_rfl
 g17:=by kernel_rfl
 g18:=by kernel_rfl
 g19:=by kernel_rfl
 t80:=underlying416
 a80:=isAgg416
 z80:=sizeOf416
 v80:=zeroValue416
 i0:=by kernel_rfl
 i2:=by kernel_rfl
 i3:=by kernel_rfl
 i4:=by kernel_rfl
 i5:=by kernel_rfl
 i9:=by kernel_rfl
 i20:=by kernel_rfl
 i21:=by kernel_rfl
 i37:=by kernel_rfl
 i46:=by kernel_rfl
 i51:=by kernel_rfl
 i53:=by kernel_rfl
 i75:=by kernel_rfl
 i76:=by kernel_rfl
 i80:=by kernel_rfl
 i85:=by kernel_rfl
 i127:=by kernel_rfl
 i143:=by kernel_rfl
 i145:=by kernel_rfl
 i167:=by kernel_rfl
 i168:=by kernel_rfl
 i171:=by kernel_rfl
 i173:=by kernel_rfl
 i175:=by kernel_rfl
 i210:=by kernel_rfl
 i212:=by kernel_rfl
 i232:=by kernel_rfl
 i233:=by kernel_rfl
 m15:=by kernel_rfl
 m16:=by kernel_rfl
 m17:=by kernel_rfl
 m18:=by kernel_rfl
 m19:=by kernel_rfl
 c0:=by kernel_rfl
 c2:=by kernel_rfl
 c3:=by kernel_rfl
 c4:=by kernel_rfl
 c5:=by kernel_rfl
 c9:=by kernel_rfl
 c20:=by kernel_rfl
 c21:=by kernel_rfl
 c37:=by kernel_rfl
 c46:=by kernel_rfl
 c51:=by kernel_rfl
 c53:=by kernel_rfl
 c75:=by kernel_rfl
 c76:=by kernel_rfl
 c80:=by kernel_rfl
 c85:=by kernel_rfl
 c127:=by kernel_rfl
 c143:=by kernel_rfl
 c145:=by kernel_rfl
 c167:=by kernel_rfl
 c168:=by kernel_rfl
 c171:=by kernel_rfl
 c173:=by kernel_rfl
 c175:=by kernel_rfl
 c210:=by kernel_rfl
 c212:=by kernel_rfl
 c213:=by kernel_rfl
 c232:=by kernel_rfl
 c233:=by kernel_rfl }
def Tryz.lays145_ren:Go.Shelf.Ren:=⟨fun | 145=>120 | 220=>167 | 219=>201 | 217=>242 | 225=>243 | 224=>244 | 267=>245 | 266=>283 | 314=>284 | n=>n,fun | 9=>9 | 4=>4 | 59=>110 | 3=>3 | 5=>5 | 46=>170 | 146=>389 | 51=>225 | n=>n,fun | 1=>8 | n=>n⟩
def Tryz.lays145:Go.Proofs.Lays.n145 prog lays145_ren:={
 mixed:=by kernel_rfl
 f145:=kq func120 (by kernel_rfl)
 f217:=kq func242 (by kernel_rfl)
 f219:=kq func201 (by kernel_rfl)
 f220:=kq func167 (by kernel_rfl)
 f224:=kq func244 (by kernel_rfl)
 f225:=kq func243 (by kernel_rfl)
 f266:=kq func283 (by kernel_rfl)
 f267:=kq func245 (by kernel_rfl)
 f314:=kq func284 (by kernel_rfl)
 t3:=underlying3
 a3:=isAgg3
 z3:=sizeOf3
 v3:=zeroValue3
 t4:=underlying4
 a4:=isAgg4
 z4:=sizeOf4
 v4:=zeroValue4
 t5:=underlying5
 a5:=isAgg5
 z5:=sizeOf5
 v5:=zeroValue5
 t9:=underlying9
 a9:=isAgg9
 z9:=sizeOf9
 v9:=zeroValue9
 t46:=underlying170
 a46:=isAgg170
 z46:=sizeOf170
 v46:=zeroValue170
 t51:=underlying225
 a51:=isAgg225
 z51:=sizeOf225
 v51:=zeroValue225
 t59:=underlying110
 a59:=isAgg110
 z59:=sizeOf110
 v59:=zeroValue110
 t146:=underlying389
 a146:=isAgg389
 z146:=sizeOf389
 v146:=zeroValue389
 g1:=by kernel_rfl }
def Tryz.lays147_ren:Go.Shelf.Ren:=⟨fun | 147=>124 | 221=>169 | 268=>203 | 138=>204 | 143=>205 | 195=>247 | 197=>248 | 218=>249 | 219=>201 | 260=>285 | 217=>242 | 225=>243 | 224=>244 | 267=>245 | 266=>283 | 314=>284 | n=>n,fun | 9=>9 | 3=>3 | 31=>22 | 4=>4 | 0=>0 | 105=>357 | 21=>21 | 5=>5 | 46=>170 | 119=>407 | 139=>410 | 138=>409 | 146=>389 | 51=>225 | n=>n,fun | 1=>8 | 3=>14 | 4=>15 | n=>n⟩
def Tryz.lays147:Go.Proofs.Lays.n147 prog lays147_ren:={
 mixed:=by kernel_rfl
 f138:=kq func204 (by kernel_rfl)
 f143:=kq func205 (by kernel_rfl)
 f147:=kq func124 (by kernel_rfl)
 f195:=kq func247 (by kernel_rfl)
 f197:=kq func248 (by kernel_rfl)
 f217:=kq func242 (by kernel_rfl)
 f218:=kq func249 (by kernel_rfl)
 f219:=kq func201 (by kernel_rfl)
 f221:=kq func169 (by kernel_rfl)
 f224:=kq func244 (by kernel_rfl)
 f225:=kq func243 (by kernel_rfl)
 f260:=kq func285 (by kernel_rfl)
 f266:=kq func283 (by kernel_rfl)
 f267:=kq func245 (by kernel_rfl)
 f268:=kq func203 (by kernel_rfl)
 f314:=kq func284 (by kernel_rfl)
 t0:=underlying0
 a0:=isAgg0
 z0:=sizeOf0
 v0:=zeroValue0
 t3:=underlying3
 a3:=isAgg3
 z3:=sizeOf3
 v3:=zeroValue3
 t4:=underlying4
 a4:=isAgg4
 z4:=sizeOf4
 v4:=zeroValue4
 t5:=underlying5
 a5:=isAgg5
 z5:=sizeOf5
 v5:=zeroValue5
 t9:=underlying9
 a9:=isAgg9
 z9:=sizeOf9
 v9:=zeroValue9
 t21:=underlying21
 a21:=isAgg21
 z21:=sizeOf21
 v21:=zeroValue21
 t31:=underlying22
 a31:=isAgg22
 z31:=sizeOf22
 v31:=zeroValue22
 t46:=underlying170
 a46:=isAgg170
 z46:=sizeOf170
 v46:=zeroValue170
 t51:=underlying225
 a51:=isAgg225
 z51:=sizeOf225
 v51:=zeroValue225
 t105:=underlying357
 a105:=isAgg357
 z105:=sizeOf357
 v105:=zeroValue357
 t119:=underlying407
 a119:=isAgg407
 z119:=sizeOf407
 t138:=underlying409
 a138:=isAgg409
 z138:=sizeOf409
 v138:=zeroValue409
 t139:=underlying410
 a139:=isAgg410
 z139:=sizeOf410
 v139:=zeroValue410
 t146:=underlying389
 a146:=isAgg389
 z146:=sizeOf389
 v146:=zeroValue389
 g1:=by kernel_rfl
 g3:=by kernel_rfl
 g4:=by kernel_rfl }
end Go.Proofs
namespace Go.Proofs.YtfdbeldiomkdiaaGreatDoor
open Go.RowKit Go.Proofs.Tryz
variable {ps:za}
end Go.Proofs.YtfdbeldiomkdiaaGreatDoor
