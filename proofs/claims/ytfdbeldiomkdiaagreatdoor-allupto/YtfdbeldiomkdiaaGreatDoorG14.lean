import Derived.Test.YtfdbeldiomkdiaaGreatDoorG13
set_option maxHeartbeats 8000000
set_option maxRecDepth 100000
set_option linter.all false
namespace Go.Proofs.YtfdbeldiomkdiaaGreatDoor
open Go.RowKit Go.Proofs.Tryz
def Bj:=@List.find?_eq_none
def Bz:=@List.mem_flatMap
def BM:=@Nat.le_div_iff_mul_le
def BW:=@Nat.add_mul
def Cy:=@Nat.div_eq_of_lt
def CJ:=@Nat.div_le_div_right
def DA:=@List.mem_of_find?_eq_some
def DI:=@List.find?_some
def DK:=@List.range_succ
def DL:=@Nat.div_le_self
def Fi:=@Nat.lt_trichotomy
def FT:=@List.map_congr_left
def GG:=@Option.isSome_some
def KA:=@List.flatMap_append
def Mv:=@List.mem_range'_1
def Mr (w:World)(v:Value)(d:Fs):Prop:=
 ∃a e,v=.slice a d.length e/\d.length<=e/\(d=[]\/∃b c,a=some ⟨b,c,none⟩/\∀i (h:i<d.length),w.cell? ⟨b,c+i*2,none⟩=some (qy d[i].1)/\w.cell? ⟨b,c+i*2+1,none⟩=some (qy d[i].2))
def GK (a:Fs):Fs->Fs
 |[]=>a
 |f::r=>GK (if (GC a f.1).isNone then a++[f] else a) r
def ZG:Dk:={fs:=[],calls:=0,az:=0,dead:=false,once:=false,half:=false,hit:=false,au:=false}
def SZ (f:zb×zb):∀(l a:Fs),GK a (l++[f])=if (GC (GK a l) f.1).isNone then GK a l++[f] else GK a l
 |[],a=>rfl
 |x::r,a=>by
  show GK _ (r++[f])=_;rw[SZ f r]
  rfl
def QP:∀(l a:Fs),(GK a l).length<=a.length+l.length
 |[],a=>by simp[GK]
 |x::r,a=>by
  have:=QP r (if (GC a x.1).isNone then a++[x] else a);simp only[GK,xf];split at this<;>simp_all<;>omega
def JR {α:Type}(l:List α)(k:Nat)(h:k<l.length):l.take (k+1)=l.take k++[l[k]]:=by
 rw[List.take_add_one];simp[h]
def zk1 (v:Value)(l:Fs)(w:World)(hn:l.length<=1000000)(h:Mr w v l):
  Calls prog 87 #[v] w λr w'=>r=.returned (BD w.heap.size)/\zc w w'/\ym w' (λk=>w.heap.size<=k) w.heap.size {ZG with fs:=GK [] l}:=by
 obtain⟨a,ap,rfl,au,B⟩:=h;have H:=ze B;clear B;go_enter func87,ntmps87;go_wp2_with fail;have P:Hid (ym (w.alloc (.cells #[.slice none 0 0,.int .i64 0,.int .i64 0,.bool false,.bool false,.bool false,.bool false,.bool false] 144)) (λk=>w.heap.size<=k) w.heap.size {ZG with fs:=GK [] (l.take 0)}):=
  ⟨.slice none 0 0,zk _,zf _ _,⟨rfl,.inl ⟨rfl,rfl⟩⟩,λg e=>by simp[Value.ownBlock]at e⟩
 go_loopw [10] (λi wr=>∃k:Nat,k<=l.length/\i=.int .i64 k/\zc w wr/\ym wr (λk=>w.heap.size<=k) w.heap.size {ZG with fs:=GK [] (l.take k)}) (λi _=>l.length-(intOf i).toNat)
 case atStart=>exact⟨0,yk _,rfl,zi _ _,P.o⟩
 case round =>
  obtain⟨k,hk,rfl,U,W⟩:=hrel;have L:=ze U;have HD:=ze W;clear U W P
  by_cases n:k<l.length
  ·obtain⟨b,q,rfl,V⟩:∃b q,a=some ⟨b,q,none⟩/\∀i (h:i<l.length),w.cell? ⟨b,q+i*2,none⟩=some (qy l[i].1)/\w.cell? ⟨b,q+i*2+1,none⟩=some (qy l[i].2):=by
    rcases H.o with h|h
    ·rw[h]at n;simp at n
    ·exact h
   obtain⟨y0,y1⟩:=V k n;have E:Hid (GK [] (l.take (k+1))=if (GC (GK [] (l.take k)) l[k].1).isNone then GK [] (l.take k)++[l[k]] else GK [] (l.take k)):=by
    show _=_;rw[JR l k n,SZ]
   have Z:=QP (l.take k) [];rw[AM,JZ hk]at Z;simp only[jq,xk]at Z;obtain⟨⟨p,x⟩,ab⟩:∃f,l[k]=f:=⟨_,rfl⟩;rw[ab]at y0 y1 E;generalize GK [] (l.take k)=c at *;have r0:wr.cell? ⟨b,q+k*2,none⟩=some (.string ⟨p.toArray⟩):=by rw[L.o.cell (p:=⟨b,_,none⟩) (yf y0)];exact y0
   have r1:wr.cell? ⟨b,q+k*2+1,none⟩=some (.string ⟨x.toArray⟩):=by rw[L.o.cell (p:=⟨b,_,none⟩) (yf y1)];exact y1
   clear y0 y1 V ab;go_wp2_with fail;have N:Hid (zc w (wr.alloc (.cells #[.string ⟨p.toArray⟩,.string ⟨x.toArray⟩] 125))):=L.o.trans ((zi _ _).mono L.o.size);have D:Hid (ym (wr.alloc (.cells #[.string ⟨p.toArray⟩,.string ⟨x.toArray⟩] 125)) (λk=>w.heap.size<=k) w.heap.size {ZG with fs:=c}):=HD.o.stay (O1:=λ_=>False) (T:=[]) (.aa (zi _ _)) (by simp) (by simp);have R:Hid ((wr.alloc (.cells #[.string ⟨p.toArray⟩,.string ⟨x.toArray⟩] 125)).heap[wr.heap.size]?=some (.cells #[.string ⟨p.toArray⟩,.string ⟨x.toArray⟩] 125 (0,0))):=zf _ _;generalize wr.alloc (.cells #[.string ⟨p.toArray⟩,.string ⟨x.toArray⟩] 125)=wf at *;refine(Lq (λk=>w.heap.size<=k) w.heap.size {ZG with fs:=c} p wf (by show c.length<=_;omega) D.o).mono ?_;rintro e u ⟨rfl,z⟩;have y:Hid (zc w u):=N.o.trans (z.mono N.o.size);have C:=ze (D.o.stay (O1:=λ_=>False) (T:=[]) (.aa z) (by simp) (by simp));have G:u.heap[wr.heap.size]?=some (.cells #[.string ⟨p.toArray⟩,.string ⟨x.toArray⟩] 125 (0,0)):=by rw[z.block _ (zg R.o)];exact R.o
   obtain⟨q0,-⟩:=zm G 0 _ rfl;obtain⟨q1,-⟩:=zm G 1 _ rfl;clear z G r0 r1;cases e:GC c p with
   |some j =>
    have X:Ed c p=j:=by unfold Ed;rw[e]
    have s:Hid (GK [] (l.take (k+1))=c):=by
     show _=_;rw[E.o,e]
     rfl
    rw[show Ed ({ZG with fs:=c}:Dk).fs p=j from X];clear q0 q1 e X
    go_wp2
    go_round
    case rel=>exact⟨k+1,n,by go_num,y.o,by rw[s.o];exact C.o⟩
    case measure=>simp[intOf];omega
   |none =>
    have X:Ed c p=-1:=by unfold Ed;rw[e]
    have s:Hid (GK [] (l.take (k+1))=c++[(p,x)]):=by
     show _=_;rw[E.o,e]
     rfl
    rw[show Ed ({ZG with fs:=c}:Dk).fs p=-1 from X];obtain⟨i,hi,Y⟩:=zx.1 Q8;obtain⟨ae,af,ag⟩:i.zero=some (.agg #[.string ⟨#[]⟩,.string ⟨#[]⟩])/\i.size=2/\i.bytes=32:=by simpa using Y
    clear Y;have HI:=ze hi;have HZ:=ze (And.intro ae (And.intro af ag));clear hi ae af ag;obtain⟨I,hO,J,hf,K⟩:=C.o;obtain⟨c0,f0⟩:=(GW J).1;have HG:=ze K;have HF:=ze hf;have HE:=ze e;have al:Hid (∀o,(u.alloc o).drew.ownsRow 0 125 2 I c.length (vt c)):=λo=>El (w:=u) hf o;have M:Hid (∀o,(u.alloc o).drew.heap[w.heap.size]?=some (.cells (FY I {ZG with fs:=c}) 144 (0,0))):=λo=>zr (w:=u) J;have aw:∀o,(u.alloc o).cell? ⟨w.heap.size,0,none⟩=some I:=λo=>by rw[xg _ _ ⟨w.heap.size,0,none⟩ (zg J)];exact c0
    have an:Hid (∀g,I.ownBlock=some g->w.heap.size≠g):=λg K e=>by
     rcases hf.2 with ⟨rfl,-⟩|⟨g',ap,ax,rfl,-,aq,-⟩
     ·simp[Value.ownBlock]at K
     ·simp only[Value.ownBlock,zn]at K;subst K;rw[e,aq]at J;simp at J
    clear K J hf e X HD C D
    go_wp2
    go_region_law (refine AZ _ (by rfl) _ _ _ (by rfl) 0 125 i (.agg #[.string ⟨#[]⟩,.string ⟨#[]⟩]) 2 32 underlying23 HI.o HZ.o.1 HZ.o.2.1 HZ.o.2.2 rfl (by omega) I c.length (vt c) (by rfl) (al.o _) ⟨u.heap.size,0,none⟩ 1 1 [.string ⟨p.toArray⟩,.string ⟨x.toArray⟩] (by rfl) rfl (xm (zf _ _)) (by simp[Value.oneCell']) (by omega) (by unfold maxLen;omega) (by omega) (by omega) (u.heap.size+1) (by simp) ?_;intro g ar w3 A m S av;have F:w3.heap[w.heap.size]?=some (.cells (FY I {ZG with fs:=c}) 144 (0,0)):=(by rw[m.block w.heap.size (zg (M.o _)) (λe=>an.o w.heap.size e.symm rfl)];exact M.o _);obtain⟨c3,f3⟩:=(GW F).1;have ao:=ze A;have am:=ze m;have ah:=ze S;have ai:=ze F;clear A m S F)
    all_goals
     have t:=zac (O:=λk=>w.heap.size<=k) (b:=w.heap.size) (d:={ZG with fs:=c}) (p:=p) (x:=x) (w:=u) (zl.refl _ _ _) (zk _) HG.o HF.o HE.o ao.o am.o ah.o ai.o;have ad:DG c p x=c++[(p,x)]:=by unfold DG;rw[HE.o]
     have aj:=ze (y.o.trans (t.2.1.below (λ_ h=>h) y.o.size));have ak:=ze (t.2.2.mono (O':=λk=>w.heap.size<=k) (λk hk=>by
      rcases hk with h|h
      ·exact h
      ·exact zt y.o.size h.1))
     clear t
     go_wp2
     go_round
     case rel =>
      refine⟨k+1,n,by go_num,aj.o,?_⟩;have h9:=ak.o;rw[s.o];simp only[ad]at h9;exact h9
     case measure=>simp[intOf];omega
  ·obtain rfl:k=l.length:=by omega
   have Q:=HD.o;rw[jb]at Q
   go_wp2
   go_ret;exact⟨rfl,L.o,Q⟩
variable {i' l':Int}{j j0:Nat}
def SX {l i w d:Int}(h:¬AG l i w)(f:¬AG l' i' d)(g:i<=9223372036854775807)(c:i'<=9223372036854775807)(e:qz l i w=qz l' i' d):l=l'/\i=i'/\w=d:=by
 have a:=Jj h g;have b:=Jj f c;rw[e,b]at a;simp only[xj,EL]at a;exact⟨a.1.symm,a.2.1.symm,a.2.2.symm⟩
def QI {l i w:Int}:qz l i w≠CA:=by
 unfold qz;split
 ·simp[CA]
 ·unfold JG CA EO BJ;split<;>simp
def qx (l:Int)(n:Nat):Nat:=n/4^l.toNat
def Ao (a:za)(l:Int)(k:Nat):zb:=
 if l=-1 then NY (a.getD k []) else yy ((a.drop (k*4^l.toNat)).take (4^l.toNat))
def CD (c j:Nat):Nat:=min 4 (c-4*j)
def D6 (a:za)(l:Int)(j w:Nat):zb:=((List.range' (4*j) w).map (Ao a l)).flatten
def Eb (a:za)(l:Int)(c j:Nat):zb×zb:=(qz l j (CD c j),D6 a l j (CD c j))
def Lw (b:za)(l:Int)(a c:Nat):Fs:=(List.range' a ((c+3)/4-a)).map (Eb b l c)
def D2 (a:za)(L:Nat):Fs:=Lw a (-1) 0 a.length++(List.range L).flatMap λ(k:Nat)=>Lw a (k:Int) 0 (a.length/4^k)
def j8 (a:za):Fs:=D2 a 21
def IN (b:za)(a:Nat)(l:Int):Fs:=if qx l b.length=qx l a then [] else Lw b l (qx l a/4) (qx l b.length)
def UQ (b:za)(a L:Nat):Fs:=IN b a (-1)++(List.range L).flatMap λ(k:Nat)=>IN b a (k:Int)
def A9 (b:za)(a:Nat):Fs:=UQ b a 21
def zb6 (a:za)(l:Int)(b:Nat):Lw a l b 0=[]:=by simp[Lw]
def N0 {a:za}{l:Int}{c:Nat}{f:zb×zb}:f∈Lw a l j0 c↔∃j,j0<=j/\4*j<c/\f=Eb a l c j:=by
 unfold Lw;rw[yi];constructor
 ·rintro⟨j,b,rfl⟩;rw[Mv]at b;exact⟨j,b.1,by omega,rfl⟩
 ·rintro⟨j,d,e,rfl⟩;exact⟨j,by rw[Mv];omega,rfl⟩
def SH {α:Type}(f:Nat->List α)(a b:Nat)(c:a<=b)(h:∀k,a<=k->f k=[]):(List.range b).flatMap f=(List.range a).flatMap f:=by
 induction b with
 |zero =>
   obtain rfl:a=0:=by omega
   rfl
 |succ b d =>
  by_cases e:a=b+1
  ·rw[e]
  ·rw[DK,KA,d (by omega)];simp[h b (by omega)]
def Zx (a:za)(L:Nat)(h:a.length<4^L)(b:L<=21):D2 a L=j8 a:=by
 unfold j8 D2;rw[SH _ L 21 b];intro k c;rw[Cy (zq h (j2 (by omega) c))];exact zb6 _ _ _
def isL (l:Int):Prop:=-1<=l/\l<=20
def Cv {a:za}{f:zb×zb}:f∈j8 a↔∃l j,isL l/\4*j<qx l a.length/\f=Eb a l (qx l a.length) j:=by
 unfold j8 D2;rw[yj,N0,Bz];constructor
 ·rintro(⟨j,-,h,rfl⟩|⟨k,c,b⟩)
  ·exact⟨-1,j,⟨by omega,by omega⟩,by simpa[qx]using h,by simp[qx]⟩
  ·rw[N0]at b;obtain⟨j,-,h,rfl⟩:=b;rw[CH]at c;exact⟨k,j,⟨by omega,by omega⟩,by simpa[qx]using h,by simp[qx]⟩
 ·rintro⟨l,j,⟨d,g⟩,h,rfl⟩
  by_cases e:l=-1
  ·subst e;exact .inl ⟨j,yk _,by simpa[qx]using h,by simp[qx]⟩
  ·obtain⟨k,rfl⟩:=qc (show 0<=l by omega);exact .inr ⟨k,CH.2 (by omega),N0.2 ⟨j,yk _,by simpa[qx]using h,by simp[qx]⟩⟩
def Wr {b:za}{a:Nat}{f:zb×zb}:f∈A9 b a↔∃l j,isL l/\qx l b.length≠qx l a/\qx l a/4<=j/\4*j<qx l b.length/\f=Eb b l (qx l b.length) j:=by
 have c:∀l,f∈IN b a l↔∃j,qx l b.length≠qx l a/\qx l a/4<=j/\4*j<qx l b.length/\f=Eb b l (qx l b.length) j:=by
  intro l;unfold IN;split
  ·rename_i e;simp[e]
  ·rename_i e;rw[N0];simp[e]
 unfold A9 UQ;rw[yj,c,Bz];constructor
 ·rintro(⟨j,h⟩|⟨k,g,d⟩)
  ·exact⟨-1,j,⟨by omega,by omega⟩,h⟩
  ·rw[c]at d;obtain⟨j,h⟩:=d;rw[CH]at g;exact⟨k,j,⟨by omega,by omega⟩,h⟩
 ·rintro⟨l,j,⟨i,m⟩,h⟩
  by_cases e:l=-1
  ·subst e;exact .inl ⟨j,h⟩
  ·obtain⟨k,rfl⟩:=qc (show 0<=l by omega);exact .inr ⟨k,CH.2 (by omega),(c _).2 ⟨j,h⟩⟩
def zeb {b:za}{a:Nat}:∀f∈A9 b a,f∈j8 b:=by
 intro f g;obtain⟨l,j,c,-,-,d,e⟩:=Wr.1 g;exact Cv.2 ⟨l,j,c,d,e⟩
def RD {α:Type}(c:List α)(p a b:Nat)(h:a+b<=p):((c.take p).drop a).take b=(c.drop a).take b:=by
 apply List.ext_getElem?;intro i;simp only[qi,BT];split
 ·rw[if_pos (by omega)]
 ·rfl
def Yg (b:za)(l:Int)(p k:Nat)(h:k<qx l p):Ao (b.take p) l k=Ao b l k:=by
 unfold Ao;split
 ·rename_i e;subst e;have:k<p:=by simpa[qx]using h
  rw[zj,zj,qi,if_pos this]
 ·unfold qx at h;have a:0<4^l.toNat:=jp (by omega);have c:(k+1)*4^l.toNat<=p:=(BM a).1 h;rw[RD];rw[BW]at c;omega
def Qz (a:za)(l:Int)(p c b j:Nat)(e:CD b j=CD c j)(h:4*j+CD c j<=qx l p):Eb (a.take p) l b j=Eb a l c j:=by
 unfold Eb;rw[e];refine Prod.ext rfl ?_;show D6 _ _ _ _=D6 _ _ _ _;unfold D6;congr 1;refine FT λk d=>?_;rw[Mv]at d;exact Yg a l p k (by omega)
def Z0 {c:za}{a:Nat}(m:a<=c.length):∀f∈j8 c,f∈A9 c a\/f∈j8 (c.take a):=by
 intro f h;obtain⟨l,j,d,g,rfl⟩:=Cv.1 h;have b:(c.take a).length=a:=by rw[AM];omega
 have k:qx l a<=qx l c.length:=CJ m
 by_cases e:qx l c.length=qx l a
 ·refine .inr (Cv.2 ⟨l,j,d,by rw[b];omega,?_⟩);rw[b,Qz c l a (qx l c.length) (qx l a) j (by rw[e]) (by unfold CD;omega)]
 ·by_cases i:qx l a/4<=j
  ·exact .inl (Wr.2 ⟨l,j,d,e,i,g,rfl⟩)
  ·refine .inr (Cv.2 ⟨l,j,d,by rw[b];omega,?_⟩);rw[b,Qz c l a (qx l c.length) (qx l a) j (by unfold CD;omega) (by unfold CD;omega)]
def IY (l:Int)(n:Nat):qx l n<=n:=DL _ _
def JD {l:Int}{c:Nat}(h:isL l)(a:4*j<c):¬AG l j (CD c j):=by
 unfold AG CD isL at *;omega
def TN {c:za}(r:c.length<=1000000):zan (j8 c):=by
 refine⟨λq x y g k=>?_,λx g=>?_⟩
 ·obtain⟨l,j,h,i,e⟩:=Cv.1 g;obtain⟨n,m,d,f,a⟩:=Cv.1 k;have b:=IY l c.length;have o:=IY n c.length;unfold Eb at e a;simp only[xj]at e a;obtain⟨rfl,p,-⟩:=SX (JD h i) (JD d f) (by omega) (by omega) (e.1.symm.trans a.1);obtain rfl:j=m:=by omega
  rw[e.2,a.2]
 ·obtain⟨l,j,h,i,e⟩:=Cv.1 g;unfold Eb at e;simp only[xj]at e;exact QI e.1.symm
variable {R S p1 p2:zb}{e1 e2:Int}{i k m1 m2:Nat}{s1:za}
abbrev Lk:=zb->Option (zb)
def Df (lk:Lk)(j w:Nat):Option (za):=match lk (qz (-1) j w)with
 |some d=>(match DV d with|some a=>if a.length=w then some a else none|none=>none)
 |none=>none
def E3 (lk:Lk)(n:Nat):Nat->Option (za)
 |0=>some []
 |k+1=>match E3 lk n k with
  |some d=>(Df lk k (CD n k)).map (d++·)
  |none=>none
def Hr {b:Lk}{w:Nat}{a:za}(h:Df b j w=some a):a.length=w/\(b (qz (-1) j w)).isSome:=by
 unfold Df at h;cases e:b (qz (-1) j w)with
 |none=>rw[e]at h;simp at h
 |some d =>
  rw[e]at h;simp only at h;cases c:DV d with
  |none=>rw[c]at h;simp at h
  |some x =>
   rw[c]at h;simp only at h;split at h
   ·obtain rfl:x=a:=by simpa using h
    exact⟨by assumption,rfl⟩
   ·simp at h
def LL {a:Lk}{n:Nat}:∀{k:Nat}{d:za},E3 a n k=some d->4*k<n+4->d.length=min (4*k) n
 |0,d,h,_=>by
  obtain rfl:[]=d:=by simpa[E3]using h
  simp
 |k+1,d,h,i=>by
  unfold E3 at h;cases e:E3 a n k with
  |none=>rw[e]at h;simp at h
  |some x =>
   rw[e]at h;obtain⟨b,g,rfl⟩:=zx.1 h;have c:=LL e (by omega);have f:=(Hr g).1;rw[zw,c,f];unfold CD;omega
def zaa {a:Lk}{n:Nat}:∀{k:Nat}{d:za},E3 a n k=some d->∀j,j<k->(a (qz (-1) j (CD n j))).isSome
 |0,d,_,j,f=>absurd f (Am _)
 |k+1,d,h,j,f=>by
  unfold E3 at h;cases e:E3 a n k with
  |none=>rw[e]at h;simp at h
  |some x =>
   rw[e]at h;obtain⟨b,g,rfl⟩:=zx.1 h;rcases qf j k with c|c
   ·exact zaa e j c
   ·obtain rfl:j=k:=by omega
    exact(Hr g).2
def PR {a:Lk}{n:Nat}(h:E3 a n k=none):∀m,k<=m->E3 a n m=none:=by
 intro m c
 induction m with
 |zero =>
   obtain rfl:k=0:=by omega
   exact h
 |succ m b =>
  by_cases e:k=m+1
  ·rw[<- e];exact h
  ·unfold E3;rw[b (by omega)]
def RY (a:Lk)(i hv:Nat):Option Nat:=[4,3,2,1].find? λw=>decide (hv<w)&&(a (qz (-1) i (w:Nat))).isSome
def Cb (lk:Lk)(d:za):za×Bool:=match RY lk (d.length/4) (d.length%4)with
 |none=>([],false)
 |some w=>match Df lk (d.length/4) w with
  |none=>([],false)
  |some e=>if e.take (d.length%4)=d.drop (4*(d.length/4)) then (e.drop (d.length%4),decide (w=4)) else ([],false)
def CQ (a:Lk)(d:za):Nat->za
 |0=>d
 |k+1=>CQ a d k++(Cb a (CQ a d k)).1
def GD (a:Lk)(d b:za):Prop:=∃k,(∀i,i<k->(Cb a (CQ a d i)).2=true)/\(Cb a (CQ a d k)).2=false/\b=CQ a d (k+1)
def GD.unique {g:Lk}{d a b:za}(h:GD g d a)(j:GD g d b):a=b:=by
 obtain⟨k,l,f,rfl⟩:=h;obtain⟨m,i,c,rfl⟩:=j;rcases Fi k m with e|rfl|e
 ·rw[i k e]at f;simp at f
 ·rfl
 ·rw[l m e]at c;simp at c
def RS {b:Lk}{hv w:Nat}(h:RY b i hv=some w):hv<w/\w<=4/\(b (qz (-1) i w)).isSome:=by
 unfold RY at h;have a:=DI h;have c:=DA h;simp only[A3,ja]at a;refine⟨a.1,?_,a.2⟩;simp at c;omega
def T9 {lk:Lk}{d:za}:(Cb lk d).1.length<=4-d.length%4/\((Cb lk d).2=true->(Cb lk d).1.length=4-d.length%4)/\(0<(Cb lk d).1.length->∃w:Nat,1<=w/\w<=4/\(lk (qz (-1) (d.length/4:Nat) w)).isSome):=by
 unfold Cb;cases e:RY lk (d.length/4) (d.length%4)with
 |none=>simp
 |some w =>
  obtain⟨g,b,c⟩:=RS e;simp only;cases a:Df lk (d.length/4) w with
  |none=>simp
  |some x =>
   have f:=(Hr a).1;simp only;split
   ·simp only[vi,f,ja];exact⟨by omega,λh=>by omega,λ_=>⟨w,by omega,b,c⟩⟩
   ·simp
def Vm {a:Lk}{d:za}:∀{k:Nat},(∀i,i<k->(Cb a (CQ a d i)).2=true)->(k=0/\CQ a d k=d)\/(0<k/\(CQ a d k).length=4*(d.length/4+k))
 |0,_=>.inl ⟨rfl,rfl⟩
 |k+1,h=>by
  refine .inr ⟨by omega,?_⟩;have h0:=T9 (lk:=a) (d:=CQ a d k);have b:=h0.2.1 (h k (by omega));have c:(CQ a d (k+1)).length=(CQ a d k).length+(Cb a (CQ a d k)).1.length:=by
   rw[CQ,zw]
  rw[c];rcases Vm (k:=k) (λi g=>h i (by omega))with ⟨rfl,e⟩|⟨f,e⟩
  ·rw[e]at b ⊢;omega
  ·rw[b,e];omega
def KR (b:Lk)(a:zb)(n:Nat)(R:zb):Prop:=(b CA=none/\n=0/\R=hash [])\/∃t,b CA=some t/\vq t a n R
def Io (b:Lk)(c:zb)(a:Int)(p:zb)(e:za)(m:Nat):Prop:=
 ((∃t,b CA=some t/\∀n R,¬vq t c n R)/\a=3/\p=[]/\e=[]/\m=0) \/
 ∃n R,KR b c n R /\
  ((∃k d,4*k<n/\E3 b n k=some d/\Df b k (CD n k)=none/\a=6/\p=qz (-1) k (CD n k)/\e=[]/\m=0) \/
   (∃d,E3 b n ((n+3)/4)=some d/\((yy d≠R/\a=5/\p=[]/\e=[]/\m=0)\/(yy d=R/\GD b d e/\a=0/\p=[]/\m=n))))
def KR.inj {d:Lk}{b:zb}{n m:Nat}(h:KR d b n R)(c:KR d b m S):n=m/\R=S:=by
 rcases h with ⟨e,rfl,rfl⟩|⟨t,e,h⟩<;>rcases c with ⟨a,rfl,rfl⟩|⟨f,a,c⟩
 ·exact⟨rfl,rfl⟩
 ·rw[e]at a;simp at a
 ·rw[e]at a;simp at a
 ·rw[e]at a;obtain rfl:t=f:=by simpa using a
  exact h.inj c
def Io.unique {j:Lk}{f:zb}{w:za}(h:Io j f e1 p1 s1 m1)(c:Io j f e2 p2 w m2):e1=e2/\p1=p2/\s1=w/\m1=m2:=by
 have v:∀{n:Nat}{R:zb},(∃t,j CA=some t/\∀n R,¬vq t f n R)->¬KR j f n R:=by
  rintro n R ⟨t,e,C⟩ (⟨l,-⟩|⟨D,l,c⟩)
  ·rw[e]at l;simp at l
  ·rw[e]at l;obtain rfl:t=D:=by simpa using l
   exact C _ _ c
 have b:∀{n k:Nat}{d:za},E3 j n k=some d->Df j k (CD n k)=none->E3 j n (k+1)=none:=by
  intro n k d y z;unfold E3;rw[y,z]
  rfl
 rcases h with ⟨h,rfl,rfl,rfl,rfl⟩|⟨n,R,s,h⟩<;>rcases c with ⟨c,rfl,rfl,rfl,rfl⟩|⟨G,E,o,c⟩
 ·exact⟨rfl,rfl,rfl,rfl⟩
 ·exact absurd o (v h)
 ·exact absurd s (v c)
 ·obtain⟨rfl,rfl⟩:=s.inj o;rcases h with ⟨k,d,F,i,r,rfl,rfl,rfl,rfl⟩|⟨d,i,h⟩<;>rcases c with ⟨u,q,B,a,m,rfl,rfl,rfl,rfl⟩|⟨q,a,c⟩
  ·have g:=b i r;have x:=b a m;rcases Fi k u with e|rfl|e
   ·rw[PR g u (by omega)]at a;simp at a
   ·exact⟨rfl,rfl,rfl,rfl⟩
   ·rw[PR x k (by omega)]at i;simp at i
  ·rw[PR (b i r) _ (by omega)]at a;simp at a
  ·rw[PR (b a m) _ (by omega)]at i;simp at i
  ·rw[i]at a;obtain rfl:d=q:=by simpa using a
   rcases h with ⟨h,rfl,rfl,rfl,rfl⟩|⟨h,A,rfl,rfl,rfl⟩<;>rcases c with ⟨c,rfl,rfl,rfl,rfl⟩|⟨c,p,rfl,rfl,rfl⟩
   ·exact⟨rfl,rfl,rfl,rfl⟩
   ·exact absurd c h
   ·exact absurd h c
   ·exact⟨rfl,rfl,A.unique p,rfl⟩
def IS (a:Lk)(s:List Nat):Prop:=∀j w:Nat,1<=w->w<=4->(a (qz (-1) j w)).isSome->j∈s
def Kv {b:Lk}{n:Nat}{d:za}{s:List Nat}(c:IS b s)(h:E3 b n k=some d)(e:4*k<n+4):k<=s.length/\∀j,j<k->j∈s:=by
 have a:∀j,j<k->j∈s:=λj a=>c j (CD n j) (by unfold CD;omega) (by unfold CD;omega) (zaa h j a);exact⟨Kq k s a,a⟩
def zme {a:Lk}{d:za}{s:List Nat}(m:IS a s)(h0:∀j,4*j<d.length->j∈s):∀{k:Nat},(∀i,i<k->(Cb a (CQ a d i)).2=true)->∀j,4*j<(CQ a d k).length+(Cb a (CQ a d k)).1.length->j∈s:=by
 have one:∀e:za,(∀j,4*j<e.length->j∈s)->∀j,4*j<e.length+(Cb a e).1.length->j∈s:=by
  intro e l j b;have h:=T9 (lk:=a) (d:=e)
  by_cases g:4*j<e.length
  ·exact l j g
  ·obtain⟨w,c,f,n⟩:=h.2.2 (by omega);obtain rfl:j=e.length/4:=by omega
   exact m _ w c f n
 intro k
 induction k with
 |zero=>exact λ_=>one d h0
 |succ k o =>
  intro h;refine one _ λj b=>?_;rw[CQ,zw]at b;exact o (λi p=>h i (by omega)) j b
def Ql {a:Lk}{d:za}{s:List Nat}(c:IS a s)(h0:∀j,4*j<d.length->j∈s)(h:∀i,i<k->(Cb a (CQ a d i)).2=true):(CQ a d k).length+(Cb a (CQ a d k)).1.length<=4*s.length/\k<=s.length:=by
 have b:=zme c h0 h;have g:=Kq (((CQ a d k).length+(Cb a (CQ a d k)).1.length+3)/4) s (λj f=>b j (by omega));refine⟨by omega,?_⟩;rcases Vm h with ⟨e,-⟩|⟨-,e⟩<;>omega
variable {v:Value}{w w':World}
def Mr.below {f:Fs}(h:Mr w v f)(g:zc w w'):Mr w' v f:=by
 obtain⟨a,c,e,j,h|⟨b,d,m,o⟩⟩:=h
 ·exact⟨a,c,e,j,.inl h⟩
 ·refine⟨a,c,e,j,.inr ⟨b,d,m,λi n=>?_⟩⟩;obtain⟨k,l⟩:=o i n;exact⟨by rw[g.cell (p:=⟨b,_,none⟩) (yf k)];exact k,by rw[g.cell (p:=⟨b,_,none⟩) (yf l)];exact l⟩
def AF (v:Value)(c:Fs)(q:zb)(w:World)(G:c.length<=1000000000)(h:Mr w v c):
  Calls prog 99 #[v,qy q] w λr E=>r=.returned (.int .i64 (Ed c q))/\E=w:=by
 obtain⟨a,B,rfl,y,n⟩:=h;have H:=ze n;unfold qy;go_enter func99,ntmps99
 go_wp2
 go_loop [5] (λi=>∃k:Nat,k<=c.length/\i=.int .i64 k/\∀j (l:j<c.length),j<k->c[j].1≠q) (λi=>c.length-(intOf i).toNat)
 case atStart=>exact⟨0,yk _,rfl,λj l h=>by omega⟩
 case round =>
  obtain⟨k,F,rfl,x⟩:=hrel;have s:=ze x
  by_cases d:k<c.length
  ·obtain⟨b,e,rfl,m⟩:∃b e,a=some ⟨b,e,none⟩/\∀i (h:i<c.length),w.cell? ⟨b,e+i*2,none⟩=some (qy c[i].1)/\w.cell? ⟨b,e+i*2+1,none⟩=some (qy c[i].2):=by
    rcases H.o with h|h
    ·rw[h]at d;simp at d
    ·exact h
   obtain⟨z,-⟩:=m k d;unfold qy at z;clear m
   by_cases g:c[k].1=q
   ·have A:Hid (GC c q=some k):=Ys d g (λj l=>s.o j (by omega) l);rw[g]at z;clear g s
    go_wp2
    go_ret;exact⟨by unfold Ed;rw[A.o];rfl,rfl⟩
   ·have t:Hid (∀j (l:j<c.length),j<k+1->c[j].1≠q):=λj u D=>by
     rcases qf j k with h|h
     ·exact s.o j u h
     ·obtain rfl:j=k:=by omega
      exact g
    generalize c[k].1=p at *;go_wp2_with fail
    ·first
      |(rename_i h _;exact absurd (by simpa using h) g)
      |(rename_i h _ _;exact absurd (by simpa using h) g)
      |(rename_i h _ _ _;exact absurd (by simpa using h) g)
    ·go_round
     case rel=>exact⟨k+1,by omega,by go_num,t.o⟩
     case measure=>simp[intOf];omega
  ·go_wp2
   go_ret;refine⟨?_,rfl⟩;have:=Je (λf C=>by
    obtain⟨j,l,rfl⟩:=ji C;exact s.o j l (by omega))
   unfold Ed;rw[this]
   rfl
def Kw (v:Value)(l:Fs)(j i:Nat)(w:World)(hn:l.length<=1000000000)(hl:∀f∈l,f.2.length<=1048576)(hj:j<=1000000)(h:Mr w v l):
  Calls prog 141 #[v,.int .i64 j,.int .i64 i] w λr Z=>zc w Z/\∃a n u,r=.returned (.tuple #[.slice a n u,.bool (Df (xr l) j i).isSome])/\∀g,Df (xr l) j i=some g->g.length=i/\CT Z (.slice a n u) (g.map tb):=by
 have HF:=ze h;have HL:=ze hl;obtain⟨a,u,rfl,W,-⟩:=h;go_enter func141,ntmps141;go_wp2_with fail;refine(C5 (-1) j i (by omega) w).mono ?_;rintro r w1 ⟨rfl,D⟩;have s:=ze D;have C:=ze (HF.o.below D);have B:Hid (Df (xr l) j i=match xr l (qz (-1) j i)with
  |some d=>(match DV d with|some g=>if g.length=i then some g else none|none=>none)
  |none=>none):=rfl
 generalize qz (-1) (j:Int) (i:Int)=L at *;go_wp2_with fail;refine(AF _ l L w1 hn C.o).mono ?_;rintro r T ⟨rfl,rfl⟩;cases e:GC l L with
 |none =>
  have I:Ed l L=-1:=by unfold Ed;rw[e]
  rw[I];have U:Hid (Df (xr l) j i=none):=by
   show _=_;rw[B.o,(Bm e).1]
  go_wp2
  go_ret2
  exact⟨s.o,_,_,_,by rw[U.o];rfl,λg h=>by rw[U.o]at h;simp at h⟩
 |some k =>
  have I:Ed l L=k:=by unfold Ed;rw[e]
  rw[I];obtain⟨J,-,H,-⟩:=Bn e;obtain⟨a',V,F,Q,q⟩:=C.o;simp only[jk,IJ]at F;obtain⟨rfl,rfl⟩:=F;obtain⟨b,p,rfl,E⟩:∃b p,a=some ⟨b,p,none⟩/\∀i (h:i<l.length),T.cell? ⟨b,p+i*2,none⟩=some (qy l[i].1)/\T.cell? ⟨b,p+i*2+1,none⟩=some (qy l[i].2):=by
   rcases q with h|h
   ·rw[h]at J;simp at J
   ·exact h
  obtain⟨-,y1⟩:=E k J;unfold qy at y1;have G:=HL.o _ (ye J);have M:=ze H;clear E q e I H;generalize l[k].2=x at *;go_wp2_with fail;refine(MK ⟨x.toArray⟩ T (by simpa[ByteArray.size]using G)).mono ?_;rintro r w3 ⟨y,rfl,P,X⟩;obtain⟨ya,yc,rfl,-⟩:=id X;have t:=ze (s.o.trans (P.mono s.o.size));have A:=ze X;have c:Hid (Df (xr l) j i=match DV x with|some g=>if g.length=i then some g else none|none=>none):=by
   show _=_;rw[B.o,M.o]
  have S:(⟨x.toArray⟩:ByteArray).data.toList=x:=rfl;rw[S]at A ⊢;cases Y:DV x with
  |none =>
   rw[Y]at c A
   go_wp2
   go_ret2
   exact⟨t.o,_,_,_,by rw[c.o];rfl,λg h=>by rw[c.o]at h;simp at h⟩
  |some g =>
   rw[Y]at c A;have R:(List.map tb ((some g).getD [])).length=g.length:=by simp
   rw[R]at A ⊢
   by_cases K:g.length=i
   ·have m:Hid (Df (xr l) j i=some g):=by
     show _=_;rw[c.o];simp[K]
    rw[K]at A ⊢;have HW:=ze K
    go_wp2
    go_ret2
    refine⟨t.o,_,_,_,by rw[m.o];rfl,λO h=>?_⟩;rw[m.o]at h;obtain rfl:g=O:=by simpa using h
    exact⟨HW.o,A.o⟩
   ·have m:Hid (Df (xr l) j i=none):=by
     show _=_;rw[c.o];simp[K]
    have N:Hid (((g.length:Int)==(i:Int))=false):=by
     show _=_;simp only[yp,ne_eq];omega
    go_wp2
    go_ret2
    exact⟨t.o,_,_,_,by rw[m.o];exact congrArg (λz=>Ending.returned (.tuple #[.slice ya g.length yc,.bool z])) N.o,λg h=>by rw[m.o]at h;simp at h⟩
variable {B B':Nat}{O:Nat->Prop}{T:List Nat}{W:World}{d:Dk}{l:zb}{lk:Lk}
def Bq.rest (h:Bq w v l):zas w v l:=by
 obtain⟨g,a,C,f,rfl,e,c,b⟩:=h;refine⟨⟨g,0,none⟩,a,rfl,e,rfl,λi d=>?_⟩;show w.cell? ⟨g,0+i,none⟩=_;rw[xk,xe _ _ _ _ _ _ c];exact b i d
def Ia {y:Value}{b:za}(h:KB w B y b):∃a c,y=.slice a b.length c:=by
 obtain⟨k,j,-⟩:=h;rcases j.2 with ⟨e,i⟩|⟨g,d,f,e,_⟩
 ·exact⟨none,0,by rw[e,i]⟩
 ·exact⟨_,_,e⟩
def X1 (w:World):
  Calls prog 81 #[.slice none 0 0] w λr a=>r=.returned (.tuple #[.slice none 0 0,.bool false])/\a=w:=by
 go_enter func81,ntmps81;go_wp2_with fail;refine FB 1 ?_;rw[vu]
 go_wp2
 go_ret2
 exact⟨rfl,rfl⟩
def J7 (x:Option (zb))(w:Nat):Option (za):=match x with
 |some d=>(match DV d with|some a=>if a.length=w then some a else none|none=>none)
 |none=>none
def JY (w:World)(v:Value)(x:Option (zb)):Prop:=(∃d,x=some d/\Bq w v d)\/(x=none/\v=.slice none 0 0)
def OJ (n:Nat)(v:Value)(x:Option (zb))(w:World)(h:JY w v x):
  Calls prog 173 #[.int .i64 n,v] w λr l=>zc w l/\((∃b y,J7 x n=some b/\r=.returned (.tuple #[y,.bool true])/\KB l w.heap.size y b)\/(J7 x n=none/\r=.returned (.tuple #[.slice none 0 0,.bool false]))):=by
 rcases h with ⟨d,rfl,q⟩|⟨rfl,rfl⟩
 ·have p:=ze q;go_enter func173,ntmps173;go_wp2_with fail;refine(zai v d w p.o.rest).mono ?_;rintro r t ⟨y,rfl,j,g⟩;have i:=ze j;cases e:DV d with
  |none =>
   have f:Hid (J7 (some d) n=none):=by show J7 (some d) n=none;unfold J7;simp only[e]
   obtain⟨a,c,rfl⟩:=Ia g
   go_wp2
   go_ret2
   exact⟨i.o,.inr ⟨f.o,rfl⟩⟩
  |some b =>
   rw[e]at g;simp only[AX,GG]at g ⊢;obtain⟨a,c,rfl⟩:=Ia g;have m:=ze g
   by_cases k:b.length=n
   ·have f:Hid (J7 (some d) n=some b):=by show J7 (some d) n=_;unfold J7;simp only[e,if_pos k]
    have s:((b.length:Int)==(n:Int))=true:=by rw[CY];omega
    clear e k
    go_wp2
    go_ret2
    exact⟨i.o,.inl ⟨b,_,f.o,rfl,m.o⟩⟩
   ·have f:Hid (J7 (some d) n=none):=by show J7 (some d) n=_;unfold J7;simp only[e,if_neg k]
    have s:((b.length:Int)==(n:Int))=false:=by rw[yp];omega
    go_wp2
    go_ret2
    exact⟨i.o,.inr ⟨f.o,rfl⟩⟩
 ·go_enter func173,ntmps173;go_wp2_with fail;refine(X1 w).mono ?_;rintro r t ⟨rfl,rfl⟩
  go_wp2
  go_ret2
  exact⟨zu _ _,.inr ⟨rfl,rfl⟩⟩
def zjz (a:Lk)(j w:Nat):J7 (a (qz (-1) j w)) w=Df a j w:=rfl
def Yq {p:zb}(c:Jy d=false)(h:(Jy d=false/\∃x,xr d.fs p=some x/\Bq w v x)\/((Jy d=true\/xr d.fs p=none)/\v=.slice none 0 0)):JY w v (xr d.fs p):=by
 rcases h with ⟨-,x,a,b⟩|⟨a,b⟩
 ·exact .inl ⟨x,a,b⟩
 ·rcases a with a|a
  ·rw[c]at a;simp at a
  ·exact .inr ⟨a,b⟩
def Kk {x:Option (zb)}(h:JY w v x):(x=none/\v=.slice none 0 0)\/∃d g n c,x=some d/\v=.slice (some g) n c:=by
 rcases h with ⟨d,e,g,a,C,i,rfl,-⟩|⟨b,f⟩
 ·exact .inr ⟨d,_,_,_,e,rfl⟩
 ·exact .inl ⟨b,f⟩
def DW.aj (h:DW W)(a:zc W w)(c:zl O T w w')(b:∀k,O k->W.heap.size<=k):DW w'/\zc W w':=by
 have:=a.trans (c.below b a.size);exact⟨h.below this,this⟩
def zoc (f:Nat->Bool)(hv k:Nat)(b:hv<k)(d:k<=4)(c:f k=true)(a:∀j:Nat,k<j->j<=4->hv<j->f j=false):[4,3,2,1].find? (λw=>decide (hv<w)&&f w)=some k:=by
 have e:k=4\/k=3\/k=2\/k=1:=by omega
 rcases e with rfl|rfl|rfl|rfl
 ·simp[List.find?,b,c]
 ·simp[List.find?,b,c,a 4 (by omega) (by omega) (by omega)]
 ·simp[List.find?,b,c,a 3 (by omega) (by omega) (by omega),a 4 (by omega) (by omega) (by omega)]
 ·simp[List.find?,b,c,a 2 (by omega) (by omega) (by omega),a 3 (by omega) (by omega) (by omega),a 4 (by omega) (by omega) (by omega)]
def zgc (f:Nat->Bool)(hv:Nat)(a:∀j:Nat,j<=4->hv<j->f j=false):[4,3,2,1].find? (λw=>decide (hv<w)&&f w)=none:=by
 rw[Bj];intro w b;have:w<=4:=by simp at b;omega
 by_cases h:hv<w
 ·simp[a w this h]
 ·simp[h]
def zje {hv:Nat}(b:hv<k)(c:k<=4)(d:(lk (qz (-1) i (k:Nat))).isSome=true)(a:∀j:Nat,k<j->j<=4->hv<j->(lk (qz (-1) i (j:Nat))).isSome=false):RY lk i hv=some k:=
 zoc (λw=>(lk (qz (-1) i (w:Nat))).isSome) hv k b c d a
def zjf {hv:Nat}(a:∀j:Nat,j<=4->hv<j->(lk (qz (-1) i (j:Nat))).isSome=false):RY lk i hv=none:=
 zgc (λw=>(lk (qz (-1) i (w:Nat))).isSome) hv a
def Bw {b:Bool}{p:zb}{e:Value}(h:EF b p B e w):(b=false/\e=.nilIface)\/(b=true/\∃g,e=.iface 178 (.pointer (some ⟨g,0,none⟩))):=by
 rcases h with h|⟨h,g,rfl,-⟩
 ·exact .inl h
 ·exact .inr ⟨h,g,rfl⟩
def EF.weaken {b:Bool}{p:zb}{e:Value}(h:EF b p B e w)(a:B'<=B):EF b p B' e w:=by
 rcases h with h|⟨h,g,e,c,r⟩
 ·exact .inl h
 ·exact .inr ⟨h,g,e,zt a c,r⟩
def Z1 (O:Nat->Prop)(W:World)(hE:DW W)(X:∀k,O k->W.heap.size<=k)(u y:Nat)(d:Dk)(i hv:Nat)(w:World)(hn:d.fs.length<=1000000000)(hl:∀f∈d.fs,f.2.length<=1000000000)(hi:i<=1000000)(ao:hv<4)(hc:Fz d)(hW:zc W w)(h:ym w O u d)(cs:Array Value)(F:w.heap[y]?=some (.cells cs 200 (0,0)))(G:cs[0]?=some (UN u true)):
  Calls prog 174 #[.pointer (some ⟨y,0,none⟩),.int .i64 i,.int .i64 (hv+1:Nat)] w λr L=>∃(C:Dk) (n:Nat) (v e:Value),r=.returned (.tuple #[.int .i64 n,v,e])/\zl O Oi w L/\ym L O u C/\C.fs=d.fs/\tk C=tk d /\
   ((C.hit=true/\∃p,EF true p w.heap.size e L)\/(Fz C/\e=.nilIface/\((RY (xr d.fs) i hv=none/\n=0/\v=.slice none 0 0)\/(RY (xr d.fs) i hv=some n/\∃x,xr d.fs (qz (-1) i n)=some x/\Bq L v x)))):=by
 have HL:=ze hl;have HD:=ze h;have HS:=ze ((zm F 0 _ G).1);have P:=ze F;have Q:=ze G;have HW:=ze hW;have HC:=ze hc;have HO:=ze X;have V:=ze hE;go_enter func174,ntmps174
 go_wp2
 go_loopw [9,10,11] (λs9 _ _ wr=>∃(k:Nat) (d1:Dk),s9=.int .i64 k/\hv<=k/\k<=4/\zl O Oi w wr/\ym wr O u d1/\d1.fs=d.fs/\tk d1=tk d/\Fz d1/\∀j,k<j->j<=4->hv<j->(xr d.fs (qz (-1) i (j:Nat))).isSome=false) (λs9 _ _ _=>(intOf s9).toNat)
 case atStart=>exact⟨4,d,rfl,by omega,by omega,zl.refl _ _ _,HD.o,rfl,rfl,HC.o,λj U D=>by omega⟩
 case round =>
  obtain⟨k,d1,rfl,an,ae,ht,hd,ad,al,Y,ag⟩:=hrel;have K:=ze ht;have A:=ze hd;have b:=ze (And.intro ad al);have q:=ze Y;have N:=ze ag;have ab:=DW.aj V.out HW.o ht HO.o;have R:Hid (wr.cell? ⟨y,0,none⟩=some (UN u true)):=by
   have:=zm (ht.keep P.o (by decide)) 0 _ Q.o;exact this.1
  have M:=ze ab
  by_cases af:hv<k
  ·go_wp2_with fail;refine(Iv (-1) i k (by omega) wr M.o.1).mono ?_;rintro r w1 ⟨rfl,m⟩;have H:w1.cell? ⟨y,0,none⟩=some (UN u true):=by rw[m.cell (p:=⟨y,0,none⟩) (zq (yf HS.o) K.o.size)];exact R.o
   go_wp2_with fail;refine(QD O u y d1 (qz (-1) i k) w1 (by rw[b.o.1];exact hn) (by rw[b.o.1];exact HL.o) (A.o.stay (O1:=λ_=>False) (T:=[]) (.aa m) (by simp) (by simp)) H).mono ?_;rintro r w2 ⟨v,e,rfl,E,ak,Z,I⟩;have t:=ze ((K.o.ah m).trans (ak.mono (λ_ h=>.inl h) (λ_ h=>h)));have s:=ze Z;have ai:=(K.o.ah m).size;have B:=ze (E.weaken ai);rcases Bw E with ⟨l,rfl⟩|⟨l,g,rfl⟩
   ·have am:A2 d1=0:=by
     have:=(LY d1).1;have D:¬0<A2 d1:=by simpa[Jy]using l
     omega
    have z:Hid (Fz (qu d1)):=by
     rcases Eo q.o with ⟨-,h⟩|⟨h,-⟩
     ·exact h
     ·omega
    have HG:=ze (Yq l I);rcases Kk HG.o with ⟨J,rfl⟩|⟨x,a,n,c,J,rfl⟩
    ·go_wp2
     go_roundw
     case rel =>
      repeat apply Exists.intro
      refine⟨⟨k-1,qu d1,by congr 1;omega,by omega,by omega,t.o,s.o,(je d1).trans b.o.1,(Fo d1).trans b.o.2,z.o,λj U D h3=>?_⟩,rfl⟩
      by_cases hj:k<j
      ·exact N.o j hj D h3
      ·obtain rfl:j=k:=by omega
       rw[<- b.o.1,J]
       rfl
     case measure=>simp[intOf];omega
    ·have S:Hid (RY (xr d.fs) i hv=some k):=zje af ae (by rw[<- b.o.1,J];rfl) N.o
     go_wp2
     go_ret3
     refine⟨qu d1,k,_,_,rfl,t.o,s.o,(je d1).trans b.o.1,(Fo d1).trans b.o.2,.inr ⟨z.o,rfl,.inr ⟨S.o,x,by rw[<- b.o.1];exact J,?_⟩⟩⟩;rcases HG.o with ⟨x',e,hb⟩|⟨-,e⟩
     ·rw[J]at e;obtain rfl:x=x':=by simpa using e
      exact hb
     ·simp at e
   ·have HH:Hid ((qu d1).hit=true):=by
     rcases Eo q.o with ⟨h,-⟩|⟨-,h⟩
     ·rw[Jy,h]at l;simp at l
     ·exact h
    rw[l]at B;obtain⟨a,n,c,rfl⟩:=JE I
    go_wp2
    go_ret3
    exact⟨qu d1,k,_,_,rfl,t.o,s.o,(je d1).trans b.o.1,(Fo d1).trans b.o.2,.inl ⟨HH.o,_,B.o⟩⟩
  ·go_wp2
   go_ret3
   exact⟨d1,0,_,_,rfl,K.o,A.o,b.o.1,b.o.2,.inr ⟨q.o,rfl,.inl ⟨zjf (λj U D=>N.o j (by omega) U D),rfl,rfl⟩⟩⟩
end Go.Proofs.YtfdbeldiomkdiaaGreatDoor
