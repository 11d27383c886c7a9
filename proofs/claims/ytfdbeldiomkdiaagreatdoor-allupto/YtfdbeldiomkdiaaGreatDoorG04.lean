import Derived.Test.YtfdbeldiomkdiaaGreatDoorG03
set_option maxHeartbeats 8000000
set_option maxRecDepth 100000
set_option linter.all false
namespace Go.Proofs.YtfdbeldiomkdiaaGreatDoor
open Go.RowKit Go.Proofs.Tryz
def zz:=@Int.toNat_natCast
def qc:=@Int.eq_ofNat_of_zero_le
def jl:=@List.mem_cons
def Am:=@Nat.not_lt_zero
def Ar:=@Nat.le_succ
def BS:=@run_loadVar_row
def Cx:=@List.not_mem_nil
def CV:=@Bool.eq_iff_iff
def FJ:=@setRow_other
def IB:=@run_eql_iface_ptr_same
def N6:=@or_false
variable {B cap off:Nat}{v x:Value}{w w':World}
def Fj (B:Nat)(w:World)(x:Value)(a:za):Prop:=w.ownsRow B 91 8 x a.length (IM a)
def zar (w b:World)(x:Value)(a:za):Prop:=Fj w.heap.size b x a
def SI (a:za)(p:zb):IM (a++[p])=IM a++(hv p).toList:=by simp[IM]
def znr (a:List (Nat×Nat))(i:Nat)(h:i<a.length):(NS a)[i*2]?=some (.int .i64 (a[i].1:Int))/\(NS a)[i*2+1]?=some (.int .i64 (a[i].2:Int)):=by
 induction a generalizing i with
 |nil=>simp at h
 |cons s a b =>
  cases i with
  |zero=>simp[NS]
  |succ i =>
   have:=b i (by simpa using h);have e:NS (s::a)=.int .i64 (s.1:Int):: .int .i64 (s.2:Int)::NS a:=by simp[NS]
   rw[e,show(i+1)*2=i*2+1+1 by omega];simpa using this
def zlw (a:List (Nat×Nat)):(NS a).length=a.length*2:=by
 induction a with
 |nil=>rfl
 |cons s a b =>
  have e:NS (s::a)=.int .i64 (s.1:Int):: .int .i64 (s.2:Int)::NS a:=by simp[NS]
  rw[e];simp[b];omega
def Sps (w:World)(v:Value)(c:List (Nat×Nat)):Prop:=
 ∃a d,v=.slice a c.length d/\c.length<=d/\(c=[]\/∃b,a=some ⟨b,0,none⟩/\∀i (h:i<c.length),w.cell? ⟨b,i*2,none⟩=some (.int .i64 (c[i].1:Int))/\w.cell? ⟨b,i*2+1,none⟩=some (.int .i64 (c[i].2:Int)))
def Gq {a:List (Nat×Nat)}(h:F1 B w x a):Sps w x a:=by
 obtain⟨h0,h|⟨g,c,d,rfl,q,l,t,v,y,p⟩⟩:=h
 ·obtain⟨rfl,k⟩:=h;have:a=[]:=by
   cases a with
   |nil=>rfl
   |cons s a=>simp at k
  subst this;exact⟨none,0,rfl,zk _,.inl rfl⟩
 ·refine⟨_,c,rfl,by omega,?_⟩;cases o:a with
  |nil=>exact .inl rfl
  |cons s r =>
   rw[<- o];refine .inr ⟨g,rfl,λi m=>?_⟩;obtain⟨e,f⟩:=znr a i m;have u:=zlw a;have b:∀j,j<a.length*2->w.cell? ⟨g,j,none⟩=(NS a)[j]?:=by
    intro j n;rw[xe _ _ _ _ _ _ l,<- p];simp[n]
   rw[b _ (by omega),b _ (by omega)];exact⟨e,f⟩
def Sps.below {j:List (Nat×Nat)}(h:Sps w v j)(g:zc w w'):Sps w' v j:=by
 obtain⟨a,d,rfl,c,h⟩:=h;refine⟨a,d,rfl,c,?_⟩;rcases h with h|⟨b,rfl,k⟩
 ·exact .inl h
 ·refine .inr ⟨b,rfl,λi l=>?_⟩;obtain⟨e,f⟩:=k i l;exact⟨by rw[g.cell (p:=⟨b,i*2,none⟩) (yf (p:=⟨b,i*2,none⟩) e)];exact e,by rw[g.cell (p:=⟨b,i*2+1,none⟩) (yf (p:=⟨b,i*2+1,none⟩) f)];exact f⟩
def JW.run {b n:Nat}{c:za}(h:JW w (.slice (some ⟨b,off,none⟩) n cap) c)(a k:Nat)(e:a+k<=c.length):JW w (.slice (some ⟨b,off+a,none⟩) k (cap-a)) (CC c (a,k)):=by
 have d:=h.drop a (by omega);have:=d.take k (by simp;omega);exact this
def NI (b A m:Nat)(c:za)(v:Value)(a:List (Nat×Nat))(w:World)(aq:c.length<=m)(hn:c.length<=1000000)(hl:∀l∈c,l.length<=maxLen)(h:JW w (.slice (some ⟨b,A,none⟩) c.length m) c)(hs:Sps w v a)(av:a.length<=1000000)(W:∀s∈a,s.1+s.2<=c.length/\1<=s.2):
  Calls prog 111 #[.slice (some ⟨b,A,none⟩) c.length m,v] w λr w'=>∃x,r=.returned x/\zc w w'/\Fj w.heap.size w' x (a.map λs=>yy (CC c s)):=by
 obtain⟨t,hi,V⟩:=zx.1 Q9;obtain⟨Z,aa,ab⟩:t.zero=some (.agg (hv jh))/\t.size=8/\t.bytes=8:=by simpa using V
 clear V;have HI:=ze hi;have HZ:=ze (And.intro Z (And.intro aa ab));clear hi Z aa ab;have HL:=ze hl;have H:=ze h;have HS:=ze hs;have af:=ze W;obtain⟨sa,ar,rfl,au,ao⟩:=hs;clear hl h ao W;go_enter func111,ntmps111
 go_wp2
 go_loopw [5,10] (λr i wr=>∃k:Nat,k<=a.length/\i=.int .i64 k/\(∃K L,r=.slice K k L)/\zc w wr/\Fj w.heap.size wr r ((a.take k).map λs=>yy (CC c s))) (λ_ i _=>a.length-(intOf i).toNat)
 case atStart=>exact⟨0,yk _,rfl,⟨_,_,rfl⟩,zu _ _,⟨rfl,.inl ⟨rfl,rfl⟩⟩⟩
 case round =>
  obtain⟨k,hk,rfl,⟨K,L,rfl⟩,I,ho⟩:=hrel;have HO:=ze ho;have HB:=ze I
  by_cases u:k<a.length
  ·have an:∃M,sa=some ⟨M,0,none⟩/\wr.cell? ⟨M,k*2,none⟩=some (.int .i64 (a[k].1:Int))/\wr.cell? ⟨M,k*2+1,none⟩=some (.int .i64 (a[k].2:Int)):=by
    obtain⟨a',c',e',-,G⟩:=HS.o.below I;simp only[jk]at e';obtain⟨rfl,-,rfl⟩:=e';rcases G with G|⟨M,rfl,hc⟩
    ·simp[G]at u
    ·exact⟨M,rfl,(hc k u).1,(hc k u).2⟩
   obtain⟨M,rfl,s0,s1⟩:=an;obtain⟨i1,i2⟩:=af.o a[k] (ye u);have N:Hid (JW wr (.slice (some ⟨b,A+a[k].1,none⟩) a[k].2 (m-a[k].1)) (CC c a[k])):=(H.o.below I).run a[k].1 a[k].2 i1;have HT:Hid ((a.take (k+1)).map (λs=>yy (CC c s))=(a.take k).map (λs=>yy (CC c s))++[yy (CC c a[k])]):=by
    show _=_;rw[yz u,yv];rfl
   have ag:Hid ((CC c a[k]).length=a[k].2):=EA c _ _ i1;have ak:Hid (∀l∈CC c a[k],l.length<=maxLen):=λl hl=>HL.o l (jz (qa hl));have O:Hid (((a.take k).map λs=>yy (CC c s)).length=k):=by show _=_;simp;omega
   have R0:=j5 (CC c a[k]).length (CC c a[k]);have RT:=ze (I8 (CC c a[k]).length);obtain⟨x0,x1,x2,x3,x4,x5,x6,x7,hx⟩:=MB (yy (CC c a[k])) R0;have HX:=ze hx;have al:Hid (j7 (CC c a[k]).length (CC c a[k])=yy (CC c a[k])):=rfl;clear hx R0 ho;generalize yy (CC c a[k])=R at *;generalize (a.take k).map (λs=>yy (CC c s))=P at *;generalize Y:CC c a[k]=E at *;generalize a[k].1=j at *;generalize a[k].2=n at *;clear Y;have c1:(0:Int)<=(j:Int):=by omega
   have c2:(j:Int)<=(j:Int)+(n:Int):=by omega
   have c3:(j:Int)+(n:Int)<=(m:Int):=by omega
   have c5:¬m=j:=by omega
   have c6:(0:Int)<=(k:Int):=by omega
   have c7:(k:Int)<(a.length:Int):=by omega
   have c8:(0:Int)<=(j:Int)+(n:Int):=by omega
   have EN:=ze (λw:World=>Nk j n w (by omega));have ah:Hid (((j:Int)+(n:Int)).toNat-j=n):=by show _=_;omega
   clear I;go_wp2_with fail;have q:Hid (zc w (wr.alloc (.cells #[.int .i64 (j:Int),.int .i64 (n:Int)] 175))):=HB.o.alloc HB.o.size _;have D:Hid (Fj w.heap.size (wr.alloc (.cells #[.int .i64 (j:Int),.int .i64 (n:Int)] 175)) (.slice K k L) P):=yx HO.o (zi _ _);have ae:Hid (JW (wr.alloc (.cells #[.int .i64 (j:Int),.int .i64 (n:Int)] 175)) (.slice (some ⟨b,A+j,none⟩) n (m-j)) E):=N.o.below (zi _ _);have d:Hid ((wr.alloc (.cells #[.int .i64 (j:Int),.int .i64 (n:Int)] 175)).heap[wr.heap.size]?=some (.cells #[.int .i64 (j:Int),.int .i64 (n:Int)] 175)):=zf _ _;generalize wr.alloc (.cells #[.int .i64 (j:Int),.int .i64 (n:Int)] 175)=F at *;generalize wr.heap.size=B at *;have aj:Hid (some B≠(Value.slice K k L).ownBlock):=by
    show _≠_;intro e;obtain⟨-,G|⟨g',S,ap,e1,-,e3,-⟩⟩:=D.o
    ·obtain⟨G,-⟩:=G;rw[G]at e;simp[Value.ownBlock]at e
    ·rw[e1]at e;simp only[Value.ownBlock,zn]at e;subst e;rw[d.o]at e3;simp at e3
   have Q:Hid (F.ownsRow w.heap.size 91 8 (.slice K k L) k (IM P)):=by
    have:=D.o;unfold Fj at this;rw[O.o]at this;exact this
   clear s0 s1 HO HB N;have q0:=BY d.o 0 _ rfl;have q1:=BY d.o 1 _ rfl;have l1:¬B=F.heap.size:=by have:=vk d.o;omega
   go_region_held3 (λw'=>w'.cell? ⟨B,0,none⟩=some (.int .i64 (j:Int))/\w'.cell? ⟨B,1,none⟩=some (.int .i64 (n:Int))) (go_keep) (first
    |(go_at_call 155;refine(EN.out F.drew).mono ?_;rintro e w2 ⟨rfl,T⟩;have y:Hid (zc F w2):=(show zc F F.drew from (zu _ _).drew).trans T;have J:=(y.o.block _ (vk d.o)).trans d.o;have p0:=BY J 0 _ rfl;have p1:=BY J 1 _ rfl;clear T J)
    |(go_at_call 59;rw[ah.o];refine(RT.out _ E w2 (zk _) (by have:=ag.o;omega) ak.o (by exact ae.o.below y.o)).mono ?_;rintro e w3 ⟨hr,U⟩;rw[al.o,HX.o]at hr;subst hr;have f:Hid (zc F w3):=y.o.trans (U.mono y.o.size);have z:=(f.o.block _ (vk d.o)).trans d.o;have p0:=BY z 0 _ rfl;have p1:=BY z 1 _ rfl;have l3:¬B=w3.heap.size:=(by have:=vk z;omega);clear U z)
    |(refine AZ _ (by rfl) _ _ _ (by rfl) w.heap.size 91 t (.agg (hv jh)) 8 8 underlying98 HI.o HZ.o.1 HZ.o.2.1 HZ.o.2.2 rfl (by omega) (.slice K k L) k (IM P) (by rfl) (by exact yx Q.o (f.o.trans ((zi _ _).mono f.o.size))) ⟨w3.heap.size,0,none⟩ 1 1 [.int .u8 x0,.int .u8 x1,.int .u8 x2,.int .u8 x3,.int .u8 x4,.int .u8 x5,.int .u8 x6,.int .u8 x7] (by rfl) rfl (xm (zf _ _)) (by simp[Value.oneCell']) (by omega) (by unfold maxLen;omega) (by omega) (by have:=q.o.size;have:=f.o.size;simp;omega) (w3.heap.size+1) (by simp) ?_;intro g S w4 C p am X;have ad:=ze (((q.o.trans (f.o.mono q.o.size)).trans ((zi w3 _).mono (zt q.o.size f.o.size))).grown p (by have:=q.o.size;have:=f.o.size;simp;omega) (vg D.o));have ai:=ze C;have e4:(w4.cell? ⟨B,0,none⟩=some (.int .i64 (j:Int))/\w4.cell? ⟨B,1,none⟩=some (.int .i64 (n:Int))):=(have I:w4.heap[B]?=_:=(by rw[p.block B (by have:=vk d.o;have:=f.o.size;simp;omega) aj.o,zr ((f.o.block _ (vk d.o)).trans d.o)]);⟨BY I 0 _ rfl,BY I 1 _ rfl⟩);obtain⟨z0,z1⟩:=e4;clear am X C p))
   all_goals
    go_wp2
    go_roundw
    case rel=>exact⟨k+1,by omega,by go_num,⟨_,_,rfl⟩,ad.o,by rw[HT.o];unfold Fj;rw[SI,HX.o,zw,Cu,O.o];exact ai.o⟩
    case measure=>simp[intOf];omega
  ·obtain rfl:k=a.length:=by omega
   go_wp2
   go_ret;refine⟨_,rfl,HB.o,?_⟩;have:=HO.o;rw[xn (zk _)]at this;exact this
variable {B' H g k:Nat}{e:TypeId}{ps:za}
def Nj (w:World)(g o:Nat)(a n:Nat)(l:zb)(d:l.length=n)(b:w.rangeAt g o (hv l).toList):
  (convert 94 9 (.slice (some ⟨g,o,none⟩) n a)).run prog w=.ok (AL l) w:=by
 subst d;refine BB w _ _ 5 ⟨g,o,none⟩ a l underlying94 jc xt (λj c=>?_);rw[vp];exact b j _ (by simp[hv,bv,c])
def TS (w:World)(g:Nat)(a:za)(k:Nat):Prop:=w.there g 0 (a.length*8)/\∀j (h:j<a.length),k<=j->w.rangeAt g (j*8) (hv a[j]).toList
def TS.below (h:TS w g ps k)(b:g<H)(a:Below H w w'):TS w' g ps k:=
 ⟨λj c=>by rw[a.cell (p:=⟨g,0+j,none⟩) b,a.frozen (p:=⟨g,0+j,none⟩) b];exact h.1 j c,λj c d i v hv=>by rw[a.cell (p:=⟨g,j*8+i,none⟩) b];exact h.2 j c d i v hv⟩
def TS.next (h:TS w g ps k)(a:List Value)(XC:a.length=8):TS (w.setCells g (k*8) a) g ps (k+1):=
 ⟨World.there_setCells h.1 _ _ _,λj b c=>World.rangeAt_setCells_apart (h.2 j b (by omega)) _ _ _ (.inr (.inr (by rw[XC];omega)))⟩
def M1 {s:Nat}{n:Nat}{c:List Value}(h:w.ownsRow B e s v n c)(g:Nat)(l:g<B)(o:Nat)(k:List Value):(w.setCells g o k).ownsRow B e s v n c:=by
 refine⟨h.1,?_⟩;rcases h.2 with h|⟨j,a,b,d,f,i,r⟩
 ·exact .inl h
 ·exact .inr ⟨j,a,b,d,f,by rw[AV _ _ _ _ _ (by omega)];exact i,r⟩
def TZ {a:World}(j:B<=g)(h:Below B a w)(o:Nat)(b:List Value):Below B a (w.setCells g o b):=by
 obtain⟨d,e,f,i⟩:=C7 g b o w;exact⟨d.trans h.os,e.trans h.tape,f.trans h.output,by rw[i];exact h.size,λk c=>by rw[AV _ _ _ _ _ (by omega)];exact h.block k c⟩
def Ny (d:∀p∈ps,p.length=8)(h:w.ownsRow B 91 8 v ps.length (IM ps)):
  (v=.slice none 0 0/\ps.length=0)\/∃g a,v=.slice (some ⟨g,0,none⟩) ps.length a/\B<=g/\g<w.heap.size/\TS w g ps 0:=by
 rcases h.2 with h0|⟨g,a,c,rfl,l,b,q,o,m,n⟩
 ·exact .inl h0
 ·refine .inr ⟨g,a,rfl,l,vk b,λj k=>?_,λi f _ j v hv=>?_⟩
  ·rw[xk];refine⟨?_,by simp[World.frozen?,b]⟩;rw[xe _ _ _ _ _ _ b];have:j<c.size:=by rw[m];omega
   simp[this]
  ·have k:j<8:=by
    have:=(qm.1 hv).1;rw[Ei,BU,d _ (ye f)]at this;exact this
   rw[xe _ _ _ _ _ _ b];have e:=ZK ps d i j f k;rw[hv,<- n,qi,if_pos (by omega)]at e;simpa using e
def zha:Array Value:=#[.int .u8 1,.int .u8 0,.int .u8 0,.int .u8 0,.int .u8 0,.int .u8 0,.int .u8 0,.int .u8 0]
def SV:(prog.info? 91).map (·.size)=some zha.size:=by kernel_rfl
def Wq:zha.all (·.oneCell') =true:=by simp[zha,Value.oneCell']
def LB {s:Nat}{n:Nat}{c:List Value}(h:w.ownsRow B e s v n c)(i:B'<=B):w.ownsRow B' e s v n c:=by
 refine⟨h.1,?_⟩;rcases h.2 with h|⟨g,a,b,d,f,r⟩
 ·exact .inl h
 ·exact .inr ⟨g,a,b,d,zt i f,r⟩
def TC (B:Nat)(v:Value)(b:za)(w:World)(hn:b.length<=1000000)(S:B<=w.heap.size)(R:∀p∈b,p.length=8)(h:w.ownsRow B 91 8 v b.length (IM b)):
  Calls prog 66 #[v] w λr U=>∃x,r=.returned x/\Below B w U/\U.ownsRow B 9 1 x b.length (b.map AL):=by
 obtain⟨i,hi,N⟩:=zx.1 Hf;obtain⟨O,P,Q⟩:i.zero=some (.string ⟨#[]⟩)/\i.size=1/\i.bytes=16:=by simpa using N
 have W:=ze hi;have J:=ze (And.intro O (And.intro P Q));have K:=ze (Ny R h);have V:=ze R;obtain⟨a,m,rfl⟩:∃a m,v=.slice a b.length m:=by
  rcases K.o with ⟨rfl,h0⟩|⟨g,m,rfl,-⟩
  ·exact⟨_,_,by rw[h0]⟩
  ·exact⟨_,_,rfl⟩
 go_enter func66,ntmps66
 go_wp2
 go_loopw [3,7] (λt i wr=>∃k:Nat,k<=b.length/\i=.int .i64 k/\Below B w wr/\wr.ownsRow w.heap.size 9 1 t k ((b.take k).map AL)/\(∀g f,a=some ⟨g,f,none⟩->f=0/\B<=g/\g<w.heap.size/\TS wr g b k)) (λ_ i _=>b.length-(intOf i).toNat)
 case atStart =>
  refine⟨0,yk _,rfl,zu _ _,⟨rfl,.inl ⟨rfl,rfl⟩⟩,λg f e=>?_⟩;rcases K.o with ⟨n,h0⟩|⟨D,l,n,r⟩
  ·simp[e]at n
  ·simp[e]at n;obtain⟨⟨rfl,rfl⟩,_⟩:=n;exact⟨rfl,r⟩
 case round =>
  obtain⟨k,hk,rfl,L,d,c⟩:=hrel;have E:=ze L;have G:=ze d;have X:=ze c
  by_cases s:k<b.length
  ·obtain⟨g,rfl⟩:∃g,a=some ⟨g,0,none⟩:=by
    rcases K.o with ⟨_,h0⟩|⟨D,l,n,r⟩
    ·omega
    ·simp at n;exact⟨D,n.1⟩
   obtain⟨-,Z,gH,c⟩:=X.o g 0 rfl;have z:=ze (And.intro Z gH);have A:=ze c;have hs:(b.take (k+1)).map AL=(b.take k).map AL++[AL b[k]]:=by rw[yz s,yv];rfl
   have Y:=ze hs;have M:=Nj wr g (k*8) 8 8 b[k] (V.o _ (ye s)) (A.o.2 k s (zk _));generalize b[k]=p at *;unfold AL at M;have u:=ze E.o.size;have H:Hid (∀o,(wr.alloc o).ownsRow w.heap.size 9 1 u3 k ((b.take k).map AL)):=λo=>yx G.o (zi wr o);go_wp2_with (first
    |(at_builtin;refine jf _ rfl _ _ _ rfl w.heap.size 9 i (.string ⟨#[]⟩) 1 16 underlying22 W.o J.o.1 J.o.2.1 J.o.2.2 rfl (by omega) u3 k _ rfl (H.o _) ⟨wr.heap.size,0,none⟩ 1 1 [.string ⟨p.toArray⟩] rfl rfl (xm (zf _ _)) (by simp[Value.oneCell']) (by omega) (by unfold maxLen;omega) (by omega) (by have:=u.out;simp;omega) (wr.heap.size+1) (by simp) ?_;intro D l w2 d q aa T;have y:=ze (((zi wr _).mono u.out).grown q (by have:=u.out;simp;omega) (vg G.o));have I:=ze d;have C:=ze (A.o.below z.o.2 y.o))
    |(show wpList _ _ _ ({dst:=none,op:=Op.store _ _ _,type:=_,pos:=_,after:=_,guard:=_}::_) _ _;refine wpList_store_mid rfl 91 _ _ rfl g (k*8) zha rfl rfl (by intro j hj;have ab:j<8:=hj;have:=C.o.1 (k*8+j) (by omega);rw[xk]at this;exact this) SV Wq ?_))
   have F:Hid (Below B w w2):=E.o.trans (y.o.mono S)
   go_roundw
   case rel =>
    refine⟨k+1,by omega,by go_num,TZ z.o.1 F.o _ _,by rw[Y.o];exact M1 I.o g z.o.2 _ _,λD f e=>?_⟩;simp only[zn,Ce]at e;obtain⟨rfl,rfl,-⟩:=e;exact⟨rfl,z.o.1,z.o.2,C.o.next _ rfl⟩
   case measure=>simp[intOf];omega
  ·go_wp2
   go_ret;refine⟨_,rfl,E.o,?_⟩;have:=G.o;rw[xn (by omega)]at this;rw[show b.length=k by omega];exact LB this S
def PJ:(prog.info? 392).map (·.comparable)=some true:=by kernel_rfl
def PU:(prog.info? 394).map (·.size)=some 1:=by kernel_rfl
def VG {a b:Addr}(h:a≠b)(e:∃c t,w.heap[a.block]?=some (.cells c t (0,0)))(f:∃c t,w.heap[b.block]?=some (.cells c t (0,0))):
  (binOp .eql 100 (.iface 392 (.pointer (some a))) (.iface 392 (.pointer (some b)))).run prog w=.ok (.bool false) w:=by
 obtain⟨i,k,d⟩:=zx.1 PJ;obtain⟨j,l,g⟩:=zx.1 PU;obtain⟨m,o,e⟩:=e;obtain⟨n,tb,f⟩:=f;exact run_eql_iface_ptr_other w underlying100 underlying392 k d l (by rw[g];decide) h e f
structure vj (w:World)(at_:Nat->Addr):Prop where
 entry:w.cell? ⟨1,0,none⟩=some (.iface 392 (.pointer (some (at_ 0))))
 range:w.cell? ⟨0,0,none⟩=some (.iface 392 (.pointer (some (at_ 1))))
 check:w.cell? ⟨2,0,none⟩=some (.iface 392 (.pointer (some (at_ 2))))
 ak:w.cell? ⟨3,0,none⟩=some (.iface 392 (.pointer (some (at_ 3))))
 proof:w.cell? ⟨4,0,none⟩=some (.iface 392 (.pointer (some (at_ 4))))
 br:w.cell? ⟨6,0,none⟩=some (.iface 392 (.pointer (some (at_ 5))))
 failed:w.cell? ⟨5,0,none⟩=some (.iface 392 (.pointer (some (at_ 6))))
 apart:∀i j,i<7->j<7->i≠j->at_ i≠at_ j
 block:∀i,i<7->∃c t,w.heap[(at_ i).block]?=some (.cells c t (0,0))
variable {at_:Nat->Addr}
def vj.below (h:vj w at_)(d:zc w w'):vj w' at_:=by
 have c:∀{a:Addr}{v:Value},w.cell? a=some v->w'.cell? a=some v:=fun {a v} e=>by rw[d.cell (p:=a) (yf e)];exact e
 refine⟨c h.entry,c h.range,c h.check,c h.ak,c h.proof,c h.br,c h.failed,h.apart,λi g=>?_⟩;obtain⟨f,t,e⟩:=h.block i g;refine⟨f,t,?_⟩;rw[d.block _ ?_]
 ·exact e
 ·rcases qf (at_ i).block w.heap.size with b|b
  ·exact b
  ·simp[A7 b]at e
def told (n:Int):Value:=.agg #[.int .i64 n,.string ⟨#[]⟩]
def Dc (h:w.cell? ⟨g,0,none⟩=some v)(o:Obj):(w.alloc o).cell? ⟨g,0,none⟩=some v:=by rw[xg _ _ ⟨_,0,none⟩ (yf h)];exact h
def zax (v:Value)(W:World):(Instr.typeAssert (.iface 392 v) 100 178 true).run prog W=.ok (.tuple #[.pointer none,.bool false]) W:=by kernel_rfl
def O0 (a:Nat->Addr)(w:World)(h:vj w a):
  Calls prog 67 #[.nilIface] w λe i=>e=.returned (told 0)/\zc w i:=by
 obtain⟨h0,b,c,d,f,-,g,-,-⟩:=h
 replace h0:=Dc h0
 replace b:=Dc b
 replace c:=Dc c
 replace d:=Dc d
 replace f:=Dc f
 replace g:=Dc g
 go_enter func67,ntmps67;go_wp2_with fail;exact zv (v:=told 0) (Ca results67 _ _ w.heap.size 39 _ (0,0) _ rfl (zr (zr (zf _ _))) underlying39 rfl (by kernel_rfl)) rfl ⟨rfl,((zi _ _).trans ((zi _ _).mono (by simp))).trans ((zi _ _).mono (by simp;omega))⟩
def Gw (a:Nat->Addr)(w:World)(F:vj w a)(k:Nat)(t:Int)(u:(k,t)∈[(0,1),(1,2),(2,3),(3,4),(4,5),(6,7)]):
  Calls prog 67 #[.iface 392 (.pointer (some (a k)))] w λe H=>e=.returned (told t)/\zc w H:=by
 obtain⟨h0,n,o,p,q,-,r,d,b⟩:=F
 replace h0:=Dc h0
 replace n:=Dc n
 replace o:=Dc o
 replace p:=Dc p
 replace q:=Dc q
 replace r:=Dc r
 have E:=zax (.pointer (some (a k)));have c:∀j,k<7->j<7->k≠j->∀h l m,(binOp .eql 100 (.iface 392 (.pointer (some (a k)))) (.iface 392 (.pointer (some (a j))))).run prog (((w.alloc h).alloc l).alloc m)=.ok (.bool false) (((w.alloc h).alloc l).alloc m):=λj s g D h l m=>by
  obtain⟨x,t0,z⟩:=b j g;obtain⟨y,t1,A⟩:=b k s;exact VG (d k j s g D) ⟨y,t1,zr (zr (zr A))⟩ ⟨x,t0,zr (zr (zr z))⟩
 have G:∀W,(binOp .eql 100 (.iface 392 (.pointer (some (a k)))) (.iface 392 (.pointer (some (a k))))).run prog W=.ok (.bool true) W:=λW=>by
  obtain⟨i,B,f⟩:=zx.1 PJ;obtain⟨j,g,C⟩:=zx.1 PU;exact IB W (a k) underlying100 underlying392 B f g
 clear d b;simp only[jl,xj,Cx,N6]at u;rcases u with ⟨rfl,rfl⟩|⟨rfl,rfl⟩|⟨rfl,rfl⟩|⟨rfl,rfl⟩|⟨rfl,rfl⟩|⟨rfl,rfl⟩
 all_goals
  try have d0:=c 0 (by decide) (by decide) (by decide)
  try have d1:=c 1 (by decide) (by decide) (by decide)
  try have d2:=c 2 (by decide) (by decide) (by decide)
  try have d3:=c 3 (by decide) (by decide) (by decide)
  try have d4:=c 4 (by decide) (by decide) (by decide)
  clear c;go_enter func67,ntmps67;go_wp2_with fail;refine FB 8 ?_
  repeat (rw[vu];go_wp2_with fail)
  exact zv (v:=told _) (Ca results67 _ _ w.heap.size 39 _ (0,0) _ rfl (zr (zr (zf _ _))) underlying39 rfl (by kernel_rfl)) rfl ⟨rfl,((zi _ _).trans ((zi _ _).mono (by simp))).trans ((zi _ _).mono (by simp;omega))⟩
variable {o:Nat}{x0 x1 x2 x3 x4 x5 x6 x7:Int}
def zii {b:Nat}(h:w.rangeAt b o [.int .u8 x0,.int .u8 x1,.int .u8 x2,.int .u8 x3,.int .u8 x4,.int .u8 x5,.int .u8 x6,.int .u8 x7]):
  w.cell? ⟨b,o,none⟩=some (.int .u8 x0)/\w.cell? ⟨b,o+1,none⟩=some (.int .u8 x1)/\w.cell? ⟨b,o+2,none⟩=some (.int .u8 x2)/\w.cell? ⟨b,o+3,none⟩=some (.int .u8 x3)/\w.cell? ⟨b,o+4,none⟩=some (.int .u8 x4)/\w.cell? ⟨b,o+5,none⟩=some (.int .u8 x5)/\w.cell? ⟨b,o+6,none⟩=some (.int .u8 x6)/\w.cell? ⟨b,o+7,none⟩=some (.int .u8 x7):=
 ⟨h 0 _ rfl,h 1 _ rfl,h 2 _ rfl,h 3 _ rfl,h 4 _ rfl,h 5 _ rfl,h 6 _ rfl,h 7 _ rfl⟩
def OY (b c m a:Nat)(l:zb)(w:World)(G:m<=1000000)(e:m+1<=a)(u:l.length=8)(f:w.rangeAt b (c+m*8) (hv l).toList):
  Calls prog 163 #[.slice (some ⟨b,c,none⟩) (m+1) a] w λr x=>r=.returned (.tuple #[.slice (some ⟨b,c,none⟩) m a,.agg (hv l)])/\zc w x:=by
 obtain⟨h,i,j,k,n,p,q,s,g⟩:=MB l u;rw[g]at f;have t:=ze g;have d:∀o,(w.alloc o).rangeAt b (c+m*8) [.int .u8 h,.int .u8 i,.int .u8 j,.int .u8 k,.int .u8 n,.int .u8 p,.int .u8 q,.int .u8 s]:=λo=>ES f (zi w o);obtain⟨y,z,A,B,C,D,E,F⟩:=zii (d (.cells #[Value.int IntKind.u8 0,Value.int IntKind.u8 0,Value.int IntKind.u8 0,Value.int IntKind.u8 0,Value.int IntKind.u8 0,Value.int IntKind.u8 0,Value.int IntKind.u8 0,Value.int IntKind.u8 0] 91));have H:(m:Int)<=(a:Int):=by omega
 have I:(m:Int)<(m:Int)+1:=by omega
 go_enter func163,ntmps163
 go_wp2
 go_region
 go_wp2
 refine zv (v:=.tuple #[.slice (some ⟨b,c,none⟩) m a,.agg #[.int .u8 h,.int .u8 i,.int .u8 j,.int .u8 k,.int .u8 n,.int .u8 p,.int .u8 q,.int .u8 s]]) (by simp[results,results163,go_sem]) rfl ⟨by rw[t.o],?_⟩;exact(zi w _).drew
variable {leaf:zb}{q:Nat}{wy wz:World}
def GM {P:Program}{fn:Func}{p u:Tmp}{ty:TypeId}(h:fn.results=#[.cell p ty,.tmp u])(tmps:Array Value)(w:World)(g:Nat)(t:TypeId)(cs:Array Value)(fr:Nat×Nat)(d:TypeDesc)
  (hp:tmps.getD p undef=.pointer (some ⟨g,0,none⟩)) (hg:w.heap[g]?=some (.cells cs t fr))
  (hu:P.underlying ty=some d) (hd:(match d with|.struct _|.array _ _=>true|_=>false)=true) (hi:(P.info? ty).map (·.size)=some cs.size) (x:Value) (hx:tmps.getD u undef=x) :
  (results fn tmps).run P w=.ok (.tuple #[.agg cs,x]) w:=by
 rw[_root_.Go.results_cell_tmp h,hp,hx];simp[asAddr,BS w g t ty cs fr d hg hu hd hi]
def Fr (w:World)(a:zb)(b:World):Prop:=
 zc w b/\b.heap[w.heap.size]?=some (.cells (hv a) 91 (0,0))/\b.heap[w.heap.size+1]?=some (.cells #[Value.int IntKind.u8 0,Value.int IntKind.u8 0,Value.int IntKind.u8 0,Value.int IntKind.u8 0,Value.int IntKind.u8 0,Value.int IntKind.u8 0,Value.int IntKind.u8 0,Value.int IntKind.u8 0] 91 (0,0))
def Fr.start (w:World)(a:zb):Fr w a ((w.alloc (.cells (hv a) 91)).alloc (.cells #[Value.int IntKind.u8 0,Value.int IntKind.u8 0,Value.int IntKind.u8 0,Value.int IntKind.u8 0,Value.int IntKind.u8 0,Value.int IntKind.u8 0,Value.int IntKind.u8 0,Value.int IntKind.u8 0] 91)):=by
 refine⟨qg _ _ _,zr (zf _ _),?_⟩;rw[show w.heap.size+1=(w.alloc (.cells (hv a) 91)).heap.size by simp];exact zf _ _
def Fr.next (h:Fr w leaf wz)(a:zc wz wy):Fr w leaf wy:=
 ⟨h.1.trans (a.mono h.1.size),by rw[a.block _ (vk h.2.1)];exact h.2.1,by rw[a.block _ (vk h.2.2)];exact h.2.2⟩
def ON.cut (h:ON w v ps)(k:ps.length=q+1):
  ∃b d c,v=.slice (some ⟨b,d,none⟩) (q+1) c/\q+1<=c/\w.rangeAt b (d+q*8) (hv (ps.getLastD [])).toList/\ON w (.slice (some ⟨b,d,none⟩) q c) ps.dropLast/\(ps.getLastD []).length=8/\(∀p∈ps.dropLast,p.length=8)/\ps.dropLast.length=q:=by
 obtain⟨a,c,rfl,f,g,o⟩:=h;obtain⟨b,d,rfl,l⟩:=o.resolve_left (λh=>by simp[h]at k);obtain⟨m,n⟩:=Gc ps q k [];have e:(ps.take q).length=q:=by simp;omega
 rw[k]at f ⊢;rw[m,n];refine⟨b,d,c,rfl,f,l q (by omega),⟨_,c,by rw[e],by rw[e];omega,λp i=>g p (qa i),.inr ⟨b,d,rfl,λj r=>?_⟩⟩,g _ (ye _),λp i=>g p (qa i),e⟩;rw[js];exact l j (by rw[e]at r;omega)
abbrev zmc (a:Array Value)(R:zb×Bool)(w:World):Prop:=
 Calls prog 116 a w λr b=>r=.returned (.tuple #[.agg (hv R.1),.bool R.2])/\zc w b
def zln (d:zb)(H:d.length=8)(f:Nat):∀(i n:Int) (v:Value) (g:za) (w:World),0<=i->i<n->n<=9223372036854775807->g.length<f->g.length<=1000000->ON w v g ->
  zmc #[.agg (hv d),.int .i64 i,.int .i64 n,v] (BF jh f d i.toNat n.toNat g) w:=by
 induction f with
 |zero=>exact λi n v g w _ _ _ h=>absurd h (Am _)
 |succ f Q =>
 intro i n v g w h0 aa hn hf hp h;obtain⟨i,rfl⟩:=qc h0;obtain⟨n,rfl⟩:=qc (show 0<=n by omega);rw[zz,zz];have B:Hid ((hv d).size=8):=by show _=_;rw[BU,H]
 have p:=ze (Fr.start w d);unfold zmc
 by_cases N:n=1
 ·subst N;rw[I5];obtain⟨a,r,rfl,-,-,-⟩:=h;have Hd:Hid (((g.length:Int)==0)=decide (g.length=0)):=by show _=_;rw[CV];simp
  clear H Q;go_enter func116,ntmps116;go_wp2_with (first
   |(refine DN rfl 91 _ rfl w.heap.size rfl 91 _ (0,0) _ p.o.2.1 underlying91 rfl (by rw[B.o];kernel_rfl) ?_)
   |(refine yw rfl 91 _ _ rfl (w.heap.size+1) (hv d) rfl rfl 91 _ p.o.2.2 (by rw[B.o];kernel_rfl) (by rw[B.o];rfl) (Cr _) ?_))
  exact zv (v:=.tuple #[.agg (hv d),.bool ((g.length:Int)==0)]) (GM results116 _ _ (w.heap.size+1) 91 _ (0,0) _ rfl (Av _ _ _ _ _ _ p.o.2.2) underlying91 rfl (by rw[B.o];kernel_rfl) _ rfl) rfl ⟨by rw[Hd.o],Ag p.o.1 (Ar _) _⟩
 have n1:((n:Int)==1)=false:=yp.2 (by omega)
 by_cases P:g.length=0
 ·rw[Ic _ _ _ _ _ _ N P];obtain⟨a,r,rfl,-,-,-⟩:=h;rw[P];clear H Q;go_enter func116,ntmps116;go_wp2_with (refine yw rfl 91 _ _ rfl (w.heap.size+1) (hv jh) rfl rfl 91 _ p.o.2.2 (by kernel_rfl) rfl (Cr _) ?_);exact zv (v:=.tuple #[.agg (hv jh),.bool false]) (GM results116 _ _ (w.heap.size+1) 91 _ (0,0) _ rfl (Av _ _ _ _ _ _ p.o.2.2) underlying91 rfl (by kernel_rfl) _ rfl) rfl ⟨rfl,Ag p.o.1 (Ar _) _⟩
 obtain⟨m,hm⟩:∃m,g.length=m+1:=⟨g.length-1,by omega⟩;obtain⟨b,I,r,rfl,E,hr,ht,k,-,hd⟩:=h.cut hm;have t:Hid (BF jh (f+1) d i n g=if i<yo n then (vf (BF jh f d i (yo n) g.dropLast).1 (g.getLastD []),(BF jh f d i (yo n) g.dropLast).2) else (vf (g.getLastD []) (BF jh f d (i-yo n) (n-yo n) g.dropLast).1,(BF jh f d (i-yo n) (n-yo n) g.dropLast).2)):=by
  show _=_;rw[BF,if_neg N,if_neg P]
 obtain⟨k1,k2,k3⟩:=Be n (by omega);have u:Hid ((hv (g.getLastD [])).size=8):=by show _=_;rw[BU,k]
 have j:=ze k;have Z:=ze ht;have HR:=ze hr;have Hl:=ze H;have W:m<=1000000:=by omega
 have V:=ze (λi n w (a:0<=i) (b':i<n) (c:n<=9223372036854775807)=>Q i n (.slice (some ⟨b,I,none⟩) m r) g.dropLast w a b' c (by omega) (by omega));have m1:(((m:Int)+1)==0)=false:=yp.2 (by omega);generalize BF jh (f+1) d i n g=RR at *;clear Q ht hr P H k hf hp hm hd h N;generalize g.getLastD []=L at *;generalize g.dropLast=S at *;go_enter func116,ntmps116;go_wp2_with fail;refine(OY b I m r L _ W E j.o (by exact ES HR.o p.o.1)).mono ?_;rintro e J ⟨rfl,C⟩;have T:=ze (p.o.next C);clear C;go_wp2_with (refine yw rfl 91 _ _ rfl J.heap.size (hv L) rfl rfl 91 _ (zf _ _) (by rw[u.o];kernel_rfl) (by rw[u.o];rfl) (Cr _) ?_);rw[jr];refine(Mi n _ (by omega) (by omega)).mono ?_;rintro e w2 ⟨rfl,Y⟩;subst Y;have q:=ze (T.o.next (zi J (.cells (hv L) 91)))
 by_cases F:i<yo n
 case' pos =>
  rw[if_pos F]at t;have G:(i:Int)<(yo n:Int):=by omega
  have l:=ze (V.out i (yo n) _ (by omega) (by omega) (by omega) (Z.o.below q.o.1));have O:=O9 jh d rfl Hl.o f i (yo n) S;rw[zz,zz]at l;generalize BF jh f d i (yo n) S=R at *
 case' neg =>
  rw[if_neg F]at t;have G:¬(i:Int)<(yo n:Int):=by omega
  have l:=ze (V.out ((i:Int)-(yo n:Int)) ((n:Int)-(yo n:Int)) _ (by omega) (by omega) (by omega) (Z.o.below q.o.1));have O:=O9 jh d rfl Hl.o f (i-yo n) (n-yo n) S;rw[show((i:Int)-(yo n:Int)).toNat=i-yo n by omega,show((n:Int)-(yo n:Int)).toNat=n-yo n by omega]at l;generalize BF jh f d (i-yo n) (n-yo n) S=R at *
 all_goals
  clear V;obtain⟨M,R2⟩:=R;have A:=ze O;have x:Hid ((hv M).size=8):=by show _=_;rw[BU];exact O
  clear O;go_wp2_with (refine DN rfl 91 _ rfl w.heap.size rfl 91 _ (0,0) _ q.o.2.1 underlying91 rfl (by rw[B.o];kernel_rfl) ?_);refine l.out.mono ?_;rintro e K ⟨rfl,y⟩;have z:Hid (K.heap[J.heap.size]?=some (.cells (hv L) 91 (0,0))):=(y.block _ (by simp)).trans (zf _ _);have U:=ze (q.o.next y);have X:Hid (J.heap.size≠K.heap.size):=Nat.ne_of_lt (vk z.o);clear y l;go_wp2_with (first
   |(refine yw rfl 91 _ _ rfl K.heap.size (hv M) rfl rfl 91 _ (zf _ _) (by rw[x.o];kernel_rfl) (by rw[x.o];rfl) (Cr _) ?_)
   |(refine DN rfl 91 _ rfl K.heap.size rfl 91 _ (0,0) _ (Av _ _ _ _ _ _ (zf _ _)) underlying91 rfl (by rw[x.o];kernel_rfl) ?_)
   |(refine DN rfl 91 _ rfl J.heap.size rfl 91 _ (0,0) _ (by rw[FJ _ _ _ _ X.out];exact zr z.o) underlying91 rfl (by rw[u.o];kernel_rfl) ?_))
  rw[jr]
  first|refine(Ev M L _ A.o j.o).mono ?_|refine(Ev L M _ j.o A.o).mono ?_
  rintro e w4 ⟨rfl,D⟩;have s:=ze ((U.o.next (zi K _)).next D);clear D;go_wp2_with (refine yw rfl 91 _ _ rfl (w.heap.size+1) (hv _) rfl rfl 91 _ s.o.2.2 (by kernel_rfl) rfl (Cr _) ?_);exact zv (v:=.tuple #[.agg (hv _),.bool R2]) (GM results116 _ _ (w.heap.size+1) 91 _ (0,0) _ rfl (Av _ _ _ _ _ _ s.o.2.2) underlying91 rfl (by kernel_rfl) _ rfl) rfl ⟨by rw[t.o],Ag s.o.1 (Ar _) _⟩
def I0:∀(f a n i:Nat),n<=2^f->∀s∈AD f a n i,a<=s.1/\s.1+s.2<=a+n/\1<=s.2:=by
 intro f
 induction f with
 |zero=>intro a n i h s b;simp[AD]at b
 |succ f d =>
  intro a n i h s b
  by_cases e:n<=1
  ·rw[Gk _ _ _ _ e]at b;simp at b
  obtain⟨g,j,k,l,m,o⟩:=Bo n f (by omega) h
  by_cases c:i<a+yo n
  ·rw[Ez f a n i (by omega) c]at b;rcases yj.1 b with b|b
   ·have:=d a (yo n) i g s b;omega
   ·obtain rfl:s=_:=yl.1 b;simp only;omega
  ·rw[D7 f a n i (by omega) c]at b;rcases yj.1 b with b|b
   ·have:=d (a+yo n) (n-yo n) i j s b;omega
   ·obtain rfl:s=_:=yl.1 b;simp only;omega
def LF:∀(f m a n:Nat) (b:Bool),n<=2^f->1<=n->a<m->m<=a+n->∀s∈AB f m a n b,a<=s.1/\s.1+s.2<=a+n/\1<=s.2:=by
 intro f
 induction f with
 |zero =>
  intro m a n b h j d i s c;unfold AB at c;split at c
  ·split at c
   ·simp at c
   ·obtain rfl:s=_:=yl.1 c;simp only;omega
  ·simp at c
 |succ f k =>
  intro m a n b h j d i s c
  by_cases g:m=a+n
  ·rw[Dz _ _ _ _ _ g]at c;split at c
   ·simp at c
   ·obtain rfl:s=_:=yl.1 c;simp only;omega
  obtain⟨l,o,p,q,r,t⟩:=Bo n f (by omega) h
  by_cases e:m<=a+yo n
  ·rw[Ew f m a n b g e]at c;rcases yj.1 c with c|c
   ·have:=k m a (yo n) b l p d e s c;omega
   ·obtain rfl:s=_:=yl.1 c;simp only;omega
  ·rw[Ex f m a n b g e]at c;rcases yj.1 c with c|c
   ·have:=k m (a+yo n) (n-yo n) false o q (by omega) (by omega) s c;omega
   ·obtain rfl:s=_:=yl.1 c;simp only;omega
end Go.Proofs.YtfdbeldiomkdiaaGreatDoor
