import Derived.Laws.AppendOwnNone
import Derived.Test.YtfdbeldiomkdiaaGreatDoorG20
import Derived.Lib.TrailingZeros
set_option maxHeartbeats 8000000
set_option maxRecDepth 100000
set_option linter.all false
namespace Go.Proofs.YtfdbeldiomkdiaaGreatDoor
open Go.RowKit Go.Proofs.Tryz
def A8:=@List.getElem_cons_succ
def Em:=@Nat.add_sub_cancel_left
def NT:=@Nat.add_comm
def RZ:=@Nat.add_le_add_left
def TU:=@Nat.mod_lt
def Vc:=@Nat.sub_zero
def N9 (c:Int)(n:Nat)(w:World)(i:-9223372036854775808<=c)(j:c<=9223372036854775807)(e:0<n)(g:n<=1000000):
  Calls prog 53 #[.int .i64 c,.int .i64 n] w λr h=>(∃m:Nat,m<n/\r=.returned (.int .i64 m))/\h=w:=by
 by_cases k:c<0
 ·obtain⟨d,b⟩:=qc (show 0<=-(c+1) by omega);have f:=ze b;clear b;have a:d%n<n:=TU _ e;go_enter func53,ntmps53
  go_wp2
  go_ret;refine⟨⟨d%n,a,congrArg (λz=>Ending.returned (.int .i64 z)) ?_⟩,rfl⟩;show -((c+1).tmod (n:Int))=((d%n:Nat):Int);rw[<- Int.neg_tmod,f.o]
  rfl
 ·obtain⟨d,rfl⟩:=qc (show 0<=c by omega);have a:d%n<n:=TU _ e;go_enter func53,ntmps53
  go_wp2
  go_ret;exact⟨⟨d%n,a,congrArg (λz=>Ending.returned (.int .i64 z)) (by simp)⟩,rfl⟩
variable {B:Nat}{e:TypeId}{ls:za}{v:Value}{w:World}
def Dg (h:w.ownsRow B 9 1 v ls.length (ls.map qy)):La w v ls:=by
 rcases h.2 with ⟨rfl,h0⟩|⟨g,b,c,rfl,-,d,a,-,j,k⟩
 ·exact⟨none,0,by rw[h0],by omega,.inl (CF h0)⟩
 ·refine⟨_,b,rfl,a,.inr ⟨g,0,rfl,λi f=>?_⟩⟩;rw[xk,xe _ _ _ _ _ _ d];have e:(ls.map qy)[i]?=some (qy ls[i]):=by simp[f]
  rw[<- k,qi,if_pos (by omega)]at e;simpa using e
def qt {s:Nat}{n:Nat}{d:List Value}(h:w.ownsRow B e s v n d):∃a b,v=.slice a n b:=by
 rcases h.2 with ⟨rfl,rfl⟩|⟨g,b,c,rfl,-⟩
 ·exact⟨_,_,rfl⟩
 ·exact⟨_,_,rfl⟩
def Dl (v:Value)(a:za)(w:World)(d:a.length<=1000000)(c:∀l∈a,l.length<=20)(h:La w v a):
  Calls prog 16 #[v] w λr f=>r=.returned (.string ⟨(yy a).toArray⟩)/\zc w f:=by
 have:=G7 a.length v (a.map tb) w (by simp) (by simpa using d) (λs e=>by
  obtain⟨l,b,rfl⟩:=yi.1 e;have:=c l b;show l.toArray.size<_;unfold maxLen;simp;omega) h.to
 rw[MC]at this;exact this
def zds (a:za):(yy a).length=8:=j5 _ _
def Hq (w:World){C:Array Oper}{rest:List Oper}{o:Oper}{a:Act}{Q:Exit->Act->World->Prop}
 (p:o.guard=none) (s x:Operand) (r:o.op=Op.call {callee:=Callee.builtin Builtin.append,args:=#[s,x],argTypes:=#[22,22]})
 (B:Nat) (U:B<=w.heap.size) (v:Value) (m:za) (S:a.eval s=v) (c:w.ownsRow B 9 1 v m.length (m.map qy))
 (y:Value) (d:za) (L:a.eval x=y) (Y:La w y d) (hn:m.length+d.length<=1000000000)
 (h:∀G D,D.ownsRow B 9 1 G (m++d).length ((m++d).map qy)->w.grownBy D v.ownBlock->wpList prog C Q rest (a.put o.dst G) D):wpList prog C Q (o::rest) a w:=by
 obtain⟨i,H,I⟩:=zx.1 Hf;obtain⟨M,N,O⟩:i.zero=some (.string ⟨#[]⟩)/\i.size=1/\i.bytes=16:=by simpa using I
 obtain⟨E,n,rfl,R,F⟩:=Y;cases E with
 |none =>
  have h0:d=[]:=by
   rcases F with h|⟨b,A,e,-⟩
   ·exact h
   ·simp at e
  subst h0;have z:(Builtin.append_ #[22,22] o.type #[v,.slice none 0 n]).run prog w=.ok v w:=by
   rcases c.2 with ⟨rfl,h0⟩|⟨g,P,T,rfl,-,Z,f,-,W,ht⟩
   ·simp[Builtin.append_,Cj underlying22,sizeOf,typeInfo,H,Builtin.lenOf,Builtin.firstCells]
   ·simp[Builtin.append_,Cj underlying22,sizeOf,typeInfo,H,Builtin.lenOf,Builtin.firstCells,storeCells,f]
  refine wpList_plain p λK V=>?_;unfold Oper.wp;simp only[jq]at L;simp[execOp,r,resolve,invoke,builtin,S,L,z,Result.andThen];exact V _ _ (h v w (by simpa using c) ⟨rfl,rfl,rfl,zk _,λ_ _ _=>rfl⟩)
 |some E =>
  refine M6 _ p s x 22 r B 9 i (.string ⟨#[]⟩) 1 16 underlying22 H M N O rfl (by omega) v m.length (m.map qy) S c E d.length n (d.map qy) L (by simp) ?_ ?_ (by unfold maxLen;omega) (by omega) U ?_
  ·intro j u J;rcases F with h|⟨b,A,e,F⟩
   ·subst h;simp at J
   ·have q:j<d.length:=by simpa using (qm.1 J).1
    obtain rfl:E=⟨b,A,none⟩:=by simpa using e
    rw[vp,F j q];simpa[q]using J
  ·intro u X;obtain⟨t,_,rfl⟩:=yi.1 X
   rfl
  ·intro G D l k _;refine h G D ?_ k;rw[zw,yv];exact l
variable {M db lb pb wb:Nat}{O O1:Nat->Prop}{T:List Nat}{d d':Dk}{ev lv:Value}{gs:Fs}{w':World}{x':Wd}
abbrev aT:List Nat:=[144,125,200,94,76,9]
structure Num (n:Nat)(x:Wd)(d:Dk)(s:List Nat):Prop where
 apart:D5 d.fs
 data:∀f∈d.fs,f.2.length<=1048576
 count:d.fs.length<=4096+n*180400
 ba:IS (xr d.fs) s
 small:s.length<=4096+n
 key:x.key.length<=1048577
 au:d.au=false
structure Ent (x:Wd)(d:Dk)(s:List Nat)(es:za)(put:Nat):Prop where
 short:∀e∈es,e.length<=20
 ins:∀j,4*j<es.length->j∈s
 le:put<=es.length
 there:x.failed=false->Fz d/\∀f∈j8 (es.take put),xr d.fs f.1=some f.2
def Pub (w:World)(O:Nat->Prop)(i:Nat)(h e:Value)(x:Wd)(d:Dk)(s:List Nat):Prop:=
 h=.pointer none\/∃c f b a,h=.pointer (some ⟨c,0,none⟩)/\O c/\KM w c f/\Ak w O i f {key:=x.key,es:=b,put:=a,live:=!x.failed}/\w.ownsRow 0 9 1 e b.length (b.map qy)/\(∀g,e.ownBlock=some g->O g)/\Ent x d s b a
def Jz (w:World)(O:Nat->Prop)(e a:Nat)(c b:Value)(x:Wd)(d:Dk)(s:List Nat)(n:Nat):Prop:=
 x.aw=false/\KO w e a c b x/\ym w O a d/\Num n x d s/\Pub w O a c b x d s
def MU (B:Nat)(w:World)(O:Nat->Prop)(e n:Nat):Prop:=
 O e/\(∀k,O k->B<=k/\k<w.heap.size)/\((∃a c b x,KO w e a c b x/\x.aw=true)\/∃a c b x d s,Jz w O e a c b x d s n)
def Nl {x:Wd}{s:List Nat}{a:za}{b:Nat}(h:Ent x d s a b):a.length<=4*s.length:=by
 have:=Kq ((a.length+3)/4) s (λj c=>h.ins j (by omega));omega
def JM (h:KM w pb lb)(b:zl O T w w')(a:209∉T):KM w' pb lb:=b.keep h a
def Pub.out {x:Wd}{s:List Nat}(h:Pub w O db lv ev x d s)(b:zl O1 aT w w')(e:∀k,O k->¬O1 k):Pub w' O db lv ev x d s:=by
 rcases h with h|⟨r,q,i,c,a,j,l,m,n,f,o⟩
 ·exact .inl h
 ·exact .inr ⟨r,q,i,c,a,j,JM l b (by decide),m.out b e (by decide),Kp n b (λg p=>e g (f g p)),f,o⟩
def MU.out {n:Nat}(h:MU B w O wb n)(a:zl O1 aT w w')(b:∀k,O k->¬O1 k):MU B w' O wb n:=by
 obtain⟨h0,j,h⟩:=h;refine⟨h0,λk l=>⟨(j k l).1,zq (j k l).2 a.size⟩,?_⟩;rcases h with ⟨c,i,e,x,g,f⟩|⟨c,i,e,x,d,s,f,g,m,o,p⟩
 ·exact .inl ⟨c,i,e,x,a.stay g (b wb h0),f⟩
 ·exact .inr ⟨c,i,e,x,d,s,f,a.stay g (b wb h0),m.out a b,o,p.out a b⟩
def Num.more {n m:Nat}{x:Wd}{s:List Nat}(h:Num n x d s)(a:n<=m):Num m x d s:=
 ⟨h.apart,h.data,zt h.count (RZ (CK _ a) _),h.ba,zt h.small (RZ a _),h.key,h.au⟩
def MU.more {n m:Nat}(h:MU B w O wb n)(g:n<=m):MU B w O wb m:=by
 obtain⟨h0,c,h⟩:=h;refine⟨h0,c,?_⟩;rcases h with h|⟨a,l,b,x,d,s,f,k,e,i,j⟩
 ·exact .inl h
 ·exact .inr ⟨a,l,b,x,d,s,f,k,e,i.more g,j⟩
def FK {x:Wd}(h:KO w wb db lv ev x):(w.cell? ⟨wb,0,none⟩=some (BD db)/\w.frozen? ⟨wb,0,none⟩=false)/\(w.cell? ⟨wb,1,none⟩=some (qy x.key)/\w.frozen? ⟨wb,1,none⟩=false)/\(w.cell? ⟨wb,2,none⟩=some lv/\w.frozen? ⟨wb,2,none⟩=false)/\(w.cell? ⟨wb,3,none⟩=some ev/\w.frozen? ⟨wb,3,none⟩=false)/\(w.cell? ⟨wb,4,none⟩=some (.int .i64 x.ar)/\w.frozen? ⟨wb,4,none⟩=false)/\(w.cell? ⟨wb,5,none⟩=some (.bool x.failed)/\w.frozen? ⟨wb,5,none⟩=false)/\(w.cell? ⟨wb,6,none⟩=some (.bool x.aw)/\w.frozen? ⟨wb,6,none⟩=false):=
 ⟨zm h 0 _ rfl,zm h 1 _ rfl,zm h 2 _ rfl,zm h 3 _ rfl,zm h 4 _ rfl,zm h 5 _ rfl,zm h 6 _ rfl⟩
def SU {a:Fs}(b:D5 a)(h:gs.Perm a):xr gs=xr a:=funext (Dy b h)
def zcy {a:Fs}(h:gs.Perm a)(c:∀f∈a,f.2.length<=M):∀f∈gs,f.2.length<=M:=λf b=>c f (h.mem_iff.1 b)
def RV {x:Wd}(h:KO w wb db lv ev x):
  (∀u,KO (w.setCell ⟨wb,2,none⟩ u) wb db u ev x)/\(∀u,KO (w.setCell ⟨wb,3,none⟩ u) wb db lv u x)/\(∀n:Int,KO (w.setCell ⟨wb,4,none⟩ (.int .i64 n)) wb db lv ev {x with ar:=n})/\(∀b:Bool,KO (w.setCell ⟨wb,5,none⟩ (.bool b)) wb db lv ev {x with failed:=b})/\(∀b:Bool,KO (w.setCell ⟨wb,6,none⟩ (.bool b)) wb db lv ev {x with aw:=b}):=
 ⟨λu=>Aw h 2 u,λu=>Aw h 3 u,λ_=>Aw h 4 _,λ_=>Aw h 5 _,λ_=>Aw h 6 _⟩
def zam {x:Wd}(h:KO w wb db lv ev x)(a:O wb)(i:Nat)(u:Value):zl O [76] w (w.setCell ⟨wb,i,none⟩ u):=(zl.refl O _ w).set (.inl a) h (by simp) u
def QO:∀(l a:Fs),D5 a->D5 (GK a l)
 |[],a,h=>h
 |f::r,a,h=>by
  refine QO r _ ?_;split
  ·rename_i e;have b:GC a f.1=none:=by simpa using e
   have:=h.set f.1 f.2;unfold DG at this;rw[b]at this;exact this
  ·exact h
def Wv:∀(l a:Fs) (f:zb×zb),f∈GK a l->f∈a\/f∈l
 |[],a,f,h=>.inl h
 |g::r,a,f,h=>by
  rcases Wv r _ f h with h|h
  ·split at h
   ·rcases yj.1 h with h|h
    ·exact .inl h
    ·exact .inr (by simp at h;simp[h])
   ·exact .inl h
  ·exact .inr (by simp[h])
def zf0 {x:Wd}(h:KO w wb db lv ev x)(b:ym w O db d):¬db=wb:=by
 rintro rfl;obtain⟨c,-,a,-⟩:=b;unfold KO at h;rw[a]at h;simp at h
def JK {n:Nat}{x:Wd}{s:List Nat}(h:Num n x d s)(b:x'.key=x.key)(a:d'.fs=d.fs)(c:d'.au=d.au):Num n x' d' s:=
 ⟨by rw[a];exact h.apart,by rw[a];exact h.data,by rw[a];exact h.count,by rw[a];exact h.ba,h.small,by rw[b];exact h.key,by rw[c];exact h.au⟩
def Iu (l:Int)(a:za)(k:Nat):Fs:=(List.range k).map λ(j:Nat)=>(qz l j (CD a.length j),((a.drop (4*j)).take (CD a.length j)).flatten)
def Wi (l:Int)(a:za):Fs:=Iu l a ((a.length+3)/4)
def Yy (l:Int)(a:za)(k:Nat):Iu l a (k+1)=Iu l a k++[(qz l k (CD a.length k),((a.drop (4*k)).take (CD a.length k)).flatten)]:=by
 unfold Iu;rw[DK,yv]
 rfl
def zb7 (l:Int)(a:za)(k:Nat):(Iu l a k).length=k:=by simp[Iu]
def SL (a:za)(l:Int)(c:Nat):Wi l ((List.range c).map (Ao a l))=Lw a l 0 c:=by
 unfold Wi Iu Lw;rw[yg,List.length_range,Vc,<- List.range_eq_range'];refine FT λj e=>?_;unfold Eb D6;rw[<- List.map_drop,<- List.map_take];have:((List.range c).drop (4*j)).take (CD c j)=List.range' (4*j) (CD c j):=by
  apply FF
  ·simp[CD]
  ·intro i b d;simp
 rw[this]
def Q2 (b:za)(a j:Nat)(h:a+j<b.length):((b.drop a).take (j+1)).flatten=((b.drop a).take j).flatten++b[a+j]:=by
 rw[yz (by simp;omega),Ej,Ai];simp
def ZM (b:za)(a j:Nat)(l:j<=4)(h:∀d∈b,d.length<=21):((b.drop a).take j).flatten.length<=84:=by
 have:∀c:za,(∀d∈c,d.length<=21)->c.flatten.length<=c.length*21:=by
  intro c
  induction c with
  |nil=>simp
  |cons x r k =>
   intro f;have g:=f x (by simp);have i:=k (λd e=>f d (by simp[e]));rw[DP,zw,xf,BW];omega
 have g:=this ((b.drop a).take j) (λd e=>h d (jz (qa e)));have i:((b.drop a).take j).length<=4:=by rw[AM];omega
 omega
def Vj (w:World){j:Array Oper}{rest:List Oper}{o:Oper}{a:Act}{Q:Exit->Act->World->Prop}
 (k:o.guard=none) (s x:Operand) (m:o.op=Op.call {callee:=Callee.builtin Builtin.append,args:=#[s,x],argTypes:=#[137,137]})
 (B:Nat) (I:B<=w.heap.size) (v:Value) (b:Fs) (F:a.eval s=v) (e:w.ownsRow B 157 2 v b.length (vt b))
 (f t:zb) (G:a.eval x=.slice (some ⟨w.heap.size,0,none⟩) 1 1) (J:b.length<=1000000000)
 (h:∀y r,r.ownsRow B 157 2 y (b++[(f,t)]).length (vt (b++[(f,t)]))->zl (λg=>v.ownBlock=some g) [157] w r->wpList prog j Q rest (a.put o.dst y) r):wpList prog j Q (o::rest) a (w.alloc (.cells #[qy f,qy t] 157)):=by
 obtain⟨i,D,l⟩:=zx.1 SK;obtain⟨n,p,q⟩:i.zero=some (.agg #[.string ⟨#[]⟩,.string ⟨#[]⟩])/\i.size=2/\i.bytes=32:=by simpa using l
 have u:=El e (.cells #[qy f,qy t] 157);refine jf _ k s x _ m B 157 i (.agg #[.string ⟨#[]⟩,.string ⟨#[]⟩]) 2 32 underlying137 D n p q rfl (by omega) v b.length (vt b) F u ⟨w.heap.size,0,none⟩ 1 1 [qy f,qy t] G rfl (xm (zf _ _)) (by simp[qy,Value.oneCell']) (by omega) (by unfold maxLen;omega) (by omega) (by simp;omega) (w.heap.size+1) (by simp) λg z H d c A E=>?_;refine h _ H ?_ (((zl.refl (λg=>v.ownBlock=some g) [157] w).alloc _).grown u c (λg C=>.inl C) (by simp));rw[zw,Jp];exact d
def NC (v dv:Value)(i:Fs)(l:Int)(a:za)(B:Nat)(w:World)(hB:B<=w.heap.size)(hf:w.ownsRow B 157 2 v i.length (vt i))(hn:i.length<=100000000)(hd:w.ownsRow B 9 1 dv a.length (a.map qy))(ao:a.length<=1000000)(af:∀d∈a,d.length<=21):
  Calls prog 181 #[v,.int .i64 l,dv] w λr w'=>∃W,r=.returned W/\zl (λk=>B<=k) [157] w w'/\w'.ownsRow B 157 2 W (i++Wi l a).length (vt (i++Wi l a)):=by
 have HF:=ze hf;have HD:=ze hd;have y:=ze af;obtain⟨da,dc,rfl⟩:=qt hd;obtain⟨va,vc,rfl⟩:=qt hf;go_enter func181,ntmps181
 go_wp2
 go_loopw [0,7] (λlv iv wr=>∃k:Nat,4*k<a.length+4/\iv=.int .i64 (4*(k:Int))/\zl (λk=>B<=k) [157] w wr/\wr.ownsRow B 157 2 lv (i++Iu l a k).length (vt (i++Iu l a k))) (λ_ iv _=>a.length+4-(intOf iv).toNat)
 case atStart=>exact⟨0,by omega,rfl,zl.refl _ _ _,by simpa[Iu]using HF.o⟩
 case round =>
  obtain⟨k,hk,rfl,ht,b⟩:=hrel;have HT:=ze ht;have Z:=ze b;obtain⟨la,lc,rfl⟩:=qt b;have R:Hid ((i++Iu l a k).length=i.length+k):=by show _=_;rw[zw,zb7]
  have P:Hid (i++Iu l a (k+1)=(i++Iu l a k)++[(qz l k (CD a.length k),((a.drop (4*k)).take (CD a.length k)).flatten)]):=by show _=_;rw[Yy,qk]
  have Y:Hid (k=(a.length+3)/4->i++Wi l a=i++Iu l a k):=λe=>by unfold Wi;rw[<- e]
  generalize i++Iu l a k=V at *
  by_cases ap:4*k<a.length
  ·by_cases h4:4<a.length-4*k
   ·have ad:(4:Int)<(a.length:Int)-4*(k:Int):=by omega
    have J:CD a.length k=4:=by unfold CD;omega
    have al:4<=4:=by omega
    have ak:1<=4:=by omega
    have am:4*k+4<=a.length:=by omega
    go_wp2_with fail;refine(C5 l k 4 (by omega) wr).mono ?_;rintro r w1 ⟨rfl,u⟩;have q:=ze (HT.o.ah u);have A:=ze (zy Z.o (zl.aa (O:=λ_=>False) (T:=[]) u) (by simp));have z:=ze (Dg (zy HD.o q.o (by decide)));rw[J]at P;have ae:((4:Nat):Int)=4:=rfl;rw[ae]at P;generalize qz l (k:Int) 4=nm at *
    go_wp2
    go_loopw [10,11] (λsv M N=>∃j:Nat,j<=4/\M=.int .i64 (4*(k:Int)+(j:Int))/\sv=.string ⟨(((a.drop (4*k)).take j).flatten).toArray⟩/\zc w1 N) (λ_ M _=>4*k+4-(intOf M).toNat)
    case atStart=>exact⟨0,by omega,by simp,by simp,zu _ _⟩
    case round =>
     obtain⟨j,hj,rfl,rfl,I⟩:=hrel;have c:=ze I
     by_cases ag:j<4
     ·obtain⟨-,-,x⟩:=z.o.at;obtain⟨Q,H,rfl,K⟩:=x (by omega);have f:4*k+j<a.length:=by omega
      have U:=K (4*k+j) f;have r1:wr.cell? ⟨Q,H+(4*k+j),none⟩=some (qy a[4*k+j]):=by rw[c.o.cell (p:=⟨Q,_,none⟩) (yf U)];exact U
      have D:=ze (Q2 a (4*k) j f);have ai:=ZM a (4*k) j (by omega) y.o;have aj:=y.o _ (ye f);unfold qy at r1;generalize a[4*k+j]=p at *;generalize ((a.drop (4*k)).take j).flatten=t at *;have b1:¬9223372036854775807<t.length+p.length:=by omega
      go_wp2
      go_roundw
      case rel=>exact⟨j+1,by omega,by go_num,by rw[D.o];first|rfl|simp,c.o⟩
      case measure=>simp[intOf];omega
     ·obtain rfl:j=4:=by omega
      have E:=ze P.o;have s:=ze (q.o.ah c.o);have m:=ze (zy A.o (zl.aa (O:=λ_=>False) (T:=[]) c.o) (by simp));have F:Hid (B<=wr.heap.size):=by have:=s.o.size;show _<=_;omega
      generalize (((a.drop (4*k)).take 4).flatten)=t at *;go_wp2_with (at_builtin;refine Vj wr rfl _ _ rfl B F.o (.slice la V.length lc) V rfl m.o nm t rfl (by have:=R.out;omega) ?_;intro W w3 b L;have C:=ze b;have G:=ze (s.o.trans (L.mono (λg hg=>.inl (vg m.o g hg)) (λ_ h=>h)));obtain⟨ya,yc,he⟩:=qt b;subst he)
      go_roundw
      case rel=>exact⟨k+1,by omega,by go_num,G.o,by rw[E.o];have h:=C.o;rw[zw]at h ⊢;exact h⟩
      case measure=>simp[intOf];omega
   ·have ad:¬(4:Int)<(a.length:Int)-4*(k:Int):=by omega
    have S:(a.length:Int)-4*(k:Int)=((a.length-4*k:Nat):Int):=by omega
    have ab:=ze S;clear S;obtain⟨n,an⟩:∃n:Nat,n=a.length-4*k:=⟨_,rfl⟩;have J:CD a.length k=n:=by unfold CD;omega
    have al:n<=4:=by omega
    have ak:1<=n:=by omega
    have am:4*k+n<=a.length:=by omega
    go_wp2_with fail;rw[ab.o,<- an];refine(C5 l k (n:Int) (by omega) wr).mono ?_;rintro r w1 ⟨rfl,u⟩;have q:=ze (HT.o.ah u);have A:=ze (zy Z.o (zl.aa (O:=λ_=>False) (T:=[]) u) (by simp));have z:=ze (Dg (zy HD.o q.o (by decide)));rw[J]at P;generalize qz l (k:Int) (n:Int)=nm at *
    go_wp2
    go_loopw [10,11] (λsv M N=>∃j:Nat,j<=n/\M=.int .i64 (4*(k:Int)+(j:Int))/\sv=.string ⟨(((a.drop (4*k)).take j).flatten).toArray⟩/\zc w1 N) (λ_ M _=>4*k+n-(intOf M).toNat)
    case atStart=>exact⟨0,by omega,by simp,by simp,zu _ _⟩
    case round =>
     obtain⟨j,hj,rfl,rfl,I⟩:=hrel;have c:=ze I
     by_cases ag:j<n
     ·obtain⟨-,-,x⟩:=z.o.at;obtain⟨Q,H,rfl,K⟩:=x (by omega);have f:4*k+j<a.length:=by omega
      have U:=K (4*k+j) f;have r1:wr.cell? ⟨Q,H+(4*k+j),none⟩=some (qy a[4*k+j]):=by rw[c.o.cell (p:=⟨Q,_,none⟩) (yf U)];exact U
      have D:=ze (Q2 a (4*k) j f);have ai:=ZM a (4*k) j (by omega) y.o;have aj:=y.o _ (ye f);unfold qy at r1;generalize a[4*k+j]=p at *;generalize ((a.drop (4*k)).take j).flatten=t at *;have b1:¬9223372036854775807<t.length+p.length:=by omega
      go_wp2
      go_roundw
      case rel=>exact⟨j+1,by omega,by go_num,by rw[D.o];first|rfl|simp,c.o⟩
      case measure=>simp[intOf];omega
     ·obtain rfl:j=n:=by omega
      have E:=ze P.o;have s:=ze (q.o.ah c.o);have m:=ze (zy A.o (zl.aa (O:=λ_=>False) (T:=[]) c.o) (by simp));have F:Hid (B<=wr.heap.size):=by have:=s.o.size;show _<=_;omega
      generalize (((a.drop (4*k)).take j).flatten)=t at *;go_wp2_with (at_builtin;refine Vj wr rfl _ _ rfl B F.o (.slice la V.length lc) V rfl m.o nm t rfl (by have:=R.out;omega) ?_;intro W w3 b L;have C:=ze b;have G:=ze (s.o.trans (L.mono (λg hg=>.inl (vg m.o g hg)) (λ_ h=>h)));obtain⟨ya,yc,he⟩:=qt b;subst he)
      go_roundw
      case rel=>exact⟨k+1,by omega,by go_num,G.o,by rw[E.o];have h:=C.o;rw[zw]at h ⊢;exact h⟩
      case measure=>simp[intOf];omega
  ·have X:=ze (Y.o (by omega))
   go_wp2
   go_ret;exact⟨_,rfl,HT.o,by rw[X.o];exact Z.o⟩
variable {cap off:Nat}
def zfk (e:zb)(h:e.length<=20):Ud (A0 [tb e])=NY e/\Iz (A0 [tb e])=true:=by
 have b:A0 [tb e]=[e]:=rfl;have a:Iz [e]=true:=by simp[Iz,h]
 rw[b];refine⟨?_,a⟩;rw[Ni a];simp[DB]
def zbe (a:za)(k:Nat)(h:k<a.length):Ao a (-1) k=NY a[k]:=by
 unfold Ao;rw[if_pos rfl,zj,zo h]
 rfl
def Yf (a:za)(L k:Nat):Ao a (L:Int) k=yy ((a.drop (k*4^L)).take (4^L)):=by
 unfold Ao;rw[if_neg (by omega),zz]
def zfv (n P j:Nat)(a:1<=P):j*P+P<=n↔j<n/P:=by
 have h:=BM (x:=j+1) (y:=n) (show 0<P by omega);rw[BW,Qg]at h;omega
def GJ (a:za)(l:Int)(k:Nat):za:=(List.range k).map (Ao a l)
def Qv (a:za)(l:Int)(k:Nat):(GJ a l k).length=k:=by simp[GJ]
def SD (a:za)(l:Int)(k:Nat):GJ a l (k+1)=GJ a l k++[Ao a l k]:=by
 unfold GJ;rw[DK,yv]
 rfl
def ZE {a:za}(b:∀e∈a,e.length<=20)(l:Int)(k:Nat):∀d∈GJ a l k,d.length<=21:=by
 intro d c;obtain⟨j,-,rfl⟩:=yi.1 c;exact SC b l j
def X3 (a:za):D2 a 0=Wi (-1) (GJ a (-1) a.length):=by
 unfold GJ;rw[SL];simp[D2]
def X2 (a:za)(L:Nat):D2 a (L+1)=D2 a L++Wi (L:Int) (GJ a (L:Int) (a.length/4^L)):=by
 unfold GJ;rw[SL];unfold D2;rw[DK,KA,qk];simp
def zi9 {b:Nat}{a:za}(g:∀i (h:i<a.length),w.cell? ⟨b,off+i,none⟩=some (qy a[i]))(i n:Nat)(e:i+n<=a.length)(c:a.length<=cap):La w (.slice (some ⟨b,off+i,none⟩) n (cap-i)) ((a.drop i).take n):=by
 have d:((a.drop i).take n).length=n:=by simp;omega
 refine⟨_,_,by rw[d],by omega,.inr ⟨b,off+i,rfl,λj f=>?_⟩⟩;rw[d]at f;rw[js,Ai,AP];exact g (i+j) (by omega)
def Zy (a:za)(L:Nat)(b:L<=21):(D2 a L).length<=22*((a.length+3)/4):=by
 unfold D2;rw[zw];have c:=Lx a (-1) 0 a.length;have d:=Lr (λ(k:Nat)=>Lw a (k:Int) 0 (a.length/4^k)) ((a.length+3)/4) L (λk=>by
  have h:=Lx a (k:Int) 0 (a.length/4^k);have:=DL a.length (4^k);omega)
 have e:=CK ((a.length+3)/4) b;omega
def J6 (w:World){j:Array Oper}{rest:List Oper}{o:Oper}{a:Act}{Q:Exit->Act->World->Prop}
 (l:o.guard=none) (s x:Operand) (n:o.op=Op.call {callee:=Callee.builtin Builtin.append,args:=#[s,x],argTypes:=#[22,22]})
 (B:Nat) (L:B<=w.heap.size) (v:Value) (d:za) (G:a.eval s=v) (f:w.ownsRow B 9 1 v d.length (d.map qy))
 (t:zb) (H:Nat) (C:w.heap.size=H) (I:a.eval x=.slice (some ⟨H,0,none⟩) 1 1) (M:d.length<=1000000000)
 (h:∀u y,y.ownsRow B 9 1 u (d++[t]).length ((d++[t]).map qy)->zl (λg=>v.ownBlock=some g) [9] w y->(∀g,u.ownBlock=some g->v.ownBlock=some g\/w.heap.size<=g)->wpList prog j Q rest (a.put o.dst u) y):wpList prog j Q (o::rest) a (w.alloc (.cells #[qy t] 9)):=by
 obtain⟨i,E,m⟩:=zx.1 Hf;obtain⟨p,q,r⟩:i.zero=some (.string ⟨#[]⟩)/\i.size=1/\i.bytes=16:=by simpa using m
 subst C;have z:=El f (.cells #[qy t] 9);refine jf _ l s x _ n B 9 i (.string ⟨#[]⟩) 1 16 underlying22 E p q r rfl (by omega) v d.length (d.map qy) G z ⟨w.heap.size,0,none⟩ 1 1 [qy t] I rfl (xm (zf _ _)) (by simp[qy,Value.oneCell']) (by omega) (by unfold maxLen;omega) (by omega) (by simp;omega) (w.heap.size+1) (by simp) λg A J c b k F=>?_;refine h _ J (by simpa using c) (((zl.refl (λg=>v.ownBlock=some g) [9] w).alloc _).grown z b (λg D=>.inl D) (by simp)) λK e=>?_;simp only[Value.ownBlock,zn]at e;subst e;rcases k with h|h
 ·exact .inl h
 ·exact .inr (by omega)
def UE (v:Value)(c:za)(w:World)(hn:c.length<=1000000)(ax:∀e∈c,e.length<=20)(h:La w v c):
  Calls prog 133 #[v] w λr w'=>∃x,r=.returned x/\zc w w'/\w'.ownsRow 0 157 2 x (j8 c).length (vt (j8 c)):=by
 have HS:=ze h;have F:=ze ax;obtain⟨a,H,rfl,ag,-⟩:=h;clear ax;go_enter func133,ntmps133
 go_wp2
 go_loopw [4,5] (λdv iv wr=>∃k:Nat,k<=c.length/\iv=.int .i64 k/\zc w wr/\wr.ownsRow w.heap.size 9 1 dv (GJ c (-1) k).length ((GJ c (-1) k).map qy)) (λ_ iv _=>c.length-(intOf iv).toNat)
 case atStart=>exact⟨0,yk _,rfl,zu _ _,⟨rfl,.inl ⟨rfl,rfl⟩⟩⟩
 case round =>
  obtain⟨k,hk,rfl,q,d⟩:=hrel;have m:=ze q;obtain⟨da,dc,rfl⟩:=qt d;have C:=ze d;clear q d
  by_cases V:k<c.length
  ·obtain⟨-,-,E⟩:=HS.o.at;obtain⟨b,J,rfl,X⟩:=E (by omega);have y1:=X k V;have r1:wr.cell? ⟨b,J+k,none⟩=some (.string (tb c[k])):=by rw[m.o.cell (p:=⟨b,_,none⟩) (yf y1)];exact y1
   have ah:=F.o _ (ye V);have Q:Hid (GJ c (-1) (k+1)=GJ c (-1) k++[NY c[k]]):=by show _=_;rw[SD,zbe c k V]
   have u:(GJ c (-1) k).length=k:=Qv _ _ _;have G:=ze u;clear y1 X E u;generalize c[k]=e at *;have y:=ze (zfk e ah);have al:CT wr (.slice (some ⟨b,J+k,none⟩) 1 (H-k)) [tb e]:=by
    refine⟨_,_,rfl,by simp;omega,.inr ⟨b,J+k,rfl,λi hi=>?_⟩⟩;obtain rfl:i=0:=by simpa using hi
    exact r1
   have ae:=ze al;have aC:¬H=k:=by omega
   have aH:k+1<=H:=by omega
   clear al r1;go_wp2_with fail;refine(Jt _ [tb e] wr (by simp) (λs hs=>by obtain rfl:s=tb e:=(by simpa using hs);show e.toArray.size<=_;simp;omega) (by exact ae.o)).mono ?_;rintro r w1 ⟨rfl,n⟩;rw[y.o.1,y.o.2];have z:=ze (m.o.trans (n.mono m.o.size));have f:=ze (zy C.o (zl.aa (O:=λ_=>False) (T:=[]) n) (by simp));clear n C ae;generalize NY e=t at *;unfold AL;go_wp2_with (at_builtin;refine J6 w1 rfl _ _ rfl w.heap.size z.o.size (.slice da (GJ c (-1) k).length dc) (GJ c (-1) k) rfl f.o t _ rfl rfl (by have:=G.o;omega) ?_;intro v' w3 d B _;have S:=ze d;have N:Hid (zc w w3):=z.o.trans (B.below (vg f.o) z.o.size);obtain⟨ya,yc,he⟩:=qt d;subst he;clear d B)
   go_roundw
   case rel=>exact⟨k+1,by omega,by go_num,N.o,by rw[Q.o];have h:=S.o;rw[zw]at h ⊢;exact h⟩
   case measure=>simp[intOf];omega
  ·obtain rfl:k=c.length:=by omega
   have u:Hid ((GJ c (-1) c.length).length<=1000000):=by show _<=_;rw[Qv];exact hn
   go_wp2_with fail;refine(NC _ _ [] (-1) (GJ c (-1) c.length) w.heap.size wr m.o.size ⟨rfl,.inl ⟨rfl,rfl⟩⟩ (by simp) C.o u.out (ZE F.o _ _)).mono ?_;rintro r w1 ⟨x1,rfl,D,g⟩;have y:=ze (m.o.trans (D.below (λ_ h=>h) m.o.size));rw[Cn,<- X3]at g;obtain⟨xa,xc,rfl⟩:=qt g;have f:=ze g;clear D g C m u
   go_wp2
   go_loopw [3,4,8,9] (λov dv uv av wr=>∃L:Nat,L<=10/\uv=.int .i64 ((4^L:Nat):Int)/\av=.int .i64 (L:Int)/\zc w wr/\wr.ownsRow w.heap.size 157 2 ov (D2 c L).length (vt (D2 c L))) (λ_ _ _ av _=>11-(intOf av).toNat)
   case atStart=>exact⟨0,by omega,rfl,rfl,y.o,f.o⟩
   case round =>
    obtain⟨L,hL,rfl,rfl,q,d⟩:=hrel;clear y f;have m:=ze q;obtain⟨oa,oc,rfl⟩:=qt d;have C:=ze d;clear q d;have az:1<=4^L:=jp (by omega);have ab:Hid (L=10->1000000<4^L):=λe=>by subst e;decide
    have aw:=ze (X2 c L);have ar:Hid (c.length<4^L->D2 c L=j8 c):=λh=>Zx c L h (by omega);have am:=ze (Yf c L);have aq:Hid (((4^L:Nat):Int)*4=((4^(L+1):Nat):Int)):=by show _=_;rw[xp];push_cast;rfl
    have au:=ze (Zy c L (by omega));have ao:Hid (L=10\/L+1<=10):=by show _\/_;omega
    generalize 4^L=P at *
    by_cases hP:P<=c.length
    ·have ay:L+1<=10:=by
      rcases ao.o with e|e
      ·have:=ab.o e;omega
      ·exact e
     have aA:Hid (∀j:Nat,j*P+P<=c.length↔j<c.length/P):=λj=>zfv c.length P j az
     go_wp2
     go_loopw [4,10] (λdv jv W=>∃j:Nat,j<=c.length/P/\jv=.int .i64 (j:Int)/\zc w W/\W.ownsRow w.heap.size 157 2 (.slice oa (D2 c L).length oc) (D2 c L).length (vt (D2 c L))/\W.ownsRow w.heap.size 9 1 dv (GJ c (L:Int) j).length ((GJ c (L:Int) j).map qy)) (λ_ jv _=>c.length/P-(intOf jv).toNat)
     case atStart=>exact⟨0,yk _,rfl,m.o,C.o,⟨rfl,.inl ⟨rfl,rfl⟩⟩⟩
     case round =>
      obtain⟨j,hj,rfl,q,ai,d⟩:=hrel;clear m C;have m:=ze q;have C:=ze ai;obtain⟨da,dc,rfl⟩:=qt d;have R:=ze d;obtain⟨A,I⟩:∃A,j*P=A:=⟨_,rfl⟩;have hA:(j:Int)*(P:Int)=(A:Int):=by rw[<- I];push_cast;rfl
      have aE:((j:Int)+1)*(P:Int)=(A:Int)+(P:Int):=by rw[Int.add_mul,hA];omega
      have U:=aA.out j;rw[I]at U;have Z:=ze U;have Y:=ze I;have Q:=ze (SD c (L:Int) j);have u:(GJ c (L:Int) j).length=j:=Qv _ _ _;have G:=ze u;have aG:=zt hj (DL _ _);have aB:=ze hj;have aF:A<=c.length:=by rw[<- Y.o];exact zt (CK P hj) (Nat.div_mul_le_self _ _)
      clear q ai d I U u hj
      by_cases ak:A+P<=c.length
      ·have M:Hid (j<c.length/P):=Z.o.1 ak;obtain⟨-,-,E⟩:=HS.o.at;obtain⟨b,J,rfl,X⟩:=E (by omega);have af:=ze (zi9 (λi hi=>by rw[m.o.cell (p:=⟨b,_,none⟩) (yf (X i hi))];exact X i hi) A P ak ag);have ad:Hid (Ao c (L:Int) j=yy ((c.drop A).take P)):=by show _=_;rw[am.o j,Y.o]
       have aC:¬H=A:=by omega
       clear X E;go_wp2_with fail;refine(Dl _ ((c.drop A).take P) wr (by simp;omega) (λl hl=>F.o l (jz (qa hl))) (by exact af.o)).mono ?_;rintro r w1 ⟨rfl,n⟩;rw[<- ad.o];have z:=ze (m.o.trans (n.mono m.o.size));have K:=ze (zy R.o (zl.aa (O:=λ_=>False) (T:=[]) n) (by simp));have f:=ze (zy C.o (zl.aa (O:=λ_=>False) (T:=[]) n) (by simp));clear n C R af ad;generalize Ao c (L:Int) j=t at *;go_wp2_with (at_builtin;refine J6 w1 rfl _ _ rfl w.heap.size z.o.size (.slice da (GJ c (L:Int) j).length dc) (GJ c (L:Int) j) rfl K.o t _ rfl rfl (by have:=G.o;omega) ?_;intro v' w3 d B _;have S:=ze d;have ap:=ze (zy f.o B (by decide));have N:Hid (zc w w3):=z.o.trans (B.below (vg K.o) z.o.size);obtain⟨ya,yc,he⟩:=qt d;subst he;clear d B)
       go_roundw
       case rel=>exact⟨j+1,by have:=M.out;omega,by go_num,N.o,ap.o,by rw[Q.o];have h:=S.o;rw[zw]at h ⊢;exact h⟩
       case measure =>
        have:=M.out;simp[intOf];omega
      ·have aD:¬(A:Int)+(P:Int)<=(c.length:Int):=by omega
       have aj:j=c.length/P:=by
        have:=aB.out;have h2:=Z.o;omega
       have an:=ze aj;clear aj;go_wp2_with fail;refine(NC _ _ (D2 c L) (L:Int) (GJ c (L:Int) j) w.heap.size wr m.o.size C.o (by have:=au.o;omega) R.o (by have:=G.o;omega) (ZE F.o _ _)).mono ?_;rintro r w1 ⟨x1,rfl,D,g⟩;have y:=ze (m.o.trans (D.below (λ_ h=>h) m.o.size));rw[an.o,<- aw.o]at g;obtain⟨aI,aJ,he⟩:=qt g;subst he;have f:=ze g;clear D g
       go_wp2
       go_roundw
       case rel=>exact⟨L+1,ay,congrArg (Value.int .i64) aq.o,by go_num,y.o,f.o⟩
       case measure=>simp[intOf];omega
    ·have HW:Hid (D2 c L=j8 c):=ar.o (by omega)
     go_wp2
     go_ret;have ho:=C.o;rw[HW.o]at ho;exact⟨_,rfl,m.o,by rw[HW.o];exact MI ho (yk _)⟩
def Db (c:B<=w.heap.size)(b:∀k,O k->B<=k/\k<w.heap.size)(d:w.heap.size<=w'.heap.size):∀k,qv O w w' k->B<=k/\k<w'.heap.size:=by
 intro k a;rcases a with a|a
 ·exact⟨(b k a).1,zq (b k a).2 d⟩
 ·exact⟨zt c a.1,a.2⟩
def Jz.below {x:Wd}{s:List Nat}{n:Nat}(h:Jz w O wb db lv ev x d s n)(t:zc w w'):Jz w' (qv O w w') wb db lv ev x d s n:=by
 obtain⟨h0,o,p,q,r⟩:=h;have a:zl O [] w w':=.aa t;refine⟨h0,a.keep o (by simp),(p.stay a (by simp) (by simp)).mono (λ_ h=>.inl h),q,?_⟩;rcases r with h|⟨y,v,c,b,e,f,i,j,k,l,m⟩
 ·exact .inl h
 ·exact .inr ⟨y,v,c,b,e,.inl f,a.keep i (by simp),(j.stay a (by simp) (by simp) (by simp)).mono (λ_ h=>.inl h),zy k a (by simp),λg u=>.inl (l g u),m⟩
variable {fs2:Fs}
def PK (x:Wd)(a:za):zb:=AR a.length (yy a) x.key
def zld {n:Nat}{x:Wd}{s:List Nat}{a:za}{b:Nat}(M:n<=4100)(h:Num n x d s)(m:Ent x d s a b)(l:x.failed=false)(F:fs2.Perm d.fs)(D:Ep fs2 (j8 a)=false)(E:x'.key=x.key):
  Num (n+1) x' (CZ (A9 a b) (PK x a) d).2 s/\Ip (j8 a) (PK x a) d.fs (CZ (A9 a b) (PK x a) d).2.fs/\zan (j8 a) /\
   (((CZ (A9 a b) (PK x a) d).1=none/\Fz (CZ (A9 a b) (PK x a) d).2/\xr (CZ (A9 a b) (PK x a) d).2.fs CA=some (PK x a)/\∀f∈j8 a,xr (CZ (A9 a b) (PK x a) d).2.fs f.1=some f.2) \/
    ((∃p,(CZ (A9 a b) (PK x a) d).1=some p/\(p=CA\/∃x,(p,x)∈j8 a))/\(CZ (A9 a b) (PK x a) d).2.hit=true)):=by
 have z:=Nl m;have G:=h.small;have o:a.length<=1000000:=by omega
 have g:=TN o;have v:EV d.fs (j8 a):=by
  have j:=Ui D;intro q y H;have:=j q y H;rw[Dy h.apart F]at this;exact this
 obtain⟨k,i⟩:=m.there l;obtain⟨w,t1,r,j⟩:=zlc (c:=PK x a) g k h.apart h.au v (λf l=>zeb f l);have u:(PK x a).length<=1048576:=by
  have L:(yy a).length=8:=j5 _ _;have j:=AA (a.length:Int) (by omega) (by omega);rw[zz]at j;have B:=BZ (yy a);have C:(JI a.length (yy a) x.key).length=16:=by unfold JI;rw[BZ];rfl
  have K:Da.length<=10:=by decide
  unfold PK;rw[ID];simp only[zw,xf,jq];omega
 refine⟨⟨w,zg4 m.short h.data u (by omega) w r,?_,XJ h.ba m.ins r,by omega,by rw[E];exact h.key,t1⟩,r,g,?_⟩
 ·have j:=WL (A9 a b) (PK x a) d;have B:=Xu a b;have C:=h.count;omega
 ·rcases j with ⟨e,A,I,J⟩|j
  ·refine .inl ⟨e,A,I,λf l=>?_⟩;rcases Z0 m.le f l with t|t
   ·exact J f t
   ·exact r.stays (i f t) (λe=>g.2 f.2 (by rw[<- e];exact l))
  ·exact .inr j
def ZL (n:Nat):∀(c:za) (k:Nat) (h:k<c.length),(∀l∈c,l.length=n)->(c.flatten.drop (n*k)).take n=c[k]
 |[],k,h,_=>by simp at h
 |a::r,0,_,b=>by
  have e:=b a (by simp);rw[Nat.mul_zero,Qe,DP,vr (by omega),xn (by omega)]
  rfl
 |a::r,k+1,h,b=>by
  have e:=b a (by simp);rw[DP,show n*(k+1)=a.length+n*k by rw[e,Nat.mul_add,Ba,NT],List.drop_append];simp only[A8];rw[List.drop_of_length_le (show a.length<=a.length+n*k by omega),Cn,Em];exact ZL n r k (by simpa using h) (λl d=>b l (by simp[d]))
def ZD (a:za)(L j:Nat):(Ao a (L:Int) j).length=8:=by
 unfold Ao;rw[if_neg (by omega)];exact j5 _ _
def TD (a:za)(L j w:Nat)(h:j%4<w):((D6 a (L:Int) (j/4) w).drop (8*(j%4))).take 8=Ao a (L:Int) j:=by
 unfold D6;rw[ZL 8 _ (j%4) (by simpa using h) (λl b=>by
  obtain⟨k,-,rfl⟩:=yi.1 b;exact ZD a L k)]
 rw[A5,List.getElem_range'];congr 1;omega
def RH (e:za)(L j w:Nat):(D6 e (L:Int) j w).length=8*w:=by
 have d:∀b:za,(∀l∈b,l.length=8)->b.flatten.length=8*b.length:=by
  intro b
  induction b with
  |nil=>simp
  |cons a r f =>
   intro h;rw[DP,zw,h a (by simp),f (λl c=>h l (by simp[c])),xf];omega
 unfold D6;rw[d _ (λl c=>by
  obtain⟨k,-,rfl⟩:=yi.1 c;exact ZD e L k)]
 simp
section
abbrev Pl:=Int×Int×Int
structure Pc where
 there:Bool
 fits:Bool
 hash:zb
 entry:zb
def BE:zb:=[0,0,0,0,0,0,0,0]
def Pc.no:Pc:=⟨false,false,BE,[]⟩
abbrev Fl:=List Pc
def Fl.no:Fl:=[.no,.no,.no,.no]
abbrev Mm:=List (Pl×Fl)
def Mm.get (m:Mm)(k:Pl):Option Fl:=match m.find? (λx=>decide (x.1=k))with
 |some x=>some x.2
 |none=>none
def Mm.drop (m:Mm)(k:Pl):Mm:=m.filter λx=>!decide (x.1=k)
def Mm.put (a:Int)(m:Mm)(k:Pl)(f:Fl):Mm:=if a<((m.drop k++[(k,f)]).length:Int) then (m.drop k++[(k,f)]).tail else m.drop k++[(k,f)]
def Mm.set (m:Mm)(k:Pl)(f:Fl):Mm:=m.map λx=>if x.1=k then (k,f) else x
def Mm.ok (m:Mm):Prop:=(m.map (·.1)).Nodup
def Bg (n:Nat):Nat:=Lib.ctz 64 n/2
def yd (a:Nat)(l:Int)(j:Nat):Pl:=(l,((j/4:Nat):Int),min ((qx l a:Int)-((j/4:Nat):Int)*4) 4)
def K5 (w:Nat)(d:zb):Fl:=(List.range 4).map λk=>if k<w then ⟨true,false,(d.drop (8*k)).take 8,[]⟩ else .no
def Mw (a:za):Fl:=(List.range 4).map λk=>if k<a.length then ⟨true,false,AH (a.getD k []),a.getD k []⟩ else .no
def FQ (l w:Int)(d:zb):Option Fl:=
 if l=-1 then (match DV d with
  |some a=>if (a.length:Int)=w then some (Mw a) else none
  |none=>none)
 else if (d.length:Int)=w*8 then some (K5 w.toNat d) else none
def G3 (f c:Fl):Fl:=List.zipWith (λa b=>if a.fits then a else b) f c
def GY (f:Fl):Fl:=f.map λp=>if p.fits then p else .no
def M4 (f:Fl):Option (zb):=match f with
 |[a,b,c,d]=>if a.fits&&b.fits&&c.fits&&d.fits then some (vf (vf a.hash b.hash) (vf c.hash d.hash)) else none
 |_=>none
def KH (p:Pl):zb:=qz p.1 p.2.1 p.2.2
section
variable {σ:Type}(fe:σ -> zb -> (zb × Bool) × σ)
def B0 (s:σ)(p:Pl):Option Fl×σ:=(if (fe s (KH p)).1.2 then FQ p.1 p.2.2 (fe s (KH p)).1.1 else none,(fe s (KH p)).2)
structure Ms (σ:Type) where
 al:σ
 ag:Mm
def j6 (proved ag:Mm)(p:Pl):Fl:=match ag.get p with
 |some f=>f
 |none=>match proved.get p with
  |some f=>f
  |none=>.no
def Bl (f:Fl)(k:Nat):Fl:=f.modify k λp=>{p with fits:=true}
def BI (proved:Mm)(a:Nat)(m:Ms σ)(l:Int)(j:Nat):Sum (zb) Pc×Ms σ:=
 if ((j6 proved m.ag (yd a l j)).getD (j%4) .no).there then
  (.inr ((Bl (j6 proved m.ag (yd a l j)) (j%4)).getD (j%4) .no),
   {m with ag:=m.ag.drop (yd a l j)++[(yd a l j,Bl (j6 proved m.ag (yd a l j)) (j%4))]})
 else match B0 fe m.al (yd a l j)with
  |(none,s)=>(.inl (KH (yd a l j)),{m with al:=s})
  |(some b,s)=>(.inr ((Bl (G3 (j6 proved m.ag (yd a l j)) b) (j%4)).getD (j%4) .no),
   {al:=s,ag:=m.ag.drop (yd a l j)++[(yd a l j,Bl (G3 (j6 proved m.ag (yd a l j)) b) (j%4))]})
def AE (proved:Mm)(size:Nat):Nat->Ms σ->Nat->Nat->Sum (zb) (zb)×Ms σ
 |0,m,_,_=>(.inr BE,m)
 |f+1,m,a,n =>
  if n/4^Bg n=1 then (match BI fe proved size m (Bg n:Nat) (a/4^Bg n)with
   |(.inl e,b)=>(.inl e,b)
   |(.inr p,b)=>(.inr p.hash,b))
  else match AE proved size f m a (yo n)with
   |(.inl e,b)=>(.inl e,b)
   |(.inr x,b)=>match AE proved size f b (a+yo n) (n-yo n)with
    |(.inl e,c)=>(.inl e,c)
    |(.inr y,c)=>(.inr (vf x y),c)
def Ax (proved:Mm)(size:Nat)(m:Ms σ):List (Nat×Nat)->Sum (zb) (za)×Ms σ
 |[]=>(.inr [],m)
 |s::r=>match AE fe proved size 64 m s.1 s.2 with
  |(.inl e,a)=>(.inl e,a)
  |(.inr x,a)=>match Ax proved size a r with
   |(.inl e,b)=>(.inl e,b)
   |(.inr c,b)=>(.inr (x::c),b)
end
def Ac (size:Nat):Nat->Mm->Nat->Nat->zb->Mm
 |0,a,_,_,_=>a
 |f+1,a,l,j,h=>match a.get (yd size l j)with
  |none=>a
  |some b=>match M4 (b.set (j%4) ⟨true,true,h,[]⟩)with
   |some up=>Ac size f (a.set (yd size l j) (b.set (j%4) ⟨true,true,h,[]⟩)) (l+1) (j/4) up
   |none=>a.set (yd size l j) (b.set (j%4) ⟨true,true,h,[]⟩)
def GU (b l:Fl):Fl:=List.zipWith (λp q=>if p.there&&q.fits&&decide (p.hash=q.hash) then {p with fits:=true} else p) b l
def AO (a:Nat)(d:Mm)(i:Nat)(c:zb):Mm:=
 match (Ac a 64 d 0 i c).get (yd a 0 i)with
 |none=>Ac a 64 d 0 i c
 |some e=>match (Ac a 64 d 0 i c).get (yd a (-1) i)with
  |none=>Ac a 64 d 0 i c
  |some b=>(Ac a 64 d 0 i c).set (yd a (-1) i) (GU b e)
def F9 (a:Nat)(d:Mm)(b:Nat)(c:zb):Mm:=
 match d.get (yd a (Bg b:Nat) (b/4^Bg b-1))with
 |none=>d
 |some e =>
  if b/4^Bg b-1=0 then Ac a 64 d (Bg b) 0 c
  else if b/4^Bg b-1=1 then
   (if vf (e.getD 0 .no).hash (e.getD 1 .no).hash=c then Ac a 64 (d.set (yd a (Bg b:Nat) 1) (Bl e 0)) (Bg b) 1 (e.getD 1 .no).hash else d)
  else Ac a 64 d (Bg b) (b/4^Bg b-1) (e.getD ((b/4^Bg b-1)%4) .no).hash
def qd (b:Int)(a c:Mm):Mm:=c.foldl (λd x=>d.put b x.1 (GY x.2)) a
end
end Go.Proofs.YtfdbeldiomkdiaaGreatDoor
