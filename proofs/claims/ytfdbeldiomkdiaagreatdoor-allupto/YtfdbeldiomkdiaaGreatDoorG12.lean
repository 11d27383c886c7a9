import Derived.Test.YtfdbeldiomkdiaaGreatDoorG11
set_option maxHeartbeats 8000000
set_option maxRecDepth 100000
set_option linter.all false
namespace Go.Proofs.YtfdbeldiomkdiaaGreatDoor
open Go.RowKit Go.Proofs.Tryz
def Aj:=@List.nodup_append
def An:=@Obj.cells.injEq
def AK:=@List.nodup_cons
def BT:=@List.getElem?_drop
def FF:=@List.ext_getElem
def KU:=@List.set_cons_succ
def Mz:=@heap_setCell_same
def Qe:=@List.drop_zero
def Z7 (s:zb)(j:Nat)(h:j+1<s.length):(⟨s.toArray⟩:ByteArray)[j+1]'(by show j+1<s.toArray.size;simpa using h)=(s.drop 1).getD j 0:=by
 show s.toArray[j+1]=_;rw[zj,BT,show 1+j=j+1 by omega,zo h];simp
def VS (a rest:zb)(j:Nat)(h:j<2*a.length):FP (((10::(AY a++rest)).drop 1).getD j 0):=by
 have b:=BZ a;rw[K9,Qe,zj,qh (by omega),zo (by omega)];exact Np a _ (ye _)
def O6 (l:zb):∀k,(LC l k).length=k
 |0=>rfl
 |k+1=>by rw[LC,zw,O6 l k];rfl
def Kx (t d:zb)(ht:t.length<=1048576)(hk:d.length<=2097152)(w:World):
  Calls prog 41 #[.string ⟨t.toArray⟩,.string ⟨d.toArray⟩] w λr w'=>zc w w' /\
   ((∃n c,vq t d n c/\r=.returned (.tuple #[.int .i64 n,.string ⟨c.toArray⟩,.bool true]))\/((∀n c,¬vq t d n c)/\r=.returned (.tuple #[.int .i64 0,.string ⟨#[]⟩,.bool false]))):=by
 go_enter func41,ntmps41;go_wp2_with fail;refine(Iq t Da w).mono ?_;rintro r w1 ⟨rfl,J⟩;have p:=ze J;have v:Hid (∀n c,vq t d n c->CP t Da=(DD n++(10::(AY c++(10::(JI n c d++[10])))),true)):=λn c h=>by
  rw[h.2.2,ID,Ld]
 have N:=Le t Da;generalize CP t Da=bt at *;obtain⟨s,bo⟩:=bt;simp only[]at v N ⊢;cases bo with
 |false =>
  have g:Hid (∀n c,¬vq t d n c):=λn c h=>by
   have:=v.o n c h;simp at this
  go_wp2
  go_ret3
  exact⟨p.o,.inr ⟨g.o,rfl⟩⟩
 |true =>
  go_wp2_with fail;refine(Gx s (by omega) w1).mono ?_;rintro r w2 ⟨rfl,K⟩;have q:=ze (p.o.trans (K.mono p.o.size));have j:Hid (∀n c,vq t d n c->Cs s=(n,(10::(AY c++(10::(JI n c d++[10])))),true)):=λn c h=>by
   have e:=v.o n c h;simp only[xj,EL]at e;rw[e,JJ n h.1 _ (U1 _)]
  have P:=Iy s;generalize Cs s=ns at *;obtain⟨n,f,no⟩:=ns;simp only[]at j P ⊢;cases no with
  |false =>
   have g:Hid (∀n c,¬vq t d n c):=λn c h=>by
    have:=j.o n c h;simp at this
   go_wp2
   go_ret3
   exact⟨q.o,.inr ⟨g.o,rfl⟩⟩
  |true =>
   by_cases aa:f.length<17
   ·have V:(f.length:Int)<17:=by omega
    have g:Hid (∀n c,¬vq t d n c):=λn c h=>by
     have:=j.o n c h;simp only[xj,EL]at this;have e:=congrArg List.length this.2;simp only[xf,zw,BZ,h.2.1]at e;omega
    go_wp2
    go_ret3
    exact⟨q.o,.inr ⟨g.o,rfl⟩⟩
   ·have V:¬(f.length:Int)<17:=by omega
    have A:Hid (∀m c,vq t d m c->m=n/\∃rest,f=10::(AY c++rest)):=λm c h=>by
     have:=j.o m c h;simp only[xj,EL]at this;exact⟨this.1.symm,_,this.2⟩
    go_wp2
    go_loopw [10,11] (λu i wr=>∃k:Nat,k<=8/\i=.int .i64 (2*(k:Int)+1)/\zc w wr/\u=.string ⟨(LC (f.drop 1) k).toArray⟩) (λ_ i _=>17-(intOf i).toNat)
    case atStart=>exact⟨0,yk _,rfl,q.o,rfl⟩
    case round =>
     obtain⟨k,ae,rfl,M,rfl⟩:=hrel;have y:=ze M
     by_cases af:k<8
     ·have ab:∀(h:(2*(k:Int)+1).toNat<(⟨f.toArray⟩:ByteArray).size),(⟨f.toArray⟩:ByteArray)[(2*(k:Int)+1).toNat]=(f.drop 1).getD (2*k) 0:=λh=>by
       have e:(2*(k:Int)+1).toNat=2*k+1:=by omega
       simp only[e];exact Z7 f (2*k) (by omega)
      have ad:∀(h:(2*(k:Int)+1+1).toNat<(⟨f.toArray⟩:ByteArray).size),(⟨f.toArray⟩:ByteArray)[(2*(k:Int)+1+1).toNat]=(f.drop 1).getD (2*k+1) 0:=λh=>by
       have e:(2*(k:Int)+1+1).toNat=2*k+1+1:=by omega
       simp only[e];exact Z7 f (2*k+1) (by omega)
      have HP:Hid (LC (f.drop 1) (k+1)=LC (f.drop 1) k++[UInt8.ofNat (16*nv ((f.drop 1).getD (2*k) 0)+nv ((f.drop 1).getD (2*k+1) 0))]):=rfl;have Z:Hid (∀m c,vq t d m c->FP ((f.drop 1).getD (2*k) 0)/\FP ((f.drop 1).getD (2*k+1) 0)):=λm c h=>by
       obtain⟨_,rest,e⟩:=A.o m c h;rw[e];exact⟨VS c rest (2*k) (by rw[h.2.1];omega),VS c rest (2*k+1) (by rw[h.2.1];omega)⟩
      have x:=O6 (f.drop 1) k;generalize (f.drop 1).getD (2*k) 0=H at *;generalize (f.drop 1).getD (2*k+1) 0=I at *;generalize LC (f.drop 1) k=m at *;have g1:(2*(k:Int)+1)<(f.length:Int):=by omega
      have g2:(2*(k:Int)+1+1)<(f.length:Int):=by omega
      have g3:(2*(k:Int)+1)<17:=by omega
      go_wp2_with fail;refine(TM H wr).mono ?_;rintro r w3 ⟨v1,rfl,rfl,T⟩;have G:=ze T;go_wp2_with fail;refine(TM I w3).mono ?_;rintro r W ⟨v2,rfl,rfl,U⟩;rcases G.o with ⟨X,C⟩|⟨X,C⟩
      ·rcases U with ⟨Y,D⟩|⟨Y,D⟩
       ·have y1:=zho H X;have y2:=zho I Y;generalize nv H=a at *;generalize nv I=b at *;subst C D;have p1:¬(a:Int)<0:=by omega
        have p2:¬(b:Int)<0:=by omega
        have ag:IntKind.u8.wrap (16*(a:Int)+(b:Int))=16*(a:Int)+(b:Int):=by rw[CW];omega
        have O:=G2 (W.alloc (.cells #[.int .u8 (16*(a:Int)+(b:Int))] 5)) W.heap.size 1 1 [UInt8.ofNat (16*a+b)] 5 (0,0) rfl (by rw[zf];simp[hv,bv];omega);unfold AL at O;have bb:¬9223372036854775807<m.length+1:=by omega
        go_wp2_with fail;refine⟨⟨k+1,by omega,(by first|rfl|(congr 1;done)|(congr 1;omega)),y.o.trans ((zi W _).mono y.o.size),?_⟩,by simp[intOf];omega⟩;rw[HP.o];congr 1;apply Ah;simp
       ·have g:Hid (∀n c,¬vq t d n c):=λn c h=>Y (Z.o n c h).2;subst D;have y1:¬v1<0:=by omega
        go_wp2
        go_ret3
        exact⟨y.o,.inr ⟨g.o,rfl⟩⟩
      ·have g:Hid (∀n c,¬vq t d n c):=λn c h=>X (Z.o n c h).1;subst C
       go_wp2
       go_ret3
       exact⟨y.o,.inr ⟨g.o,rfl⟩⟩
     ·obtain rfl:k=8:=by omega
      have x:=O6 (f.drop 1) 8;have F:Hid (∀m c,vq t d m c->m=n/\LC (f.drop 1) 8=c):=λm c h=>by
       obtain⟨C,rest,D⟩:=A.o m c h;refine⟨C,?_⟩;rw[D,K9,Qe,zcq c rest 8 (by rw[h.2.1];exact zk _),xn (by rw[h.2.1];exact zk _)]
      generalize LC (f.drop 1) 8=R at *;go_wp2_with fail;refine(LO n (by omega) (by omega) R d x hk wr).mono ?_;rintro r w5 ⟨rfl,L⟩;have z:=ze (y.o.trans (L.mono y.o.size));rw[zz];generalize hS:AR n R d=S at *;have B:=ze hS
      by_cases l:S=t
      ·have Q:(S==t)=true:=by rw[CY];exact l
       have E:Hid (vq t d n R):=⟨by omega,x,by rw[<- l,<- B.o]⟩
       go_wp2
       go_ret3
       exact⟨z.o,.inl ⟨n,R,E.o,rfl⟩⟩
      ·have Q:(S==t)=false:=by rw[yp];exact l
       have g:Hid (∀n c,¬vq t d n c):=λm c h=>by
        obtain⟨rfl,rfl⟩:=F.o m c h;exact l (by rw[<- B.o];exact h.2.2.symm)
       go_wp2
       go_ret3
       exact⟨z.o,.inr ⟨g.o,rfl⟩⟩
def zob (l:zb)(h:l.length=8):e8 l=l:=by
 unfold e8;rw[xn (by omega),h];simp
def Xm (n:Nat)(a b:zb)(e:n<=9223372036854775807)(d:a.length=8):(AR n a b).length<=1048576:=by
 have c:=AA (n:Int) (by omega) (by omega);rw[zz]at c;rw[ID];unfold JI;simp only[zw,xf,jq,BZ,d,Jc,Da];omega
def zd4 (n:Int)(ab:-9223372036854775808<=n)(M:n<=9223372036854775807)(H G tx:ByteArray)(hr:H.size<=maxLen)(W:G.size<=maxLen)(X:tx.size<=maxLen)(w:World)(E:DW w):
  Calls prog 10 #[.int .i64 n,.string H,.string G,.string tx] w λr w'=>r=.returned (.bool true)/\zc w w':=by
 obtain⟨b,rfl⟩:∃l:zb,H=⟨l.toArray⟩:=⟨H.data.toList,by simp⟩;obtain⟨a,rfl⟩:∃l:zb,G=⟨l.toArray⟩:=⟨G.data.toList,by simp⟩;obtain⟨t,rfl⟩:∃l:zb,tx=⟨l.toArray⟩:=⟨tx.data.toList,by simp⟩;have k1:=W;have t1:=X;clear hr W X;have J:=ze E;clear E
 by_cases aa:1048576<a.length
 ·have Y:(1048576:Int)<(a.length:Int):=by omega
  go_enter func10,ntmps10
  go_wp2
  go_ret;exact⟨rfl,zu _ _⟩
 by_cases ad:1048576<t.length
 ·have Y:¬(1048576:Int)<(a.length:Int):=by omega
  have n2:(1048576:Int)<(t.length:Int):=by omega
  go_enter func10,ntmps10
  go_wp2
  go_ret;exact⟨rfl,zu _ _⟩
 have Y:¬(1048576:Int)<(a.length:Int):=by omega
 have n2:¬(1048576:Int)<(t.length:Int):=by omega
 have k2:a.length<=1048576:=by omega
 have t2:t.length<=1048576:=by omega
 go_enter func10,ntmps10
 by_cases A:n<0
 case' pos =>
  have Q:IntKind.i64.wrap (n+1)=n+1:=by rw[Cw];omega
  have T:IntKind.i64.wrap (-(n+1))=-(n+1):=by rw[Cw];omega
  have U:0<=-(n+1):=by omega
  have V:-(n+1)<=9223372036854775807:=by omega
  go_wp2_with fail;generalize -(n+1)=q at *;clear Q T
 case' neg =>
  have U:0<=n:=by omega
  have V:=M;have h0:=A;go_wp2_with fail;generalize n=q at *
 all_goals
  refine(FZ _ w).mono ?_;rintro r w1 ⟨B,p⟩;have C:=B;subst C;unfold AL;have d:=ze p;clear B p;go_wp2_with fail;refine(Sn q U V b a (by omega) w1 (J.o.below d.o)).mono ?_;rintro r w2 ⟨rfl,s⟩;have i:=ze (d.o.trans (s.mono d.o.size));clear s;have g:=CB b;have m:Hid (vq (AR q.toNat (e8 b) a) a q.toNat (e8 b)):=⟨by omega,g,rfl⟩;have L:=Xm q.toNat (e8 b) a (by omega) g;go_wp2_with fail;refine(LO q U V (e8 b) a g (by omega) w2).mono ?_;rintro r w3 ⟨rfl,u⟩;have e:=ze (i.o.trans (u.mono i.o.size));clear u;generalize AR q.toNat (e8 b) a=S at *;generalize e8 b=R at *;go_wp2_with fail;refine(LG t a (by omega) (by omega) w3 (J.o.below e.o)).mono ?_;rintro r w4 ⟨v,N⟩;have j:=ze (e.o.trans (v.mono e.o.size));clear v;rcases N with ⟨m1,R1,h,rfl⟩|⟨h,rfl⟩
  all_goals
   go_wp2_with fail;refine(Kx t a (by omega) (by omega) w4).mono ?_;rintro r w5 ⟨x,O⟩;have k:=ze (j.o.trans (x.mono j.o.size));clear x;rcases O with ⟨m2,R2,D,rfl⟩|⟨D,rfl⟩
   all_goals first|exact absurd h (D _ _)|exact absurd D (h _ _)|skip
   try (obtain⟨rfl,rfl⟩:=h.inj D;have K:=h.2.1)
   clear h D;go_wp2_with fail;refine(FZ _ w5).mono ?_;rintro r w6 ⟨c,y⟩
   first
   |rw[zob R1 K]at c
   |replace c:r=.returned (.string ⟨#[0,0,0,0,0,0,0,0]⟩):=c
   subst c
   try unfold AL
   have f:=ze (k.o.trans (y.mono k.o.size));clear y;go_wp2_with fail;refine(LG S a L (by omega) w6 (J.o.below f.o)).mono ?_;rintro r w7 ⟨z,P⟩;have I:=ze (f.o.trans (z.mono f.o.size));clear z;rcases P with ⟨n3,R3,F,rfl⟩|⟨F,rfl⟩
   ·obtain⟨e1,e2⟩:=F.inj m.o;subst e2;have Z:Hid ((n3:Int)=q):=by show _=_;omega
    rw[Z.o];clear F e1
    go_wp2
    go_ret;exact⟨by simp,I.o⟩
   ·exact absurd m.o (F _ _)
variable {B k o:Nat}{O O':Nat->Prop}{T T':List Nat}{e t:TypeId}{v:Value}{w w':World}
def Tob (T:List Nat)(o:Option Obj):Prop:=(∃c t x,o=some (.cells c t x)/\t∈T)\/∃a c,o=some (.map a c)
def Tob.more {o:Option Obj}(h:Tob T o)(a:∀t∈T,t∈T'):Tob T' o:=by
 rcases h with ⟨c,t,x,e,b⟩|h
 ·exact .inl ⟨c,t,x,e,a t b⟩
 ·exact .inr h
structure zl (O:Nat->Prop)(T:List Nat)(w w':World):Prop where
 os:w'.os=w.os
 tape:w'.tape=w.tape
 output:w'.output=w.output
 size:w.heap.size<=w'.heap.size
 block:∀k,k<w.heap.size->w'.heap[k]?=w.heap[k]?\/(O k/\Tob T w.heap[k]?)
def qv (O:Nat->Prop)(w a:World):Nat->Prop:=λk=>O k\/(w.heap.size<=k/\k<a.heap.size)
def zg {o:Obj}(h:w.heap[k]?=some o):k<w.heap.size:=by
 rcases qf k w.heap.size with a|a
 ·exact a
 ·simp[A7 a]at h
def zl.refl (O:Nat->Prop)(T:List Nat)(w:World):zl O T w w:=⟨rfl,rfl,rfl,zk _,λ_ _=>.inl rfl⟩
def zl.aa (h:zc w w'):zl O T w w':=⟨h.os,h.tape,h.output,h.size,λk a=>.inl (h.block k a)⟩
def zl.mono (h:zl O T w w')(b:∀k,O k->O' k)(c:∀t∈T,t∈T'):zl O' T' w w':=
 ⟨h.os,h.tape,h.output,h.size,λk d=>by
  rcases h.block k d with e|⟨a,e⟩
  ·exact .inl e
  ·exact .inr ⟨b k a,e.more c⟩⟩
def zl.trans {a b c:World}(h:zl O T a b)(k:zl (qv O a b) T b c):zl O T a c:=
 ⟨k.os.trans h.os,k.tape.trans h.tape,k.output.trans h.output,zt h.size k.size,λi g=>by
  rcases h.block i g with e|e
  ·rcases k.block i (zq g h.size)with f|⟨d,f⟩
   ·exact .inl (f.trans e)
   ·rcases d with d|d
    ·exact .inr ⟨d,e▸f⟩
    ·omega
  ·exact .inr e⟩
def zl.drew {a:World}(h:zl O T a w):zl O T a w.drew:=⟨h.os,h.tape,h.output,h.size,h.block⟩
def zl.drewN {a:World}(h:zl O T a w)(n:Nat):zl O T a (w.drewN n):=⟨h.os,h.tape,h.output,h.size,h.block⟩
def zl.aF {a:World}(h:zl O T a.drew w):zl O T a w:=⟨h.os,h.tape,h.output,h.size,h.block⟩
def zl.ah {a b c:World}(h:zl O T a b)(k:zc b c):zl O T a c:=h.trans (.aa k)
def zl.keep (h:zl O T w w'){c:Array Value}{x:Nat×Nat}(e:w.heap[k]?=some (.cells c t x))(g:t∉T):w'.heap[k]?=some (.cells c t x):=by
 rcases h.block k (zg e)with a|⟨-,⟨d,i,j,a,b⟩|⟨f,d,a⟩⟩
 ·rw[a];exact e
 ·rw[e]at a;simp only[zn,An]at a;exact absurd (a.2.1▸b) g
 ·rw[e]at a;simp at a
def zl.stay (h:zl O T w w'){o:Obj}(e:w.heap[k]?=some o)(b:¬O k):w'.heap[k]?=some o:=by
 rcases h.block k (zg e)with a|⟨c,-⟩
 ·rw[a];exact e
 ·exact absurd c b
def zl.set {a:World}(h:zl O T a w){b:Nat}{c:Array Value}{x:Nat×Nat}(f:qv O a w b)(e:w.heap[b]?=some (.cells c t x))(g:t∈T)(u:Value):zl O T a (w.setCell ⟨b,o,none⟩ u):=by
 refine h.trans ⟨rfl,rfl,rfl,by simp[World.setCell],λk i=>?_⟩
 by_cases d:k=b
 ·subst d;exact .inr ⟨f,.inl ⟨c,t,x,e,g⟩⟩
 ·exact .inl (Below.heap_setCell _ _ _ _ d)
def zl.alloc {a:World}(h:zl O T a w)(o:Obj):zl O T a (w.alloc o):=h.ah ((zu _ w).alloc (zk _) o)
def zl.aA {a:World}(h:zl O T a w){b:Nat}(d:a.heap.size<=b)(o:Nat)(u:Value):zl O T a (w.setCell ⟨b,o,none⟩ u):=
 ⟨h.os,h.tape,h.output,by simpa[World.setCell]using h.size,λk c=>by
  rw[Below.heap_setCell _ _ _ _ (by show k≠b;omega)];exact h.block k c⟩
def zl.grown {a:World}(h:zl O T a w){c:Nat}{s n:Nat}{xs:List Value}(o:w.ownsRow c e s v n xs)(d:w.grownBy w' v.ownBlock)(j:∀g,v.ownBlock=some g->qv O a w g)(p:e∈T):zl O T a w':=by
 refine h.trans ⟨d.os,d.tape,d.output,d.size,λk m=>?_⟩
 by_cases b:some k=v.ownBlock
 ·rcases o.2 with ⟨rfl,_⟩|⟨g,i,f,rfl,-,l,-⟩
  ·simp[Value.ownBlock]at b
  ·simp only[Value.ownBlock,zn]at b;subst b;exact .inr ⟨j k rfl,.inl ⟨f,e,(0,0),l,p⟩⟩
 ·exact .inl (d.block k m b)
def zy {s:Nat}{n:Nat}{c:List Value}(h:w.ownsRow B e s v n c)(k:zl O T w w')(j:e∉T):w'.ownsRow B e s v n c:=by
 refine⟨h.1,?_⟩;rcases h.2 with h|⟨i,a,b,d,f,g,r⟩
 ·exact .inl h
 ·exact .inr ⟨i,a,b,d,f,k.keep g j,r⟩
def Kp {s:Nat}{n:Nat}{d:List Value}(h:w.ownsRow B e s v n d)(k:zl O T w w')(j:∀g,v.ownBlock=some g->¬O g):w'.ownsRow B e s v n d:=by
 refine⟨h.1,?_⟩;rcases h.2 with h|⟨c,a,b,rfl,f,i,r⟩
 ·exact .inl h
 ·exact .inr ⟨c,a,b,rfl,f,k.stay i (j c rfl),r⟩
def zl.below (h:zl O T w w')(b:∀k,O k->B<=k)(c:B<=w.heap.size):Below B w w':=
 ⟨h.os,h.tape,h.output,h.size,λk d=>by
  rcases h.block k (by omega)with e|⟨a,-⟩
  ·exact e
  ·have:=b k a;omega⟩
def qv.base (a:∀k,O k->B<=k)(b:B<=w.heap.size):∀k,qv O w w' k->B<=k:=by
 rintro k (h|h)
 ·exact a k h
 ·omega
def qv.ak (h:O k):qv O w w' k:=.inl h
def qv.trans {a b c:World}(d:a.heap.size<=b.heap.size)(e:b.heap.size<=c.heap.size):∀k,qv (qv O a b) b c k->qv O a c k:=by
 rintro k ((h|h)|h)
 ·exact .inl h
 ·exact .inr (by omega)
 ·exact .inr (by omega)
def qv.more {a b c:World}(d:b.heap.size<=c.heap.size):∀k,qv O a b k->qv O a c k:=by
 rintro k (h|h)
 ·exact .inl h
 ·exact .inr (by omega)
abbrev Fs:=List (zb×zb)
def xr:Fs->zb->Option (zb)
 |[],_=>none
 |f::r,p=>if f.1=p then some f.2 else xr r p
def GC:Fs->zb->Option Nat
 |[],_=>none
 |f::r,p=>if f.1=p then some 0 else (GC r p).map (·+1)
def DG (fs:Fs)(p d:zb):Fs:=match GC fs p with
 |some i=>fs.set i (p,d)
 |none=>fs++[(p,d)]
def D5 (a:Fs):Prop:=(a.map (·.1)).Nodup
def Bn:∀{a:Fs}{p:zb}{i:Nat} ,GC a p=some i->∃h:i<a.length,a[i].1=p/\xr a p=some a[i].2/\∀j (c:j<i),(a[j]'(by omega)).1≠p
 |[],p,i,h=>by simp[GC]at h
 |f::r,p,i,h=>by
  unfold GC at h
  by_cases b:f.1=p
  ·rw[if_pos b]at h;obtain rfl:0=i:=by simpa using h
   exact⟨by simp,b,by simp[xr,b],λj c=>absurd c (Am _)⟩
  ·rw[if_neg b]at h;obtain⟨k,l,rfl⟩:=zx.1 h;obtain⟨m,d,e,g⟩:=Bn l;refine⟨by simp;omega,by simpa using d,by simp[xr,b];simpa using e,λj c=>?_⟩;cases j with
   |zero=>simpa using b
   |succ j=>simpa using g j (by omega)
def Bm:∀{b:Fs}{p:zb} ,GC b p=none->xr b p=none/\∀f∈b,f.1≠p
 |[],p,_=>⟨rfl,λf a=>by simp at a⟩
 |f::r,p,h=>by
  unfold GC at h
  by_cases a:f.1=p
  ·rw[if_pos a]at h;simp at h
  ·rw[if_neg a]at h;have d:GC r p=none:=by simpa using h
   obtain⟨e,i⟩:=Bm d;exact⟨by simp[xr,a,e],λg c=>by
    rcases jl.1 c with rfl|c
    ·exact a
    ·exact i g c⟩
def Ys:∀{fs:Fs}{p:zb}{i:Nat}(h:i<fs.length) ,fs[i].1=p->(∀j (d:j<i),(fs[j]'(by omega)).1≠p)->GC fs p=some i
 |[],p,i,h,_,_=>by simp at h
 |f::r,p,0,_,a,_=>by simp[GC];simpa using a
 |f::r,p,i+1,h,a,b=>by
  have c:f.1≠p:=by simpa using b 0 (by omega)
  unfold GC;rw[if_neg c,Ys (fs:=r) (p:=p) (i:=i) (by simp at h;omega) (by simpa using a) (λj d=>by simpa using b (j+1) (by omega))]
  rfl
def Je {a:Fs}{p:zb}(h:∀f∈a,f.1≠p):GC a p=none:=by
 cases e:GC a p with
 |none=>rfl
 |some i =>
  obtain⟨b,c,_⟩:=Bn e;exact absurd c (h _ (ye b))
def SR {a:Fs}{p:zb}:xr a p=none↔∀f∈a,f.1≠p:=by
 refine⟨λh=>?_,λh=>(Bm (Je h)).1⟩;cases e:GC a p with
 |none=>exact(Bm e).2
 |some i =>
  obtain⟨c,d,b,_⟩:=Bn e;rw[b]at h;simp at h
def L6 {a:Fs}{p d:zb}(h:xr a p=some d):(p,d)∈a:=by
 cases e:GC a p with
 |none=>rw[(Bm e).1]at h;simp at h
 |some i =>
  obtain⟨b,c,f,_⟩:=Bn e;rw[f]at h;obtain rfl:a[i].2=d:=by simpa using h
  rw[<- c];exact ye b
def L9:∀{b:Fs}{p d:zb} ,D5 b->(p,d)∈b->xr b p=some d
 |[],p,d,_,h=>by simp at h
 |f::r,p,d,a,h=>by
  unfold D5 at a;simp only[j4,AK]at a;rcases jl.1 h with rfl|h
  ·simp[xr]
  ·have c:f.1≠p:=λe=>a.1 (by rw[e];exact yi.2 ⟨_,h,rfl⟩);simp only[xr,c,CM];exact L9 a.2 h
def Dy {a b:Fs}(c:D5 a)(h:b.Perm a)(p:zb):xr b p=xr a p:=by
 have g:=(List.Perm.nodup_iff (h.map _)).2 c;cases e:xr a p with
 |none =>
  rw[SR]at e ⊢;exact λf i=>e f (h.mem_iff.1 i)
 |some d=>exact L9 g (h.mem_iff.2 (L6 e))
def zcw (a:Fs)(p d:zb):(DG a p d).map (·.1)=if GC a p=none then a.map (·.1)++[p] else a.map (·.1):=by
 unfold DG;cases e:GC a p with
 |none=>simp
 |some i =>
  obtain⟨g,c,_⟩:=Bn e;simp only[List.map_set,reduceCtorEq,CM];rw[<- c];apply FF
  ·simp
  ·intro j h f;rw[List.getElem_set];split
   ·rename_i b;subst b;simp
   ·rfl
def D5.set {c:Fs}(h:D5 c)(p d:zb):D5 (DG c p d):=by
 unfold D5 at *;rw[zcw];split
 ·rename_i e;rw[Aj];refine⟨h,by simp,λa g b i=>?_⟩;obtain rfl:b=p:=by simpa using i
  obtain⟨f,j,rfl⟩:=yi.1 g;exact(Bm e).2 f j
 ·exact h
def Js (a:Fs)(p d:zb):xr (DG a p d) p=some d:=by
 have:∀a:Fs,xr (DG a p d) p=some d:=by
  intro a
  induction a with
  |nil=>simp[DG,GC,xr]
  |cons f r b =>
   unfold DG;unfold GC
   by_cases c:f.1=p
   ·rw[if_pos c];simp[xr]
   ·rw[if_neg c];unfold DG at b;cases e:GC r p with
    |none=>rw[e]at b;simpa[xr,c]using b
    |some i=>rw[e]at b;simpa[xr,c]using b
 exact this a
def L7 (b:Fs)(p d q:zb)(h:q≠p):xr (DG b p d) q=xr b q:=by
 induction b with
 |nil=>simp[DG,GC,xr,h.symm]
 |cons f r a =>
  unfold DG;unfold GC
  by_cases c:f.1=p
  ·rw[if_pos c];have g:¬f.1=q:=λe=>h (e.symm.trans c);simp[xr,h.symm,g]
  ·rw[if_neg c];unfold DG at a;cases e:GC r p with
   |none=>rw[e]at a;simp only[Option.map_none,A4,xr];simp only at a;rw[a]
   |some i=>rw[e]at a;simp only[OQ,KU,xr];simp only at a;rw[a]
def Wp (a:Fs)(p d q:zb):xr (DG a p d) q=if q=p then some d else xr a q:=by
 split
 ·rename_i h;rw[h];exact Js a p d
 ·rename_i h;exact L7 a p d q h
def LR (a:Fs)(p d:zb):(DG a p d).length<=a.length+1:=by
 unfold DG;split<;>simp
def zh2:∀(l s:List Nat),l.Nodup->(∀x∈l,x∈s)->l.length<=s.length
 |[],s,_,_=>yk _
 |a::r,s,b,f=>by
  rw[AK]at b;have d:=f a (by simp);have h:=zh2 r (s.erase a) b.2 (λx g=>by
   have c:x≠a:=λe=>b.1 (by rw[<- e];exact g);exact(List.mem_erase_of_ne c).2 (f x (by simp[g])))
  have i:=List.length_erase_of_mem d;have j:=List.length_pos_of_mem d;simp only[xf];omega
def Kq (n:Nat)(s:List Nat)(h:∀j,j<n->j∈s):n<=s.length:=by
 have:=zh2 (List.range n) s List.nodup_range (λx a=>h x (CH.1 a));simpa using this
variable {before fs':Fs}
structure Dk where
 fs:Fs
 calls:Int
 az:Int
 dead:Bool
 once:Bool
 half:Bool
 hit:Bool
 au:Bool
def Ta (d:Dk):Int:=wrap64 (d.calls+1)
def A2 (d:Dk):Int:=if d.dead then 2 else if 0<d.az/\Ta d=d.az then (if d.half then 1 else 2) else 0
def qu (d:Dk):Dk:=if d.dead then {d with calls:=Ta d} else if 0<d.az/\Ta d=d.az then {d with calls:=Ta d,dead:=!d.once,hit:=true} else {d with calls:=Ta d}
def Mo (d:Dk)(p x:zb):Bool:=match xr d.fs p with
 |some y=>if y=x then decide (0<A2 d) else true
 |none=>decide (0<A2 d)
def E0 (d:Dk)(p x:zb):Dk:=match xr d.fs p with
 |some y=>if y=x then (if A2 d<2 then {qu d with fs:=DG d.fs p x} else qu d) else {qu d with au:=true}
 |none=>if A2 d<2 then {qu d with fs:=DG d.fs p x} else qu d
def GR (d:Dk)(p x:zb):Dk:=if A2 d<2 then {qu d with fs:=DG d.fs p x} else qu d
def Jy (d:Dk):Bool:=decide (0<A2 d)
def Fz (d:Dk):Prop:=d.dead=false/\d.hit=false
def je (d:Dk):(qu d).fs=d.fs:=by unfold qu;split<;>(try split)<;>rfl
def DX (d:Dk):(qu d).au=d.au:=by unfold qu;split<;>(try split)<;>rfl
def tk (d:Dk):Bool×Int×Bool×Bool:=(d.au,d.az,decide (d.az=0)&&d.dead,decide (d.az=0)&&d.hit)
def Fo (d:Dk):tk (qu d)=tk d:=by
 unfold qu tk;split
 ·rfl
 ·split
  ·rename_i h;have:¬d.az=0:=by omega
   simp[this]
  ·rfl
def OI {d e:Dk}(h:tk d=tk e):d.au=e.au:=congrArg Prod.fst h
def zl1 {d e:Dk}(h:tk d=tk e)(h0:e.az=0)(c:e.hit=false):d.hit=false:=by
 unfold tk at h;simp only[xj]at h;obtain⟨-,b,-,a⟩:=h;rw[b,h0,c]at a;simpa using a
def LY (d:Dk):0<=A2 d/\A2 d<=2:=by
 unfold A2;split
 ·omega
 ·split
  ·split<;>omega
  ·omega
def Eo {d:Dk}(h:Fz d):(A2 d=0/\Fz (qu d))\/(0<A2 d/\(qu d).hit=true):=by
 unfold A2 qu Fz at *;rw[h.1];simp only[vz,CM];split
 ·refine .inr ⟨?_,rfl⟩;split<;>omega
 ·exact .inl ⟨rfl,rfl,h.2⟩
def CA:zb:=[99,104,101,99,107,112,111,105,110,116]
def Ip (j8:Fs)(c:zb)(b a:Fs):Prop:=
 ∀q,xr a q=xr b q\/(xr b q=none/\∃x,(q,x)∈j8/\xr a q=some x)\/(q=CA/\xr a q=some c)
def Ip.refl (j8:Fs)(c:zb)(a:Fs):Ip j8 c a a:=λ_=>.inl rfl
def Ip.trans {j8:Fs}{c:zb}{f g h:Fs}(a:Ip j8 c f g)(b:Ip j8 c g h):Ip j8 c f h:=by
 intro q;rcases a q with a|⟨i,x,j,a⟩|⟨rfl,a⟩
 ·rcases b q with b|⟨d,y,e,b⟩|b
  ·exact .inl (b.trans a)
  ·exact .inr (.inl ⟨a▸d,y,e,b⟩)
  ·exact .inr (.inr b)
 ·rcases b q with b|⟨d,y,e,b⟩|b
  ·exact .inr (.inl ⟨i,x,j,b.trans a⟩)
  ·rw[a]at d;simp at d
  ·exact .inr (.inr b)
 ·rcases b CA with b|⟨d,y,e,b⟩|b
  ·exact .inr (.inr ⟨rfl,b.trans a⟩)
  ·rw[a]at d;simp at d
  ·exact .inr (.inr b)
def EV (a j8:Fs):Prop:=∀q x,(q,x)∈j8->xr a q=none\/xr a q=some x
def zan (j8:Fs):Prop:=(∀q x y,(q,x)∈j8->(q,y)∈j8->x=y)/\∀x,(CA,x)∉j8
def EV.bO {j8:Fs}{c:zb}{b:Fs}(d:zan j8)(h:EV b j8)(w:Ip j8 c b fs'):EV fs' j8:=by
 intro q x a;rcases w q with e|⟨_,y,f,e⟩|⟨rfl,_⟩
 ·rw[e];exact h q x a
 ·rw[e,d.1 q x y a f];exact .inr rfl
 ·exact absurd a (d.2 x)
def X6 {j8:Fs}{c:zb}{a:Fs}{p x:zb}(h:EV a j8)(b:(p,x)∈j8):Ip j8 c a (DG a p x):=by
 intro q;rw[Wp];split
 ·rename_i e;subst e;rcases h q x b with h|h
  ·exact .inr (.inl ⟨h,x,b,rfl⟩)
  ·exact .inl h.symm
 ·exact .inl rfl
def TO (j8:Fs)(c:zb)(a:Fs):Ip j8 c a (DG a CA c):=by
 intro q;rw[Wp];split
 ·rename_i e;exact .inr (.inr ⟨e,rfl⟩)
 ·exact .inl rfl
def Ip.stays {j8:Fs}{c:zb}{a:Fs}(w:Ip j8 c a fs'){q x:zb}(h:xr a q=some x)(b:q≠CA):xr fs' q=some x:=by
 rcases w q with e|⟨h0,_⟩|⟨e,_⟩
 ·rw[e];exact h
 ·rw[h]at h0;simp at h0
 ·exact absurd e b
def AU:Fs->Dk->Option (zb) ×Dk
 |[],d=>(none,d)
 |f::r,d=>if Mo d f.1 f.2 then (some f.1,E0 d f.1 f.2) else AU r (E0 d f.1 f.2)
def CZ (A9:Fs)(c:zb)(d:Dk):Option (zb)×Dk:=match AU A9 d with
 |(some p,d1)=>(some p,d1)
 |(none,d1)=>if Jy d1 then (some CA,GR d1 CA c) else (none,GR d1 CA c)
def Ku (a b:Fs)(d:Dk):AU (a++b) d=match AU a d with
  |(some p,d1)=>(some p,d1)
  |(none,d1)=>AU b d1:=by
 induction a generalizing d with
 |nil=>rfl
 |cons f r c =>
  simp only[A4,AU];split
  ·rfl
  ·exact c _
def zlg {j8:Fs}{c:zb}{d:Dk}{p x:zb}(k:Fz d)(g:D5 d.fs)(h:d.au=false)(b:EV d.fs j8)(f:(p,x)∈j8):
  D5 (E0 d p x).fs/\(E0 d p x).au=false/\Ip j8 c d.fs (E0 d p x).fs/\((Mo d p x=false/\Fz (E0 d p x)/\xr (E0 d p x).fs p=some x)\/(Mo d p x=true/\(E0 d p x).hit=true)):=by
 have j:Mo d p x=decide (0<A2 d):=by
  unfold Mo;rcases b p x f with e|e<;>rw[e];simp
 have i:E0 d p x=if A2 d<2 then {qu d with fs:=DG d.fs p x} else qu d:=by
  unfold E0;rcases b p x f with e|e<;>rw[e];simp
 rw[j,i];rcases Eo k with ⟨h0,a⟩|⟨h0,a⟩
 ·rw[if_pos (by omega),h0];exact⟨g.set p x,by simpa[DX]using h,X6 b f,.inl ⟨rfl,a,Js _ _ _⟩⟩
 ·have l:decide (0<A2 d)=true:=by simpa using h0
  rw[l];split
  ·exact⟨g.set p x,by simpa[DX]using h,X6 b f,.inr ⟨rfl,a⟩⟩
  ·exact⟨by rw[je];exact g,by rw[DX];exact h,by rw[je];exact Ip.refl _ _ _,.inr ⟨rfl,a⟩⟩
def Ts {j8:Fs}{c:zb}(l:zan j8):∀(A9:Fs) (d:Dk),Fz d->D5 d.fs->d.au=false->EV d.fs j8->(∀f∈A9,f∈j8) ->
  D5 (AU A9 d).2.fs/\(AU A9 d).2.au=false/\Ip j8 c d.fs (AU A9 d).2.fs /\
   (((AU A9 d).1=none/\Fz (AU A9 d).2/\∀f∈A9,xr (AU A9 d).2.fs f.1=some f.2)\/(∃p x,(AU A9 d).1=some p/\(p,x)∈j8/\(AU A9 d).2.hit=true))
 |[],d,k,j,m,_,_=>⟨j,m,Ip.refl _ _ _,.inl ⟨rfl,k,λf h=>by simp at h⟩⟩
 |f::r,d,k,j,m,s,t=>by
  have n:(f.1,f.2)∈j8:=t f (by simp);obtain⟨q,t1,o,b⟩:=zlg (c:=c) k j m s n;unfold AU;rcases b with ⟨e,w,A⟩|⟨e,b⟩
  ·rw[if_neg (by rw[e];simp)];obtain⟨v,t2,u,i⟩:=Ts l r (E0 d f.1 f.2) w q t1 (s.bO l o) (λg a=>t g (by simp[a]));refine⟨v,t2,o.trans u,?_⟩;rcases i with ⟨z,y,B⟩|i
   ·refine .inl ⟨z,y,λg a=>?_⟩;rcases jl.1 a with rfl|a
    ·exact u.stays A (λe=>l.2 g.2 (by rw[<- e];exact n))
    ·exact B g a
   ·exact .inr i
  ·rw[if_pos e];exact⟨q,t1,o,.inr ⟨f.1,f.2,rfl,n,b⟩⟩
def zlc {j8 A9:Fs}{c:zb}{d:Dk}(j:zan j8)(s:Fz d)(q:D5 d.fs)(u:d.au=false)(t:EV d.fs j8)(k:∀f∈A9,f∈j8):
  D5 (CZ A9 c d).2.fs/\(CZ A9 c d).2.au=false/\Ip j8 c d.fs (CZ A9 c d).2.fs /\
   (((CZ A9 c d).1=none/\Fz (CZ A9 c d).2/\xr (CZ A9 c d).2.fs CA=some c/\∀f∈A9,xr (CZ A9 c d).2.fs f.1=some f.2) \/
    ((∃p,(CZ A9 c d).1=some p/\(p=CA\/∃x,(p,x)∈j8))/\(CZ A9 c d).2.hit=true)):=by
 obtain⟨a,t1,g,h⟩:=Ts (c:=c) j A9 d s q u t k;unfold CZ;generalize AU A9 d=r at *;obtain⟨o,d1⟩:=r;simp only at a t1 g h;rcases h with ⟨rfl,l,w⟩|⟨p,x,rfl,v,h⟩
 ·simp only;have n:GR d1 CA c=if A2 d1<2 then {qu d1 with fs:=DG d1.fs CA c} else qu d1:=rfl
  have m:Jy d1=decide (0<A2 d1):=rfl;rw[m,n];rcases Eo l with ⟨h0,i⟩|⟨h0,i⟩
  ·rw[if_neg (by simp[h0]),if_pos (by omega)];refine⟨a.set _ _,by simpa[DX]using t1,g.trans (TO _ _ _),.inl ⟨rfl,i,Js _ _ _,λf b=>?_⟩⟩;simp only;rw[L7]
   ·exact w f b
   ·exact λe=>j.2 f.2 (by rw[<- e];exact k f b)
  ·rw[if_pos (by simpa using h0)];simp only;split
   ·exact⟨a.set _ _,by simpa[DX]using t1,g.trans (TO _ _ _),.inr ⟨⟨_,rfl,.inl rfl⟩,i⟩⟩
   ·exact⟨by rw[je];exact a,by rw[DX];exact t1,by rw[je];exact g,.inr ⟨⟨_,rfl,.inl rfl⟩,i⟩⟩
 ·exact⟨a,t1,g,.inr ⟨⟨p,rfl,.inr ⟨x,v⟩⟩,h⟩⟩
def Ep (before j8:Fs):Bool:=j8.any λf=>match xr before f.1 with
 |some y=>decide (y≠f.2)
 |none=>false
def Nu (a b j8:Fs)(c:zb):Bool:=
 (a.all λf=>match xr b f.1 with
  |some y=>decide (y=f.2)||(decide (f.1=CA)&&decide (y=c))
  |none=>false) &&
 (b.all λf=>match xr a f.1 with
  |some _=>true
  |none=>(match xr j8 f.1 with|some y=>decide (f.2=y)|none=>false)||(decide (f.1=CA)&&decide (f.2=c)))
def GN (after j8:Fs):Bool:=j8.all λf=>match xr after f.1 with
 |some y=>decide (y=f.2)
 |none=>false
def Ui {j8:Fs}(h:Ep before j8=false):EV before j8:=by
 intro q x a;unfold Ep at h;rw[List.any_eq_false]at h;have:=h (q,x) a;simp only at this;cases e:xr before q with
 |none=>exact .inl rfl
 |some y=>rw[e]at this;simp at this;rw[this];exact .inr rfl
def Yu {b a i j8:Fs}{c:zb}(o:b.Perm i)(n:a.Perm fs')(l:D5 i)(m:D5 fs')(q:zan j8)(w:Ip j8 c i fs'):Nu b a j8 c=true:=by
 have s:=Dy l o;have r:=Dy m n;unfold Nu;rw[A3,AW,AW];refine⟨λf g=>?_,λf g=>?_⟩
 ·have e:=L9 l (o.mem_iff.1 g);rw[r];rcases w f.1 with d|⟨h0,_⟩|⟨j,d⟩
  ·rw[d,e];simp
  ·rw[e]at h0;simp at h0
  ·rw[d];simp[j]
 ·have e:=L9 m (n.mem_iff.1 g);rw[s];rcases w f.1 with d|⟨h0,x,p,d⟩|⟨j,d⟩
  ·rw[<- d,e]
  ·rw[h0];rw[e]at d;obtain h:f.2=x:=by simpa using d
   have:xr j8 f.1=some x:=by
    cases k:xr j8 f.1 with
    |none=>exact absurd rfl (SR.1 k (f.1,x) p)
    |some y=>rw[q.1 f.1 y x (L6 k) p]
   simp[this,h]
  ·rw[e]at d;obtain h:f.2=c:=by simpa using d
   cases xr i f.1<;>simp[j,h]
def Xs {a j8:Fs}(c:a.Perm fs')(b:D5 fs')(h:∀f∈j8,xr fs' f.1=some f.2):GN a j8=true:=by
 unfold GN;rw[AW];intro f d;rw[Dy b c,h f d];simp
variable {O1:Nat->Prop}{d d':Dk}{fv:Value}
def qy (l:zb):Value:=.string ⟨l.toArray⟩
def vt (a:Fs):List Value:=a.flatMap λf=>[qy f.1,qy f.2]
def FY (a:Value)(d:Dk):Array Value:=#[a,.int .i64 d.calls,.int .i64 d.az,.bool d.dead,.bool d.once,.bool d.half,.bool d.hit,.bool d.au]
def ym (w:World)(O:Nat->Prop)(b:Nat)(d:Dk):Prop:=
 ∃a,O b/\w.heap[b]?=some (.cells (FY a d) 144 (0,0))/\w.ownsRow 0 125 2 a d.fs.length (vt d.fs)/\∀g,a.ownBlock=some g->O g
def BD (b:Nat):Value:=.pointer (some ⟨b,0,none⟩)
abbrev Oi:List Nat:=[144]
abbrev dT:List Nat:=[144,125]
def zm {b:Nat}{a:Array Value}(h:w.heap[b]?=some (.cells a t (0,0))):∀i v,a[i]?=some v->w.cell? ⟨b,i,none⟩=some v/\w.frozen? ⟨b,i,none⟩=false:=by
 intro i v hv;refine⟨by rw[xe _ _ _ _ _ _ h];exact hv,by simp[World.frozen?,h]⟩
def Aw {b:Nat}{a:Array Value}(h:w.heap[b]?=some (.cells a t (0,0)))(i:Nat)(v:Value):(w.setCell ⟨b,i,none⟩ v).heap[b]?=some (.cells (a.setIfInBounds i v) t (0,0)):=Mz w b i a t v h
def GW {b:Nat}(h:w.heap[b]?=some (.cells (FY fv d) 144 (0,0))):(w.cell? ⟨b,0,none⟩=some fv/\w.frozen? ⟨b,0,none⟩=false)/\(w.cell? ⟨b,1,none⟩=some (.int .i64 d.calls)/\w.frozen? ⟨b,1,none⟩=false)/\(w.cell? ⟨b,2,none⟩=some (.int .i64 d.az)/\w.frozen? ⟨b,2,none⟩=false)/\(w.cell? ⟨b,3,none⟩=some (.bool d.dead)/\w.frozen? ⟨b,3,none⟩=false)/\(w.cell? ⟨b,4,none⟩=some (.bool d.once)/\w.frozen? ⟨b,4,none⟩=false)/\(w.cell? ⟨b,5,none⟩=some (.bool d.half)/\w.frozen? ⟨b,5,none⟩=false)/\(w.cell? ⟨b,6,none⟩=some (.bool d.hit)/\w.frozen? ⟨b,6,none⟩=false)/\(w.cell? ⟨b,7,none⟩=some (.bool d.au)/\w.frozen? ⟨b,7,none⟩=false):=
 ⟨zm h 0 _ rfl,zm h 1 _ rfl,zm h 2 _ rfl,zm h 3 _ rfl,zm h 4 _ rfl,zm h 5 _ rfl,zm h 6 _ rfl,zm h 7 _ rfl⟩
def ym.aj {b:Nat}(c:∀k,O k->O' k)(h:O b)(i:w.ownsRow 0 125 2 fv d.fs.length (vt d.fs))(j:∀g,fv.ownBlock=some g->O g)
 (l:zl O Oi w w') (e:w'.heap[b]?=some (.cells (FY fv d') 144 (0,0))) (f:d'.fs=d.fs):ym w' O' b d':=
 ⟨fv,c b h,e,by rw[f];exact zy i l (by decide),λg a=>c g (j g a)⟩
def ym.stay {b:Nat}(h:ym w O b d)(c:zl O1 T w w')(f:144∉T)(g:125∉T):ym w' O b d:=by
 obtain⟨e,a,i,j,k⟩:=h;exact⟨e,a,c.keep i f,zy j c g,k⟩
def ym.out {b:Nat}(h:ym w O b d)(i:zl O1 T w w')(e:∀k,O k->¬O1 k):ym w' O b d:=by
 obtain⟨j,a,l,m,f⟩:=h;exact⟨j,a,i.stay l (e b a),Kp m i (λg c=>e g (f g c)),f⟩
def ym.mono {b:Nat}(h:ym w O b d)(c:∀k,O k->O' k):ym w O' b d:=by
 obtain⟨f,a,i,j,l⟩:=h;exact⟨f,c b a,i,j,λg e=>c g (l g e)⟩
def zhc (O:Nat->Prop)(b:Nat)(d:Dk)(w:World)(h:ym w O b d):
  Calls prog 94 #[BD b] w λr i=>r=.returned (.tuple #[])/\zl O Oi w i/\ym i O b {d with az:=0,dead:=false,hit:=false}:=by
 obtain⟨z,a,g,m,n⟩:=h;obtain⟨⟨p,f0⟩,⟨q,f1⟩,⟨s,f2⟩,⟨t,f3⟩,⟨u,f4⟩,⟨v,f5⟩,⟨x,f6⟩,⟨y,f7⟩⟩:=GW g;have c:=ze g;have j:=ze m;have k:=ze n;unfold BD;go_enter func94,ntmps94
 go_wp2
 go_end0
 have t1:=(zl.refl O Oi w).set (o:=2) (.inl a) c.o (by decide) (.int .i64 0);have e:=Aw c.o 2 (.int .i64 0);have t2:=t1.set (o:=3) (.inl a) e (by decide) (.bool false);have f:=Aw e 3 (.bool false);have t3:=t2.set (o:=6) (.inl a) f (by decide) (.bool false);have l:=Aw f 6 (.bool false);exact⟨rfl,t3,ym.aj (d:=d) (λ_ h=>h) a j.o k.o t3 l rfl⟩
def ZP (O:Nat->Prop)(b:Nat)(d:Dk)(w:World)(h:ym w O b d):
  Calls prog 130 #[BD b] w λr c=>r=.returned (.bool d.hit)/\c=w:=by
 obtain⟨n,o,a,p,q⟩:=h;obtain⟨⟨e,f0⟩,⟨f,f1⟩,⟨g,f2⟩,⟨i,f3⟩,⟨j,f4⟩,⟨k,f5⟩,⟨l,f6⟩,⟨m,f7⟩⟩:=GW a;unfold BD;go_enter func130,ntmps130
 go_wp2
 go_ret;exact⟨rfl,rfl⟩
def zbo (O:Nat->Prop)(b:Nat)(d:Dk)(w:World)(h:ym w O b d)(n:Int)(a c:Bool):
  Calls prog 88 #[BD b,.int .i64 n,.bool a,.bool c] w λr m=>r=.returned (.tuple #[])/\zl O Oi w m/\ym m O b {d with az:=wrap64 (d.calls+n),half:=a,once:=c,dead:=false,hit:=false}:=by
 obtain⟨E,e,l,t,u⟩:=h;obtain⟨⟨v,f0⟩,⟨x,f1⟩,⟨y,f2⟩,⟨z,f3⟩,⟨A,f4⟩,⟨B,f5⟩,⟨C,f6⟩,⟨D,f7⟩⟩:=GW l;have f:=ze l;have p:=ze t;have q:=ze u;unfold BD;go_enter func88,ntmps88
 go_wp2
 go_end0
 have t1:=(zl.refl O Oi w).set (o:=2) (.inl e) f.o (by decide) (.int .i64 (wrap64 (d.calls+n)));have g:=Aw f.o 2 (.int .i64 (wrap64 (d.calls+n)));have t2:=t1.set (o:=5) (.inl e) g (by decide) (.bool a);have i:=Aw g 5 (.bool a);have t3:=t2.set (o:=4) (.inl e) i (by decide) (.bool c);have j:=Aw i 4 (.bool c);have t4:=t3.set (o:=3) (.inl e) j (by decide) (.bool false);have k:=Aw j 3 (.bool false);have t5:=t4.set (o:=6) (.inl e) k (by decide) (.bool false);have s:=Aw k 6 (.bool false);exact⟨rfl,t5,ym.aj (d:=d) (λ_ h=>h) e p.o q.o t5 s rfl⟩
def Ol (O:Nat->Prop)(b:Nat)(d:Dk)(w:World)(h:ym w O b d):
  Calls prog 323 #[BD b] w λr E=>r=.returned (.int .i64 (A2 d))/\zl O Oi w E/\ym E O b (qu d):=by
 obtain⟨F,g,s,B,C⟩:=h;obtain⟨⟨I,f0⟩,⟨J,f1⟩,⟨K,f2⟩,⟨y,f3⟩,⟨L,f4⟩,⟨z,f5⟩,⟨M,f6⟩,⟨N,f7⟩⟩:=GW s;have m:=ze B;have p:=ze C;unfold BD;obtain⟨c,G⟩:∃c,wrap64 (d.calls+1)=c:=⟨_,rfl⟩;have u:Hid (Ta d=c):=G;have t1:=ze ((zl.refl O Oi w).set (o:=1) (.inl g) s (by decide) (.int .i64 c));have A:=ze (Aw s 1 (.int .i64 c));clear s B C;cases i:d.dead with
 |true =>
  rw[i]at y;have a:Hid (A2 d=2/\qu d={d with calls:=c}):=by unfold A2 qu;rw[i,u.o];exact⟨rfl,rfl⟩
  clear i;go_enter func323,ntmps323
  go_wp2
  go_ret;refine⟨by rw[a.o.1];rfl,t1.out,?_⟩;rw[a.o.2];exact ym.aj (d:=d) (λ_ h=>h) g m.o p.o t1.out A.out rfl
 |false =>
  rw[i]at y;have j:∀n,Hid (((w.setCell ⟨b,1,none⟩ (.int .i64 c)).drewN n).heap[b]?=some (.cells ((FY F d).setIfInBounds 1 (.int .i64 c)) 144 (0,0))):=λ_=>A.out
  by_cases f:0<d.az/\c=d.az
  ·have a:Hid (A2 d=(if d.half then 1 else 2)/\qu d={d with calls:=c,dead:=!d.once,hit:=true}):=by
    unfold A2 qu;rw[i,u.o];simp only[vz,CM,if_pos f];exact⟨trivial,trivial⟩
   obtain⟨x,D⟩:=f;have H:(c==d.az)=true:=by simp[D]
   clear i D;cases k:d.half with
   |true =>
    rw[k]at z a;have t:=ze k;clear k;go_enter func323,ntmps323
    go_wp2
    go_quiet (fail)
    go_wp2
    go_ret;have t2:=(t1.out.drewN nq).set (o:=3) (.inl g) (j nq).out (by decide) (.bool !d.once);have q:=Aw (j nq).out 3 (.bool !d.once);have t3:=t2.set (o:=6) (.inl g) q (by decide) (.bool true);have v:=Aw q 6 (.bool true);refine⟨by rw[a.o.1];rfl,t3,?_⟩;rw[a.o.2];refine ym.aj (d:=d) (λ_ h=>h) g m.o p.o t3 ?_ rfl;rw[v];simp only[FY,t.o]
    rfl
   |false =>
    rw[k]at z a;have t:=ze k;clear k;go_enter func323,ntmps323
    go_wp2
    go_quiet (fail)
    go_wp2
    go_ret;have t2:=(t1.out.drewN nq).set (o:=3) (.inl g) (j nq).out (by decide) (.bool !d.once);have q:=Aw (j nq).out 3 (.bool !d.once);have t3:=t2.set (o:=6) (.inl g) q (by decide) (.bool true);have v:=Aw q 6 (.bool true);refine⟨by rw[a.o.1];rfl,t3,?_⟩;rw[a.o.2];refine ym.aj (d:=d) (λ_ h=>h) g m.o p.o t3 ?_ rfl;rw[v];simp only[FY,t.o]
    rfl
  ·have a:Hid (A2 d=0/\qu d={d with calls:=c}):=by
    unfold A2 qu;rw[i,u.o];simp only[vz,CM,if_neg f];exact⟨trivial,trivial⟩
   have l:=ze i;clear i
   by_cases x:0<d.az
   ·have H:(c==d.az)=false:=by
     rw[yp];exact λe=>f ⟨x,e⟩
    clear f;go_enter func323,ntmps323
    go_wp2
    go_quiet (fail)
    go_wp2
    go_ret;refine⟨by rw[a.o.1];rfl,t1.out.drewN nq,?_⟩;rw[a.o.2];refine ym.aj (d:=d) (λ_ h=>h) g m.o p.o (t1.out.drewN nq) ?_ rfl;rw[(j nq).out];simp only[FY,l.o]
    rfl
   ·have P:decide (0<d.az)=false:=by simp;omega
    clear f x;go_enter func323,ntmps323
    go_wp2
    go_quiet (fail)
    go_wp2
    go_ret;refine⟨by rw[a.o.1];rfl,t1.out.drewN nq,?_⟩;rw[a.o.2];refine ym.aj (d:=d) (λ_ h=>h) g m.o p.o (t1.out.drewN nq) ?_ rfl;rw[(j nq).out];simp only[FY,l.o]
    rfl
end Go.Proofs.YtfdbeldiomkdiaaGreatDoor
