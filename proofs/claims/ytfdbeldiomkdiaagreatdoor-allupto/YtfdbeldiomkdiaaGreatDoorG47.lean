import Derived.Test.YtfdbeldiomkdiaaGreatDoorG46
import Derived.Deep.SlicePairs
import Derived.Test.YtfdbeldiomkdiaaGreatDoorG44
set_option maxHeartbeats 8000000
set_option maxRecDepth 100000
set_option linter.all false
namespace Go.Proofs.YtfdbeldiomkdiaaGreatDoor
open Go.RowKit Go.Proofs.Tryz
def Cp:=@trodAll_cons_mk
def XG:=@World.cell?_spot
variable {W:World}
section
open Go.ChangeShapes Go.WideShapes Go.ChangeAt Go.RowKit
def zfa (a:laidMetH prog Rows.allUptoRow.laid W):laidMet prog I3 W/\handlesMet prog [("errors.errorType",Rows.laid_errors_errorType)] W:=a
def Lc:Array Value:=#[.slice none 0 0,.int .i64 0,.int .i64 0,.slice none 0 0,.string ⟨#[]⟩,.string ⟨#[]⟩,.slice none 0 0,.string ⟨#[]⟩,.int .i64 0,.slice none 0 0]
def zmv (a:Os):laidMetH prog Rows.allUptoRow.laid (((JV (World.holding prog a ⟨#[],#[],[]⟩)).layVars prog I3).forCall (λ_ _=>0) ⟨#[],Lc,[]⟩).memory:=
 laidMetH_of_parts (Wg (laid:=I3) Lc (by kernel_rfl) (by kernel_rfl)) (by kernel_rfl)
def zaw (a:Os):(((JV (World.holding prog a ⟨#[],#[],[]⟩)).layVars prog I3).forCall (λ_ _=>0) ⟨#[],Lc,[]⟩).Shaped prog:=World.shaped_of_ZipB (by kernel_rfl) (by kernel_rfl)
def zfb (c:Os){H:Type}(b:TypeId×Value->H):∃a,DataW.whole b prog (((JV (World.holding prog c ⟨#[],#[],[]⟩)).layVars prog I3).forCall (λ_ _=>0) ⟨#[],Lc,[]⟩).memory f3.params.toList Rows.allSpec.vars false Lc.toList 8=some ([.nil,.lit (.int .i64 0),.lit (.int .i64 0),.nil,.lit (.string []),.lit (.string []),.nil,.lit (.string []),.lit (.int .i64 0),.nil],[],a):=
 ⟨[],by kernel_rfl⟩
def zmw (a:Os):Input.okWideB checked.prog (((JV (World.holding prog a ⟨#[],#[],[]⟩)).layVars prog I3).forCall (λ_ _=>0) ⟨#[],Lc,[]⟩) 3 ⟨#[],Lc,[]⟩=true:=by kernel_rfl
def zn9 (a:Os):((JV (World.holding prog a ⟨#[],#[],[]⟩)).layVars prog I3).os=a:=(World.layVars_os _ _ _).trans rfl
end
variable {cap fuel:Nat}{held:Bool}{w:World}
section
open Go.ChangeShapes Go.WideShapes Go.ChangeAt Go.RowKit
def Zo (s:ByteArray):Value.string s=qy s.data.toList:=by
 unfold qy;congr 1
def zht {H:Type}{q:TypeId×Value->H}{p:Nat}{d:Nat->Bool}{x:DataW H×List MemPlace}{a:Option Addr}{j:Nat}
 (h:DataW.trod q prog w p d held fuel 24 [.slice a j cap]=some x) :
  ∃u:List OpR,u.length=j/\(∀o∈u,-9223372036854775808<=o.a/\o.a<=9223372036854775807/\o.s.length<=maxLen)/\Oss w (.slice a j cap) u:=by
 have T:prog.cellsOf 65=4:=by kernel_rfl
 have L:prog.cellsOf 3=1:=by kernel_rfl
 have R:prog.cellsOf 4=1:=by kernel_rfl
 have S:prog.cellsOf 9=1:=by kernel_rfl
 rcases Go.Deep.open_slice underlying24 h with ⟨r,_⟩|⟨v,l,c,m,n,D,Pl,r,hb,Z,hm,F,_,hx⟩
 ·simp at r;obtain⟨rfl,rfl,rfl⟩:=r;exact⟨[],rfl,by simp,⟨none,0,rfl,zk _,.inl rfl⟩⟩
 ·simp at r;obtain⟨rfl,rfl,rfl⟩:=r;have aa:j<=m:=by rw[F];split<;>omega
  have y:∀i,i<j->∃o:Int×Int×Bool×zb,w.cell? (v.add (i*4))=some (.int .i64 o.1)/\w.cell? (v.add (i*4+1))=some (.int .i64 o.2.1)/\w.cell? (v.add (i*4+2))=some (.bool o.2.2.1)/\w.cell? (v.add (i*4+3))=some (qy o.2.2.2)/\-9223372036854775808<=o.2.1/\o.2.1<=9223372036854775807/\o.2.2.2.length<=maxLen:=by
   intro i z;obtain⟨C,Q,Y⟩:=hx i (by omega);rw[T]at Q;obtain⟨_,e,f⟩:=World.cells?_some Q;obtain⟨xs,k,hk,ab,_,G,B⟩:=DataW.trod_struct underlying65 Y
   match xs,G,C,e with
   |[y0,y1,y2,y3],_,[v0,v1,v2,v3],_ =>
    have U:DataW.trod q prog w p d held k 3 [v0]=some y0:=by have:=B 0 _ rfl;simpa[L]using this
    have V:DataW.trod q prog w p d held k 3 [v1]=some y1:=by have:=B 1 _ rfl;simpa[L]using this
    have W:DataW.trod q prog w p d held k 4 [v2]=some y2:=by have:=B 2 _ rfl;simpa[R]using this
    have X:DataW.trod q prog w p d held k 9 [v3]=some y3:=by have:=B 3 _ rfl;simpa[S]using this
    obtain⟨n0,M,-,-⟩:=DataW.trod_int BX U;obtain⟨n1,N,-,J⟩:=DataW.trod_int BX V;obtain⟨n2,O,-⟩:=DataW.trod_bool underlying4 W;obtain⟨n3,P,-,z3⟩:=DataW.trod_string xt X;simp only[EK,EL]at M N O P;have d0:=f 0 (by omega);have d1:=f 1 (by omega);have d2:=f 2 (by omega);have d3:=f 3 (by omega);rw[Go.Deep.add_add]at d0 d1 d2 d3;have K:=bounds_i64 J;exact⟨(n0,n1,n2,n3.data.toList),by simpa[M]using d0,by simpa[N]using d1,by simpa[O]using d2,by simpa[P,Zo]using d3,K.1,K.2,z3⟩
  obtain⟨g,E⟩:=Go.Deep.choose_lt y;have e:((List.range j).map λi=>(⟨(g i).1,(g i).2.1,(g i).2.2.1,(g i).2.2.2⟩:OpR)).length=j:=by simp
  refine⟨(List.range j).map λi=>(⟨(g i).1,(g i).2.1,(g i).2.2.1,(g i).2.2.2⟩:OpR),e,λo ho=>?_,⟨some v,cap,by rw[e],by rw[e];exact Z,?_⟩⟩
  ·obtain⟨i,z,rfl⟩:=yi.1 ho;exact(E i (CH.1 z)).2.2.2.2
  ·by_cases h0:j=0
   ·left;simp[h0]
   ·right
    obtain⟨b,I,A⟩:=v;have t:A=none:=by simpa[Addr.add]using XG (E 0 (by omega)).1
    subst t;refine⟨b,I,rfl,λi z=>?_⟩;rw[e]at z;have:=E i z;rw[vp,vp,vp,vp]at this;rw[A5,TT];exact⟨this.1,by rw[AP];exact this.2.1,by rw[AP];exact this.2.2.1,by rw[AP];exact this.2.2.2.1⟩
end
section
open Go.ChangeShapes Go.WideShapes Go.ChangeAt Go.RowKit
def YC {H:Type}{u:TypeId×Value->H}{p:Nat}{o:Nat->Bool}{x:DataW H×List MemPlace}{a:Option Addr}{d:Nat}
 (h:DataW.trod u prog w p o held fuel 23 [.slice a d cap]=some x) :
  ∃v:Fs,v.length=d/\(∀f∈v,f.1.length<=maxLen/\f.2.length<=maxLen)/\Mr w (.slice a d cap) v:=by
 rcases Go.Deep.open_slice_pairs underlying23 underlying125 (by kernel_rfl) rfl rfl (by kernel_rfl) (by kernel_rfl) h with ⟨j,_⟩|⟨t,l,c,m,n,T,U,P,Q,R,S,j,V,I,W,z,_,K⟩
 ·simp at j;obtain⟨rfl,rfl,rfl⟩:=j;exact⟨[],rfl,by simp,⟨none,0,rfl,zk _,.inl rfl⟩⟩
 ·simp at j;obtain⟨rfl,rfl,rfl⟩:=j;have J:d<=m:=by rw[z];split<;>omega
  have q:∀i,i<d->∃f:zb×zb,w.cell? (t.add (i*2))=some (qy f.1)/\w.cell? (t.add (i*2+1))=some (qy f.2)/\f.1.length<=maxLen/\f.2.length<=maxLen:=by
   intro i r;obtain⟨h0,D,E,F⟩:=K i (by omega);obtain⟨L,B,-,N⟩:=DataW.trod_string xt E;obtain⟨M,C,-,O⟩:=DataW.trod_string xt F;simp only[EK,EL]at B C;exact⟨(L.data.toList,M.data.toList),by rw[h0,B,Zo],by rw[D,C,Zo],N,O⟩
  obtain⟨g,y⟩:=Go.Deep.choose_lt q;have e:((List.range d).map g).length=d:=by simp
  refine⟨(List.range d).map g,e,λf G=>?_,⟨some t,cap,by rw[e],by rw[e];exact I,?_⟩⟩
  ·obtain⟨i,r,rfl⟩:=yi.1 G;exact(y i (CH.1 r)).2.2
  ·by_cases h0:d=0
   ·left;simp[h0]
   ·right
    obtain⟨b,A,s⟩:=t;have k:s=none:=by simpa[Addr.add]using XG (y 0 (by omega)).1
    subst k;refine⟨b,A,rfl,λi r=>?_⟩;rw[e]at r;have:=y i r;rw[vp,vp]at this;rw[A5,TT];exact⟨this.1,by rw[AP];exact this.2.1⟩
end
section
open Go.ChangeShapes Go.WideShapes Go.ChangeAt Go.RowKit
def QX {H:Type}{p:TypeId×Value->H}{n:Nat}{k:Nat->Bool}{x:DataW H×List MemPlace}{a:Option Addr}{d:Nat}
 (h:DataW.trod p prog w n k held fuel 22 [.slice a d cap]=some x) :
  ∃m:List ByteArray,m.length=d/\d<=maxLen/\(∀s∈m,s.size<=maxLen)/\CT w (.slice a d cap) m:=by
 rcases open_strings underlying22 xt (by kernel_rfl) h with ⟨g,_⟩|⟨x,l,c,m,g,_,v,B,A,_,f,r⟩
 ·simp at g;obtain⟨rfl,rfl,rfl⟩:=g;exact⟨[],rfl,yk _,by simp,⟨none,0,rfl,zk _,.inl rfl⟩⟩
 ·simp at g;obtain⟨rfl,rfl,rfl⟩:=g;have y:d<=m.length:=by rw[A];split<;>omega
  have e:(m.take d).length=d:=by simp;omega
  refine⟨m.take d,e,by omega,λs z=>r s (qa z),⟨some x,cap,by rw[e],by rw[e];exact v,?_⟩⟩
  by_cases h0:d=0
  ·left;simp[h0]
  ·right
   obtain⟨b,t,o⟩:=x;have q:=f 0 (by omega);have j:o=none:=by simpa[Addr.add]using XG q
   subst j;refine⟨b,t,rfl,λi u=>?_⟩;have:=f i (by rw[e]at u;omega);rw[vp]at this;rw[this,js];rw[e]at u;rw[zj,zo (by omega)]
   rfl
end
section
open Go.ChangeShapes Go.WideShapes Go.ChangeAt Go.RowKit
open Go.ChangeMaps (open_string shut_string)
def zav (J:Os)(z:J.Started)(H:Type)(l:TypeId×Value->H)(F:Stop.Interp):
  ReturnsInHanded {} checked J 3 .any ((Rows.OpenSpec.upto Rows.allSpec).preRow l prog f3 Rows.allUptoRow.domain false Rows.allUptoRow.laid) (((Rows.OpenSpec.upto Rows.allSpec).at F).post l prog f3 false true false false):=by
 obtain⟨V,hx⟩:=zfb J l;refine returnsInHanded_of_row (C:=checked) (s:=Rows.OpenSpec.upto Rows.allSpec) zm2 z (by kernel_rfl) func3
  (UT (enc:=l) ((JV (World.holding prog J ⟨#[],#[],[]⟩)).layVars prog I3) Lc (zn9 J) (zaw J) (zmw J)
   (OpenSpec.preRow_of_cond 8 hx (by kernel_rfl) (λk hk=>by cases hk;kernel_rfl) (by kernel_rfl) (zmv J))) ?_
 intro W Q c ds gs U r hW _ M _ hL al _;have b:∀(j:Nat) t v,f3.params[j]?=some t->c[j]?=some v->Value.okWide prog W .any Q t v:=r;have Z:=hW;obtain⟨p,q,S,hV,rfl,aH,aI⟩:=hW;have hA:DataW.TrodAll l prog W 0 (λ_=>true) true f3.params.toList c.toList ds p:=S;rw[params3]at hA b;obtain⟨v0,aJ,d0,ax,p0,q0,aa,rfl,rfl,h0,r0⟩:=trodAll_cons hA;obtain⟨v1,aK,d1,ay,p1,q1,rfl,rfl,rfl,h1,r1⟩:=trodAll_cons r0;obtain⟨v2,aL,d2,az,p2,q2,rfl,rfl,rfl,h2,r2⟩:=trodAll_cons r1;obtain⟨v3,aM,d3,aA,p3,q3,rfl,rfl,rfl,h3,r3⟩:=trodAll_cons r2;obtain⟨v4,aN,d4,aB,p4,q4,rfl,rfl,rfl,h4,r4⟩:=trodAll_cons r3;obtain⟨v5,aO,d5,aC,p5,q5,rfl,rfl,rfl,h5,r5⟩:=trodAll_cons r4;obtain⟨v6,aP,d6,aD,p6,q6,rfl,rfl,rfl,h6,r6⟩:=trodAll_cons r5;obtain⟨v7,aQ,d7,aE,p7,q7,rfl,rfl,rfl,h7,r7⟩:=trodAll_cons r6;obtain⟨v8,aR,d8,aF,p8,q8,rfl,rfl,rfl,h8,r8⟩:=trodAll_cons r7;obtain⟨v9,aS,d9,aG,p9,q9,rfl,rfl,rfl,h9,r9⟩:=trodAll_cons r8;obtain⟨rfl,rfl,rfl⟩:=trodAll_nil r9;obtain rfl:c=#[v0,v1,v2,v3,v4,v5,v6,v7,v8,v9]:=by cases c;simp_all
 obtain⟨rfl,rfl⟩:=trodVars_none hV;obtain⟨a0,d,D,rfl⟩:=okWide_slice underlying22 (b 0 22 v0 rfl rfl);obtain⟨i1,rfl,rfl,rfl,w1⟩:=open_int BX (b 1 3 v1 rfl rfl) h1;obtain⟨i2,rfl,rfl,rfl,w2⟩:=open_int BX (b 2 3 v2 rfl rfl) h2;obtain⟨a3,g,E,rfl⟩:=okWide_slice underlying22 (b 3 22 v3 rfl rfl);obtain⟨P,rfl,rfl,rfl,w4⟩:=open_string xt (b 4 9 v4 rfl rfl) h4;obtain⟨s5,rfl,rfl,rfl,w5⟩:=open_string xt (b 5 9 v5 rfl rfl) h5;obtain⟨a6,u,G,rfl⟩:=okWide_slice underlying23 (b 6 23 v6 rfl rfl);obtain⟨s7,rfl,rfl,rfl,w7⟩:=open_string xt (b 7 9 v7 rfl rfl) h7;obtain⟨i8,rfl,rfl,rfl,w8⟩:=open_int BX (b 8 3 v8 rfl rfl) h8;obtain⟨a9,w,I,rfl⟩:=okWide_slice underlying24 (b 9 24 v9 rfl rfl);have k0:=h0;have k3:=h3;have k6:=h6;have k9:=h9;have ar:∀x∈p0,x.block<W.heap.size:=by obtain⟨m,O⟩:=k0;exact DataW.trod_lt m _ _ _ O
 have au:∀x∈p3,x.block<W.heap.size:=by obtain⟨m,O⟩:=k3;exact DataW.trod_lt m _ _ _ O
 have av:∀x∈p6,x.block<W.heap.size:=by obtain⟨m,O⟩:=k6;exact DataW.trod_lt m _ _ _ O
 have aw:∀x∈p9,x.block<W.heap.size:=by obtain⟨m,O⟩:=k9;exact DataW.trod_lt m _ _ _ O
 have L:=Ch (M _ rfl);simp only[AT,Rows.uptoBulkAll]at L;obtain⟨A,am,an,ap,ao⟩:∃A:List ByteArray,A.length=d/\d<=maxLen/\(∀s∈A,s.size<=maxLen)/\CT W (.slice a0 d D) A:=by
  obtain⟨n,N⟩:=h0;exact QX (by simpa[Value.cells]using N)
 obtain⟨ak,af,ag,aq,T⟩:∃A:List ByteArray,A.length=g/\g<=maxLen/\(∀s∈A,s.size<=maxLen)/\CT W (.slice a3 g E) A:=by
  obtain⟨n,N⟩:=h3;exact QX (by simpa[Value.cells]using N)
 obtain⟨R,-,ab,ad⟩:∃R:Fs,R.length=u/\(∀f∈R,f.1.length<=maxLen/\f.2.length<=maxLen)/\Mr W (.slice a6 u G) R:=by
  obtain⟨n,N⟩:=h6;exact YC (by simpa[Value.cells]using N)
 obtain⟨y,-,ah,ai⟩:∃y:List OpR,y.length=w/\(∀o∈y,-9223372036854775808<=o.a/\o.a<=9223372036854775807/\o.s.length<=maxLen)/\Oss W (.slice a9 w I) y:=by
  obtain⟨n,N⟩:=h9;exact zht (by simpa[Value.cells]using N)
 have B:∀s:ByteArray,Rows.uptoBulk (.lit (.string s.data.toList):DataW H)=s.data.toList.length+1:=λs=>by rw[Rows.uptoBulk]
 have e4:=B P;have e7:=B s7;have aj:P.size<=1000000000:=by
  have e:P.data.toList.length=P.data.size:=Ei;have e':P.data.size=P.size:=rfl;omega
 have ae:s7.data.toList.length<=1048576:=by omega
 obtain⟨K,Y⟩:=zfa hL;obtain⟨X,hs⟩:=zik K;clear S r;refine(zjt W X (zno K al) hs (zlj K) (zm5 Y) (.slice a0 d D) (.slice a3 g E) (.slice a6 u G) (.slice a9 w I) A ak R y i1 i2 i8 P s5 s7 (bounds_i64 w1) (bounds_i64 w2) (by rw[am];exact an) ap (by rw[af];exact ag) aq ab ah aj w4 w5 w7 ae ao T ad ai).mono λe W' ⟨he,i⟩=>?_;subst he;exact⟨_,rfl,_,_,_,[],_,[],Z,trodAll_mk1 (shut_bool underlying4 _),
  (Cp (Below.trod Kg (by kernel_rfl) (Ch (by kernel_rfl)) k0 i ar) (Cp (shut_int BX w1) (Cp (shut_int BX w2) (Cp (Below.trod Kg (by kernel_rfl) (Ch (by kernel_rfl)) k3 i au) (Cp (shut_string xt w4) (Cp (shut_string xt w5) (Cp (Below.trod Kg (by kernel_rfl) (Ch (by kernel_rfl)) k6 i av) (Cp (shut_string xt w7) (Cp (shut_int BX w8) (Cp (Below.trod Kg (by kernel_rfl) (Ch (by kernel_rfl)) k9 i aw) trodAll_mk0)))))))))),rfl,i.frame _,λh=>by cases h⟩
end
end Go.Proofs.YtfdbeldiomkdiaaGreatDoor
