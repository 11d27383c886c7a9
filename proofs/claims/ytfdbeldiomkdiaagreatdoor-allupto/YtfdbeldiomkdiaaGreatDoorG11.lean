import Derived.Test.YtfdbeldiomkdiaaGreatDoorG10
set_option maxHeartbeats 8000000
set_option maxRecDepth 100000
set_option linter.all false
namespace Go.Proofs.YtfdbeldiomkdiaaGreatDoor
open Go.RowKit Go.Proofs.Tryz
def zj:=@List.getD_eq_getElem?_getD
def EL:=@and_true
def NO (a l:zb)(i:l.length<=1000000000)(e:Int)(g:e=1\/e=2)(w:World)(E:DW w):
  Calls prog 171 #[.string ⟨a.toArray⟩,.string ⟨l.toArray⟩,.int .i64 16,.int .i64 64,.iface 321 (.int .i64 e)] w λr f=>∃t p,r=.returned (.iface t p)/\zc w f:=by
 have h:(⟨l.toArray⟩:ByteArray).size=l.length:=rfl;rcases g with rfl|rfl
 ·obtain⟨b,p,d⟩:=E.cm;refine(show Calls prog 171 #[.string ⟨a.toArray⟩,.string ⟨l.toArray⟩,.int .i64 16,.int .i64 64,.iface 321 (.int .i64 1)] w _ from Any.strconv_toError_range Tryz.laysC245 ⟨a.toArray⟩ ⟨l.toArray⟩ 16 64 (.iface b p) w (by omega) d (.inr ⟨b,p,rfl⟩)).mono ?_;rintro r f ⟨N,rfl,-,-,c⟩;exact⟨_,_,rfl,c⟩
 ·obtain⟨b,p,d⟩:=E.cq;refine(show Calls prog 171 #[.string ⟨a.toArray⟩,.string ⟨l.toArray⟩,.int .i64 16,.int .i64 64,.iface 321 (.int .i64 2)] w _ from Any.strconv_toError_syntax Tryz.laysC245 ⟨a.toArray⟩ ⟨l.toArray⟩ 16 64 (.iface b p) w (by omega) d (.inr ⟨b,p,rfl⟩)).mono ?_;rintro r f ⟨N,rfl,-,-,c⟩;exact⟨_,_,rfl,c⟩
def Rg (a:zb)(h:a.length=8)(w:World):
  Calls prog 125 #[.string ⟨(AY a).toArray⟩,.int .i64 16,.int .i64 64] w λr g=>r=.returned (.tuple #[.int .u64 (Jq 0 (AY a):Nat),.nilIface])/\zc w g:=by
 have b:=ze (BZ a);have e:=ze (Np a);generalize AY a=l at *;go_enter func125,ntmps125;go_wp2_with fail;refine(U4 l (by rw[b.o];omega) (by rw[b.o];omega) e.o w).mono ?_;rintro r i ⟨rfl,f⟩;have c:=ze f;generalize hv:((Jq 0 l:Nat):Int)=v;have d:=ze hv
 go_wp2
 go_ret2
 exact⟨by rw[d.o];rfl,c.o⟩
def Sj (l:zb)(f:l.length<=1000000000)(w:World)(E:DW w):
  Calls prog 125 #[.string ⟨l.toArray⟩,.int .i64 16,.int .i64 64] w λr n=>∃v e,r=.returned (.tuple #[.int .u64 v,e])/\0<=v/\v<=18446744073709551615/\(e=.nilIface\/∃t p,e=.iface t p)/\zc w n:=by
 have g:=ze E;go_enter func125,ntmps125;go_wp2_with fail;refine(Wz l f w).mono ?_;rintro r h ⟨v,e,rfl,k,m,j,i⟩;have a:=ze i;have d:=ze (And.intro k m);rcases j with rfl|rfl|rfl
 ·go_wp2
  go_ret2
  exact⟨_,_,rfl,d.o.1,d.o.2,.inl rfl,a.o⟩
 ·go_wp2_with fail;refine(NO [80,97,114,115,101,85,105,110,116] l f 1 (.inl rfl) h (g.o.below a.o)).mono ?_;rintro r q ⟨t,p,rfl,c⟩;have b:=ze (a.o.trans (c.mono a.o.size))
  go_wp2
  go_ret2
  exact⟨_,_,rfl,d.o.1,d.o.2,.inr ⟨_,_,rfl⟩,b.o⟩
 ·go_wp2_with fail;refine(NO [80,97,114,115,101,85,105,110,116] l f 2 (.inr rfl) h (g.o.below a.o)).mono ?_;rintro r q ⟨t,p,rfl,c⟩;have b:=ze (a.o.trans (c.mono a.o.size))
  go_wp2
  go_ret2
  exact⟨_,_,rfl,d.o.1,d.o.2,.inr ⟨_,_,rfl⟩,b.o⟩
def Xn (l:zb)(e:l.length<=1000000000)(w:World)(E:DW w):
  Calls prog 124 #[.string ⟨l.toArray⟩,.string ⟨#[10]⟩,.int .i64 4] w λr b=>∃a:List ByteArray,a.map (·.data.toList)=Lib.splitK [10] 0 (min 4 (l.length+1)-1) l /\
   r=.returned (.slice (some ⟨w.heap.size,0,none⟩) a.length (min 4 (l.length+1)))/\b=w.alloc (.cells (Lib.cellsOf a (min 4 (l.length+1))) 9):=by
 obtain⟨m,c⟩:=E.max;have d:(⟨l.toArray⟩:ByteArray).size=l.length:=rfl;refine(show Calls prog 124 #[.string ⟨l.toArray⟩,.string ⟨#[10]⟩,.int .i64 4] w _ from Any.strings_SplitN Tryz.lays147 (by kernel_rfl) ⟨l.toArray⟩ ⟨#[10]⟩ 4 m w (by omega) c (by decide) (by decide) (by decide)).mono ?_;rintro r b ⟨rfl,rfl⟩;exact⟨_,Lib.splitB_data _ _ _ _,rfl,rfl⟩
variable {B g:Nat}{e:TypeId}{v:Value}{w w':World}
def zb1:(prog.info? 5).map (λi=>(i.zero,i.size,i.bytes))=some (some (.int .u8 0),1,1):=by kernel_rfl
def O3 {o:Obj}(h:w.heap[g]?=some o):g<w.heap.size:=by
 rcases qf g w.heap.size with a|a
 ·exact a
 ·simp[A7 a]at h
def YD {s:Nat}{n:Nat}{d:List Value}(h:w.ownsRow B e s v n d)(j:zc w w'):w'.ownsRow B e s v n d:=by
 refine⟨h.1,?_⟩;rcases h.2 with h|⟨g,a,b,f,i,c,r⟩
 ·exact .inl h
 ·exact .inr ⟨g,a,b,f,i,by rw[j.block g (O3 c)];exact c,r⟩
def zcp {s:Nat}{n:Nat}{d:List Value}(h:w.ownsRow B e s v n d):∀k,v.ownBlock=some k->B<=k:=by
 intro k a;rcases h.2 with ⟨rfl,_⟩|⟨g,b,c,rfl,f,_⟩
 ·simp[Value.ownBlock]at a
 ·simp only[Value.ownBlock,zn]at a;omega
def zkc:∀q:Fin 16,(⟨#[48,49,50,51,52,53,54,55,56,57,97,98,99,100,101,102]⟩:ByteArray)[q.val]'(q.isLt)=G4 q.val:=by decide +kernel
def zfz (q:Nat)(h:q<16):(⟨#[48,49,50,51,52,53,54,55,56,57,97,98,99,100,101,102]⟩:ByteArray)[q]'h=G4 q:=zkc ⟨q,h⟩
def zoa:∀c:Fin 256,bits BinOp.and IntKind.u8 (c.val:Int) 15=(c.val:Int)%16:=by decide +kernel
def XK (c:UInt8):bits BinOp.and IntKind.u8 (c.toNat:Int) 15=(c.toNat:Int)%16:=zoa ⟨c.toNat,c.toNat_lt⟩
def KG (p:zb)(hr:p.length=8)(w:World):
  Calls prog 123 #[.agg (hv p)] w λr w'=>r=.returned (.string ⟨(AY p).toArray⟩)/\zc w w':=by
 obtain⟨i,Z,H⟩:=zx.1 zb1;obtain⟨L,M,N⟩:i.zero=some (.int .u8 0)/\i.size=1/\i.bytes=1:=by simpa using H
 have Q:=ze Z;have D:=ze (And.intro L (And.intro M N));obtain⟨a,b,d,f,h,l,m,n,rfl⟩:=XC p hr;have S:Hid (hv [a,b,d,f,h,l,m,n]=#[.int .u8 a.toNat,.int .u8 b.toNat,.int .u8 d.toNat,.int .u8 f.toNat,.int .u8 h.toNat,.int .u8 l.toNat,.int .u8 m.toNat,.int .u8 n.toNat]):=rfl;rw[S.o];go_enter func123,ntmps123
 go_wp2
 go_loopw [3,7] (λt i wr=>∃k:Nat,k<=8/\i=.int .i64 k/\zc w wr/\wr.ownsRow w.heap.size 5 1 t (2*k) ((AY ([a,b,d,f,h,l,m,n].take k)).map bv)) (λ_ i _=>8-(intOf i).toNat)
 case atStart=>exact⟨0,yk _,rfl,zi w _,⟨rfl,.inl ⟨rfl,rfl⟩⟩⟩
 case round =>
  obtain⟨k,hk,rfl,G,q⟩:=hrel;have y:=ze G;have A:=ze q
  by_cases J:k<8
  ·obtain⟨c,u⟩:∃c:UInt8,[a,b,d,f,h,l,m,n][k]?=some c:=⟨[a,b,d,f,h,l,m,n][k],by simp[J]⟩;have aa:∀s,(Instr.index 91 (.agg #[.int .u8 a.toNat,.int .u8 b.toNat,.int .u8 d.toNat,.int .u8 f.toNat,.int .u8 h.toNat,.int .u8 l.toNat,.int .u8 m.toNat,.int .u8 n.toNat]) (.int .i64 k)).run prog s=.ok (.int .u8 (c.toNat:Int)) s:=by
    rcases(by omega:k=0\/k=1\/k=2\/k=3\/k=4\/k=5\/k=6\/k=7)with rfl|rfl|rfl|rfl|rfl|rfl|rfl|rfl
    ·obtain rfl:a=c:=by simpa using u
     exact λs=>by kernel_rfl
    ·obtain rfl:b=c:=by simpa using u
     exact λs=>by kernel_rfl
    ·obtain rfl:d=c:=by simpa using u
     exact λs=>by kernel_rfl
    ·obtain rfl:f=c:=by simpa using u
     exact λs=>by kernel_rfl
    ·obtain rfl:h=c:=by simpa using u
     exact λs=>by kernel_rfl
    ·obtain rfl:l=c:=by simpa using u
     exact λs=>by kernel_rfl
    ·obtain rfl:m=c:=by simpa using u
     exact λs=>by kernel_rfl
    ·obtain rfl:n=c:=by simpa using u
     exact λs=>by kernel_rfl
   have U:=c.toNat_lt;have R:Hid ((AY ([a,b,d,f,h,l,m,n].take (k+1))).map bv=(AY ([a,b,d,f,h,l,m,n].take k)).map bv++[.int .u8 ((G4 (c.toNat/16)).toNat:Int),.int .u8 ((G4 (c.toNat%16)).toNat:Int)]):=by
    show _=_;rw[List.take_add_one,u];unfold AY;rw[yv,Ej,yv]
    rfl
   have g1:0<=(c.toNat:Int)/16/\(c.toNat:Int)/16<16:=by omega
   have g2:0<=(c.toNat:Int)%16/\(c.toNat:Int)%16<16:=by omega
   have ha:=XK c;have W:=(zfz ((c.toNat:Int)/16).toNat (by omega)).trans (congrArg G4 (show((c.toNat:Int)/16).toNat=c.toNat/16 by omega));have X:=(zfz ((c.toNat:Int)%16).toNat (by omega)).trans (congrArg G4 (show((c.toNat:Int)%16).toNat=c.toNat%16 by omega));have x:=ze y.o.size;have B:Hid (∀o,(wr.alloc o).drew.ownsRow w.heap.size 5 1 u3 (2*k) ((AY ([a,b,d,f,h,l,m,n].take k)).map bv)):=λo=>YD A.o (zi wr o).drew
   go_wp2
   go_region_law (refine AZ _ (by rfl) _ _ _ (by rfl) w.heap.size 5 i (.int .u8 0) 1 1 underlying94 Q.o D.o.1 D.o.2.1 D.o.2.2 rfl (by omega) u3 (2*k) _ (by rfl) (B.o _) ⟨wr.heap.size,0,none⟩ 2 2 [.int .u8 ((G4 (c.toNat/16)).toNat:Int),.int .u8 ((G4 (c.toNat%16)).toNat:Int)] (by rfl) rfl (xm (zf _ _)) (by simp[Value.oneCell']) (by omega) (by unfold maxLen;omega) (by omega) (by have:=x.out;simp;omega) (wr.heap.size+1) (by simp) ?_;intro g O w3 q v T P)
   all_goals
    have z:=ze (((y.o.trans ((zi wr _).mono y.o.size)).drew).grown v (by have:=x.out;simp;omega) (zcp A.o));have C:=ze q;go_wp2_with fail;refine⟨⟨k+1,by omega,by go_num,z.o,by rw[R.o];exact C.o⟩,by simp[intOf];omega⟩
  ·obtain rfl:k=8:=by omega
   have V:(convert 94 9 u3).run prog wr=.ok (.string ⟨(AY [a,b,d,f,h,l,m,n]).toArray⟩) wr:=by
    rcases A.o.2 with ⟨_,h0⟩|⟨g,E,F,rfl,hB,Y,hn,hm,hs,ht⟩
    ·omega
    ·refine BB wr _ _ 5 ⟨g,0,none⟩ E (AY [a,b,d,f,h,l,m,n]) underlying94 jc xt (λj I=>?_);rw[vp,xk,xe _ _ _ _ _ _ Y];have e:((AY [a,b,d,f,h,l,m,n]).map bv)[j]?=some (bv (AY [a,b,d,f,h,l,m,n])[j]):=by simp[I]
     have K:F.toList.take (2*8*1)=(AY [a,b,d,f,h,l,m,n]).map bv:=ht;rw[<- K,qi,if_pos (by rw[BZ]at I;simp at I;omega)]at e;simpa[bv]using e
   go_wp2
   go_ret;exact⟨rfl,y.o⟩
def VC:∀q:Fin 16,((⟨#[48,49,50,51,52,53,54,55,56,57,97,98,99,100,101,102]⟩:ByteArray).extract q.val (q.val+1)).data=#[G4 q.val]:=by decide +kernel
def ZF (q:Nat)(h:q<16):(⟨#[48,49,50,51,52,53,54,55,56,57,97,98,99,100,101,102]⟩:ByteArray).extract q (q+1)=⟨#[G4 q]⟩:=Ah (VC ⟨q,h⟩)
def Rs (l:zb)(v:l.length<=1000)(w:World):
  Calls prog 83 #[.string ⟨l.toArray⟩] w λr h=>r=.returned (.string ⟨(AY l).toArray⟩)/\zc w h:=by
 go_enter func83,ntmps83
 go_wp2
 go_loopw [4,5] (λt i wr=>∃k n:Nat,k<=l.length/\i=.int .i64 k/\t=.string ⟨(AY (l.take k)).toArray⟩/\wr=w.drewN n) (λ_ i _=>l.length-(intOf i).toNat)
 case atStart=>exact⟨0,0,yk _,rfl,rfl,rfl⟩
 case round =>
  obtain⟨k,n,u,rfl,rfl,rfl⟩:=hrel
  by_cases a:k<l.length
  ·have g:(⟨l.toArray⟩:ByteArray)[k]'(by show k<l.toArray.size;simpa using a)=l[k]:=by show l.toArray[k]=_;simp
   have e:Hid (AY (l.take (k+1))=AY (l.take k)++[G4 (l[k].toNat/16),G4 (l[k].toNat%16)]):=by
    show _=_;rw[yz a];unfold AY;rw[yv,Ej]
    rfl
   have d:=BZ (l.take k);have b:(l.take k).length=k:=by rw[AM];omega
   rw[b]at d;have f:=(l[k]).toNat_lt;generalize AY (l.take k)=m at *;generalize l[k]=c at *;have q:0<=(c.toNat:Int)/16/\(c.toNat:Int)/16<16:=by omega
   have s:0<=(c.toNat:Int)%16/\(c.toNat:Int)%16<16:=by omega
   have d1:=ZF (c.toNat/16) (by omega);have d2:=ZF (c.toNat%16) (by omega);have j:¬9223372036854775807<m.length+1:=by omega
   have p:¬9223372036854775807<m.length+1+1:=by omega
   go_wp2
   go_region
   all_goals go_wp2_with fail
   all_goals exact⟨⟨k+1,n+1,by omega,by go_num,by rw[e.o];congr 1;apply Ah;simp,rfl⟩,by simp[intOf];omega⟩
  ·go_wp2
   go_ret;rw[xn (by omega)];exact⟨rfl,⟨rfl,rfl,rfl,zk _,λ_ _=>rfl⟩⟩
def TM (c:UInt8)(w:World):
  Calls prog 85 #[.int .u8 (c.toNat:Int)] w λr i=>∃v:Int,r=.returned (.int .i64 v)/\i=w/\((FP c/\v=(nv c:Nat))\/(¬FP c/\v=-1)):=by
 have j:=c.toNat_lt
 by_cases b:48<=c.toNat/\c.toNat<=57
 ·have a:Hid (FP c/\nv c=c.toNat-48):=by refine⟨.inl b,?_⟩;unfold nv;rw[if_pos b.2]
  obtain⟨f,g⟩:=b;have f1:(48:Int)<=c.toNat:=by omega
  have f2:(c.toNat:Int)<=57:=by omega
  have h:IntKind.u8.wrap ((c.toNat:Int)-48)=(c.toNat:Int)-48:=by rw[CW];omega
  go_enter func85,ntmps85
  go_wp2
  go_ret;exact⟨_,rfl,rfl,.inl ⟨a.o.1,by rw[a.o.2];omega⟩⟩
 ·by_cases d:97<=c.toNat/\c.toNat<=102
  ·have a:Hid (FP c/\nv c=c.toNat-87):=by refine⟨.inr d,?_⟩;unfold nv;rw[if_neg (by omega)]
   obtain⟨f,g⟩:=d;have h:IntKind.u8.wrap ((c.toNat:Int)-97)=(c.toNat:Int)-97:=by rw[CW];omega
   have f1:(97:Int)<=c.toNat:=by omega
   have f2:(c.toNat:Int)<=102:=by omega
   have f3:¬(c.toNat:Int)<=57:=by omega
   have f4:(48:Int)<=c.toNat:=by omega
   go_enter func85,ntmps85
   go_wp2
   go_ret;exact⟨_,rfl,rfl,.inl ⟨a.o.1,by rw[a.o.2];omega⟩⟩
  ·have e:Hid (¬FP c):=by show ¬_;unfold FP;omega
   go_enter func85,ntmps85;go_wp2_with fail
   all_goals first
    |(go_ret;exact⟨_,rfl,rfl,.inr ⟨e.o,rfl⟩⟩)
    |(exfalso;omega)
variable {fr:Nat × Nat}{t:TypeId}{x8:Value}
def Wn (d h:zb):(⟨#[116,105,108,101,115,10]⟩++⟨d.toArray⟩++⟨#[10]⟩++⟨h.toArray⟩++⟨#[10]⟩:ByteArray)=⟨(Da++d++[10]++h++[10]).toArray⟩:=by
 apply Ah;simp[Da]
def LO (n:Int)(h0:0<=n)(t:n<=9223372036854775807)(a b:zb)(y:a.length=8)(Q:b.length<=2097152)(w:World):
  Calls prog 39 #[.int .i64 n,.string ⟨a.toArray⟩,.string ⟨b.toArray⟩] w λr A=>r=.returned (.string ⟨(AR n.toNat a b).toArray⟩)/\zc w A:=by
 have u:Hid (AR n.toNat a b=(Da++DD n.toNat++[10]++AY a++[10])++AY (hash (b++[0]++(Da++DD n.toNat++[10]++AY a++[10])))++[10]):=rfl;have P:=AA n h0 t;have z:=BZ a;rw[y]at z;go_enter func39,ntmps39;go_wp2_with fail;refine(Kf n h0 t w).mono ?_;rintro r B ⟨rfl,l⟩;have c:=ze l;generalize DD n.toNat=d at *;go_wp2_with fail;refine(Rs a (by omega) B).mono ?_;rintro r C ⟨rfl,m⟩;have e:=ze (c.o.trans (m.mono c.o.size));generalize AY a=h at *;have E:¬9223372036854775807<6+d.length:=by omega
 have F:¬9223372036854775807<6+d.length+1:=by omega
 have G:¬9223372036854775807<6+d.length+1+h.length:=by omega
 have I:¬9223372036854775807<6+d.length+1+h.length+1:=by omega
 have J:¬9223372036854775807<b.length+1:=by omega
 have v:=Wn d h;have x:(Da++d++[10]++h++[10]).length<=60:=by simp[Da];omega
 generalize Da++d++[10]++h++[10]=L at *;have K:¬9223372036854775807<b.length+1+L.length:=by omega
 go_wp2_with fail;refine(G6 _ C (by rw[G9,G9];show b.toArray.size+1+L.toArray.size<=maxLen;simp[maxLen];omega)).mono ?_;rintro r D ⟨g,p⟩;have f:=ze (e.o.trans (p.mono e.o.size));rw[F4,F4]at g;have i:=g;subst i;unfold AL;have s:=Jc (b++[0]++L);generalize hash (b++[0]++L)=H at *;go_wp2_with fail;refine(Rs H (by omega) D).mono ?_;rintro r R ⟨rfl,q⟩;have j:=ze (f.o.trans (q.mono f.o.size));have k:=BZ H;rw[s]at k;generalize AY H=M at *;have N:¬9223372036854775807<L.length+M.length:=by omega
 have O:¬9223372036854775807<L.length+M.length+1:=by omega
 go_wp2
 go_ret;refine⟨?_,j.o⟩;rw[u.o];exact Hi (by apply Ah;simp)
def tv (n:Int)(a b c d e f g h:UInt8):Array Value:=#[.int .i64 n,.int .u8 a.toNat,.int .u8 b.toNat,.int .u8 c.toNat,.int .u8 d.toNat,.int .u8 e.toNat,.int .u8 f.toNat,.int .u8 g.toNat,.int .u8 h.toNat]
def Kd {a b c d e f i j:Value}(h:w.heap[g]?=some (.cells #[a,b,c,d,e,f,i,j,x8] t fr)):
  w.cell? ⟨g,0,none⟩=some a/\w.cell? ⟨g,1,none⟩=some b/\w.cell? ⟨g,2,none⟩=some c/\w.cell? ⟨g,3,none⟩=some d/\w.cell? ⟨g,4,none⟩=some e/\w.cell? ⟨g,5,none⟩=some f/\w.cell? ⟨g,6,none⟩=some i/\w.cell? ⟨g,7,none⟩=some j/\w.cell? ⟨g,8,none⟩=some x8:=by
 refine⟨?_,?_,?_,?_,?_,?_,?_,?_,?_⟩<;>rw[xe _ _ _ _ _ _ h]<;>rfl
def ZC (w:World)(k:zb)(c:Nat):Bs (w.alloc (.cells (bytesRow ⟨k.toArray⟩ c) 5 ((bytesRow ⟨k.toArray⟩ c).size,(bytesRow ⟨k.toArray⟩ c).size+1))) (.slice (some ⟨w.heap.size,0,none⟩) k.length c) k:=
 ⟨_,_,rfl,.inr ⟨w.heap.size,0,rfl,λi a=>by
  rw[xk,ME w ⟨k.toArray⟩ c i a]
  rfl⟩⟩
def Zd (w:World)(k l:zb)(b a:Nat):
  JW ((((w.alloc (.cells (bytesRow ⟨k.toArray⟩ b) 5 ((bytesRow ⟨k.toArray⟩ b).size,(bytesRow ⟨k.toArray⟩ b).size+1))).alloc (.cells #[.int .u8 0] 5)).alloc (.cells (bytesRow ⟨l.toArray⟩ a) 5 ((bytesRow ⟨l.toArray⟩ a).size,(bytesRow ⟨l.toArray⟩ a).size+1))).alloc
   (.cells #[.slice (some ⟨w.heap.size,0,none⟩) k.length b,.slice (some ⟨w.heap.size+1,0,none⟩) 1 1,.slice (some ⟨w.heap.size+1+1,0,none⟩) l.length a] 94)) (.slice (some ⟨w.heap.size+1+1+1,0,none⟩) 3 3) [k,[0],l]:=by
 have c:=ZC w k b;have n:(w.alloc (.cells (bytesRow ⟨k.toArray⟩ b) 5 ((bytesRow ⟨k.toArray⟩ b).size,(bytesRow ⟨k.toArray⟩ b).size+1))).heap.size=w.heap.size+1:=by simp
 generalize w.alloc (.cells (bytesRow ⟨k.toArray⟩ b) 5 ((bytesRow ⟨k.toArray⟩ b).size,(bytesRow ⟨k.toArray⟩ b).size+1))=d at *;have g:Bs (d.alloc (.cells #[.int .u8 0] 5)) (.slice (some ⟨w.heap.size+1,0,none⟩) 1 1) [0]:=Bs.fresh d [0] 5 (w.heap.size+1) n.symm 1;have c:=c.below (zi d (.cells #[.int .u8 0] 5));have o:(d.alloc (.cells #[.int .u8 0] 5)).heap.size=w.heap.size+1+1:=by simp[n]
 generalize d.alloc (.cells #[.int .u8 0] 5)=e at *;have m:=ZC e l a;rw[o]at m;have c:=c.below (zi e (.cells (bytesRow ⟨l.toArray⟩ a) 5 ((bytesRow ⟨l.toArray⟩ a).size,(bytesRow ⟨l.toArray⟩ a).size+1)));have g:=g.below (zi e (.cells (bytesRow ⟨l.toArray⟩ a) 5 ((bytesRow ⟨l.toArray⟩ a).size,(bytesRow ⟨l.toArray⟩ a).size+1)));have j:(e.alloc (.cells (bytesRow ⟨l.toArray⟩ a) 5 ((bytesRow ⟨l.toArray⟩ a).size,(bytesRow ⟨l.toArray⟩ a).size+1))).heap.size=w.heap.size+1+1+1:=by simp[o]
 generalize e.alloc (.cells (bytesRow ⟨l.toArray⟩ a) 5 ((bytesRow ⟨l.toArray⟩ a).size,(bytesRow ⟨l.toArray⟩ a).size+1))=f at *;refine⟨_,3,rfl,zk _,.inr ⟨w.heap.size+1+1+1,0,rfl,λi p=>?_⟩⟩;have h:=zi f (.cells #[.slice (some ⟨w.heap.size,0,none⟩) k.length b,.slice (some ⟨w.heap.size+1,0,none⟩) 1 1,.slice (some ⟨w.heap.size+1+1,0,none⟩) l.length a] 94);rw[xk]
 match i,p with
 |0,_=>exact⟨_,F5 f _ _ 0 _ j.symm,c.below h⟩
 |1,_=>exact⟨_,F5 f _ _ 1 _ j.symm,g.below h⟩
 |2,_=>exact⟨_,F5 f _ _ 2 _ j.symm,m.below h⟩
def NK (n:Int)(h0:0<=n)(R:n<=9223372036854775807)(b c e f g i j k:UInt8)(a:zb)(hk:a.length<=9223372036854775807)(w:World)(E:DW w):
  Calls prog 82 #[.agg (tv n b c e f g i j k),.string ⟨a.toArray⟩] w λr w'=>r=.returned (.string ⟨(AR n.toNat [b,c,e,f,g,i,j,k] a).toArray⟩)/\zc w w':=by
 unfold tv;have T:=ze E;clear E;have V:Hid (AR n.toNat [b,c,e,f,g,i,j,k] a=(Da++DD n.toNat++[10]++AY [b,c,e,f,g,i,j,k]++[10])++AY (hash (a++[0]++(Da++DD n.toNat++[10]++AY [b,c,e,f,g,i,j,k]++[10])))++[10]):=rfl;have hd:=AA n h0 R;have I:=BZ [b,c,e,f,g,i,j,k];simp only[xf,jq]at I;have W:=ze (KG [b,c,e,f,g,i,j,k] rfl);have U:=ze (E7 n h0 R);generalize DD n.toNat=d at *;generalize AY [b,c,e,f,g,i,j,k]=h at *;have a1:¬9223372036854775807<6+d.length:=by omega
 have a2:¬9223372036854775807<6+d.length+1:=by omega
 have a3:¬9223372036854775807<6+d.length+1+h.length:=by omega
 have a4:¬9223372036854775807<6+d.length+1+h.length+1:=by omega
 have aa:=Wn d h;have ab:(Da++d++[10]++h++[10]).length<=60:=by simp[Da];omega
 generalize Da++d++[10]++h++[10]=L at *;have O:∀(Q:World) (s:ByteArray),(convert 9 94 (.string s)).run prog Q=_:=λQ s=>AI (P:=prog) Q 9 94 5 s xt underlying94 jc;go_enter func82,ntmps82
 go_wp2
 go_region_with (first
  |(go_at_call 118;refine(U.o _ (T.o.below (zi w _).drew)).mono ?_;rintro r S ⟨rfl,p⟩;have l:Hid (zc w S):=(zi w _).drew.trans (p.mono (by simp));obtain⟨X,Y,Z,c3,c4,c5,c6,c7,c8⟩:=Kd ((p.block w.heap.size (by simp)).trans (zf _ _));clear p)
  |(go_at_call 123;refine(W.o _).mono ?_;rintro r J ⟨rfl,u⟩;have q:Hid (zc w J):=l.o.trans (u.mono l.o.size);clear u))
 all_goals clear X Y Z c3 c4 c5 c6 c7 c8 l S
 all_goals
  have v:=λ(C D F G:Obj)=>(Bv J C D F).trans ((zi _ G).mono (by simp;omega));have m:Hid (∀C D F G,zc w ((((J.alloc C).alloc D).alloc F).alloc G)):=λC D F G=>q.o.trans ((v C D F G).mono q.o.size);clear v;go_wp2_with fail;refine(Kl _ [a,[0],L] _ (by simp[maxLen]) (λx I=>by simp at I;rcases I with rfl|rfl|rfl<;>(unfold maxLen;simp;try omega)) (by exact(Zd J a L _ _).below ((zu _ _).drew.drew))).mono ?_;rintro r w5 ⟨B,y⟩;have t:=ze (((m.o _ _ _ _).drew.drew).trans (y.mono (m.o _ _ _ _).size));rw[show hash [a,[0],L].flatten=hash (a++[0]++L) by simp]at B;subst B;clear y m O;have A:=Jc (a++[0]++L);generalize hash (a++[0]++L)=H at *;go_wp2_with fail;refine(KG H A w5).mono ?_;rintro r w6 ⟨rfl,z⟩;have K:=ze (t.o.trans (z.mono t.o.size));clear z;have N:=BZ H;rw[A]at N;generalize AY H=M at *;have a7:¬9223372036854775807<L.length+M.length:=by omega
  have a8:¬9223372036854775807<L.length+M.length+1:=by omega
  go_wp2
  go_ret;refine⟨?_,K.o⟩;rw[V.o];exact Hi (by apply Ah;simp)
def Sn (n:Int)(h0:0<=n)(y:n<=9223372036854775807)(s a:zb)(z:a.length<=9223372036854775807)(w:World)(E:DW w):
  Calls prog 38 #[.int .i64 n,.string ⟨s.toArray⟩,.string ⟨a.toArray⟩] w λr A=>r=.returned (.string ⟨(AR n.toNat (e8 s) a).toArray⟩)/\zc w A:=by
 have v:=ze E;clear E;go_enter func38,ntmps38;go_wp2_with fail;refine(JF _ w).mono ?_;rintro r B ⟨e,c⟩;have f:r=.returned (.agg (hv (e8 s))):=e;subst f;have b:=ze c;clear e c;obtain⟨h,i,j,k,l,m,p,q,t⟩:=XC (e8 s) (CB s);have x:=ze t;rw[t];have u:hv [h,i,j,k,l,m,p,q]=#[.int .u8 h.toNat,.int .u8 i.toNat,.int .u8 j.toNat,.int .u8 k.toNat,.int .u8 l.toNat,.int .u8 m.toNat,.int .u8 p.toNat,.int .u8 q.toNat]:=rfl;rw[u];clear u t;go_wp2_with fail;refine(NK n h0 y h i j k l m p q a z B (v.o.below b.o)).mono ?_;rintro r C ⟨rfl,d⟩;have g:Hid (zc w C):=b.o.trans (d.mono b.o.size);clear d
 go_wp2
 go_ret;exact⟨by rw[x.o];rfl,g.o⟩
def DU {P:Program}{fn:Func}{p u:Tmp}{ty:TypeId}(h:fn.results=#[.cell p ty,.tmp u])(tmps:Array Value)(w:World)(g:Nat)(t:TypeId)(cs:Array Value)(fr:Nat×Nat)(d:TypeDesc)
  (hp:tmps.getD p undef=.pointer (some ⟨g,0,none⟩)) (hg:w.heap[g]?=some (.cells cs t fr))
  (hu:P.underlying ty=some d) (hd:(match d with|.struct _|.array _ _=>true|_=>false)=true) (hi:(P.info? ty).map (·.size)=some cs.size) (x:Value) (hx:tmps.getD u undef=x) :
  (results fn tmps).run P w=.ok (.tuple #[.agg cs,x]) w:=by
 rw[_root_.Go.results_cell_tmp h,hp,hx];simp[asAddr,BS w g t ty cs fr d hg hu hd hi]
def z9:Array Value:=#[.int .i64 0,.int .u8 0,.int .u8 0,.int .u8 0,.int .u8 0,.int .u8 0,.int .u8 0,.int .u8 0,.int .u8 0]
def UX:z9.all (·.oneCell') =true:=by simp[z9,Value.oneCell']
def Ef:(prog.info? 120).map (·.size)=some z9.size:=by kernel_rfl
def RL (n:Int)(a b c d e f g h:UInt8):(tv n a b c d e f g h).all (·.oneCell')=true:=by simp[tv,Value.oneCell']
def zl4 (n:Int)(a b c d e f g h:UInt8):(prog.info? 120).map (·.size)=some (tv n a b c d e f g h).size:=Ef
def R9:∀(k:Nat) (s:zb) ,(Lib.splitK [10] 0 k s).length<=k+1
 |0,_=>zk _
 |k+1,s=>by
  rw[Lib.splitK];split
  ·simp
  ·have:=R9 k (s.drop ((Lib.index s [10]).toNat+[10].length));simp only[xf]at this ⊢;omega
def NL (c:zb):∀(k:Nat) (s:zb),∀x∈Lib.splitK c 0 k s,x.length<=s.length
 |0,s,x,a=>by
  obtain rfl:x=s:=by simpa[Lib.splitK]using a
  exact zk _
 |k+1,s,x,a=>by
  rw[Lib.splitK]at a;split at a
  ·obtain rfl:x=s:=by simpa using a
   exact zk _
  ·rcases jl.1 a with rfl|h
   ·simp;omega
   ·have:=NL c k _ x h;simp at this;omega
def Rf (l:zb)(n:l.length<=1000000000)(w:World)(E:DW w):
  Calls prog 125 #[.string ⟨l.toArray⟩,.int .i64 16,.int .i64 64] w λr i=>∃v e,r=.returned (.tuple #[.int .u64 v,e])/\0<=v/\v<=18446744073709551615/\(e=.nilIface\/∃t p,e=.iface t p)/\(∀a,a.length=8->l=AY a->e=.nilIface/\O2 v=a)/\zc w i:=by
 by_cases j:∃a,a.length=8/\l=AY a
 ·obtain⟨a,d,rfl⟩:=j;refine(Rg a d w).mono ?_;rintro r i ⟨rfl,g⟩;have c:=ZO (AY a) (Np a) 0 0 (by decide);rw[BZ,d]at c;have k:=c;refine⟨_,_,rfl,by omega,by omega,.inl rfl,λb f e=>⟨rfl,?_⟩,g⟩;rw[VX d f e];exact QY b f
 ·refine(Sj l n w E).mono ?_;rintro r i ⟨v,e,rfl,o,q,m,g⟩;exact⟨v,e,rfl,o,q,m,λa d h=>absurd ⟨a,d,h⟩ j,g⟩
def QF {t b:zb}{n:Nat}{a:zb}(h:vq t b n a):Lib.splitK [10] 0 (min 4 (t.length+1)-1) t=[[116,105,108,101,115],DD n,AY a,JI n a b++[10]]:=by
 obtain⟨_,_,rfl⟩:=h;have:=zd3 n a b;rw[show min 4 ((AR n a b).length+1)-1=3 by omega];exact Zg n a b
def Oa (t b:zb)(ht:t.length<=1048576)(hk:b.length<=9223372036854775807)(w:World)(E:DW w):
  Calls prog 84 #[.string ⟨t.toArray⟩,.string ⟨b.toArray⟩] w λr w'=>zc w w' /\
   ((∃n f c d g i j k m,vq t b n [f,c,d,g,i,j,k,m]/\r=.returned (.tuple #[.agg (tv n f c d g i j k m),.bool true]))\/((∀n a,¬vq t b n a)/\r=.returned (.tuple #[.agg z9,.bool false]))):=by
 have HE:=ze E;go_enter func84,ntmps84;go_wp2_with fail;have D:=ze (zi w (.cells z9 120));have aa:=ze (zf w (.cells z9 120));unfold z9 at D aa;generalize w.alloc (.cells #[.int .i64 0,.int .u8 0,.int .u8 0,.int .u8 0,.int .u8 0,.int .u8 0,.int .u8 0,.int .u8 0,.int .u8 0] 120)=U at *;refine(Xn t (by omega) U (HE.o.below D.o)).mono ?_;rintro r w2 ⟨z,au,rfl,rfl⟩;have H:=ze au;have O:=ze (zf U (.cells (Lib.cellsOf z (min 4 (t.length+1))) 9));have F:Hid (zc w (U.alloc (.cells (Lib.cellsOf z (min 4 (t.length+1))) 9))):=D.o.trans ((zi U _).mono D.o.size);have B:=ze (zr (o:=.cells (Lib.cellsOf z (min 4 (t.length+1))) 9) aa.o);generalize U.alloc (.cells (Lib.cellsOf z (min 4 (t.length+1))) 9)=W2 at *;generalize U.heap.size=gl at *;have ae:Hid (∀x∈z.map (·.data.toList),x.length<=t.length):=λx hx=>by rw[H.o]at hx;exact NL _ _ _ x hx
 have af:Hid (z.length<=min 4 (t.length+1)):=by
  show z.length<=_;have:=R9 (min 4 (t.length+1)-1) t;rw[<- H.o,yg]at this;omega
 have K:∃s,w.heap.size=s:=⟨_,rfl⟩;obtain⟨s,K⟩:=K;rw[K]at B ⊢;have C:=ze K
 by_cases h4:z.length<4
 ·have n4:(z.length:Int)<4:=by omega
  have P:Hid (∀n a,¬vq t b n a):=λn a h=>by
   have e:=H.o;rw[QF h]at e;have:=congrArg List.length e;simp at this;omega
  generalize min 4 (t.length+1)=N at *;go_wp2_with (show wpList _ _ _ ({dst:=none,op:=Op.store _ _ _,type:=_,pos:=_,after:=_,guard:=_}::_) _ _;refine yw rfl 120 _ _ rfl s z9 rfl rfl 120 _ B.o Ef rfl UX ?_);refine zv (v:=.tuple #[.agg z9,.bool false]) (DU results84 _ _ s 120 _ (0,0) _ rfl (Av _ _ _ _ _ _ B.o) underlying120 rfl Ef _ rfl) rfl ⟨Ag F.o (vx C.o) _,.inr ⟨P.o,rfl⟩⟩
 ·have ar:z.length=4:=by have:=af.o;omega
  have ap:min 4 (t.length+1)=4:=by have:=af.o;omega
  rw[ap]at O ⊢;obtain⟨p0,V,W,p3,rfl⟩:∃p0 V W p3,z=[p0,V,W,p3]:=by
   match z,ar with
   |[p0,V,W,p3],_=>exact⟨p0,V,W,p3,rfl⟩
  obtain⟨L,rfl⟩:∃l:zb,V=⟨l.toArray⟩:=⟨V.data.toList,by simp⟩;obtain⟨l2,rfl⟩:∃l:zb,W=⟨l.toArray⟩:=⟨W.data.toList,by simp⟩;have c:=zt (ae.o L (by simp)) ht;have d:=zt (ae.o l2 (by simp)) ht;have I:Hid (∀n a,vq t b n a->L=DD n/\l2=AY a):=λn a h=>by
   have e:=H.o;rw[QF h]at e;simp only[j4,DQ,EK]at e;exact⟨e.2.1,e.2.2.1⟩
  have c1:W2.cell? ⟨gl,1,none⟩=some (.string ⟨L.toArray⟩):=by rw[xe _ _ _ _ _ _ O.o];rfl
  have c2:W2.cell? ⟨gl,2,none⟩=some (.string ⟨l2.toArray⟩):=by rw[xe _ _ _ _ _ _ O.o];rfl
  have aq:([p0,⟨L.toArray⟩,⟨l2.toArray⟩,p3]:List ByteArray).length=4:=rfl;rw[aq];go_wp2_with fail;refine(Rf l2 (by omega) W2 (HE.o.below F.o)).mono ?_;rintro r w3 ⟨v,e,rfl,v0,v1,he,hF,R⟩;have M:=ze (F.o.trans (R.mono F.o.size));have ab:=ze ((R.block s (O3 B.o)).trans B.o);rw[<- R.cell (p:=⟨gl,1,none⟩) (yf (p:=⟨gl,1,none⟩) c1)]at c1;have HF:=ze hF;have HV:=ze (And.intro v0 v1);have al:=ze he;go_wp2_with fail;refine(Ji L (by omega) w3 (HE.o.below M.o)).mono ?_;rintro r w4 ⟨rfl,ai⟩;have X:=ze (M.o.trans (ai.mono M.o.size));have ad:=ze ((ai.block s (O3 ab.o)).trans ab.o);have aw:=Jh L;have ag:Hid (∀n,L=DD n->n<=9223372036854775807->Gh L=(n:Int)):=λn e h=>by rw[e];exact LA n h
  generalize Gh L=q at *;go_wp2_with fail;refine(zgl v w4 HV.o.1 HV.o.2).mono ?_;rintro r y ⟨rfl,aj⟩;have Y:Hid (zc w y):=X.o.trans (aj.mono X.o.size);have am:=ze ((aj.block s (O3 ad.o)).trans ad.o);obtain⟨f,c,d,g,i,j,k,m,hx⟩:=XC (O2 v) rfl;have HX:=ze hx;rw[hx,show hv [f,c,d,g,i,j,k,m]=#[.int .u8 f.toNat,.int .u8 c.toNat,.int .u8 d.toNat,.int .u8 g.toNat,.int .u8 i.toNat,.int .u8 j.toNat,.int .u8 k.toNat,.int .u8 m.toNat] from rfl];have A:Hid (zc w (y.alloc (.cells (tv q f c d g i j k m) 120))):=Y.o.trans ((zi y _).mono Y.o.size);have u:=ze (zr (o:=.cells (tv q f c d g i j k m) 120) am.o);have Q:=ze (zf y (.cells (tv q f c d g i j k m) 120));obtain⟨d0,d1,d2,d3,d4,d5,d6,d7,d8⟩:=Kd Q.o;rcases al.o with rfl|⟨te,pe,rfl⟩
  ·by_cases ak:q<0
   ·have P:Hid (∀n a,¬vq t b n a):=λn a h=>by
     have:=ag.o n (I.o n a h).1 h.1;omega
    go_wp2_with (first|(show wpList _ _ _ ({dst:=none,op:=Op.store _ _ _,type:=_,pos:=_,after:=_,guard:=_}::_) _ _;refine yw rfl 120 _ _ rfl y.heap.size (tv q f c d g i j k m) rfl rfl 120 _ (zf _ _) Ef rfl (RL _ _ _ _ _ _ _ _ _) ?_;rw[jr];generalize y.alloc (.cells (tv q f c d g i j k m) 120)=W6 at *;generalize y.heap.size=g9 at *)|(show wpList _ _ _ ({dst:=none,op:=Op.store _ _ _,type:=_,pos:=_,after:=_,guard:=_}::_) _ _;refine yw rfl 120 _ _ rfl s z9 rfl rfl 120 _ u.o Ef rfl UX ?_));refine zv (v:=.tuple #[.agg z9,.bool false]) (DU results84 _ _ s 120 _ (0,0) _ rfl (Av _ _ _ _ _ _ u.o) underlying120 rfl Ef _ rfl) rfl ⟨Ag A.o (vx C.o) _,.inr ⟨P.o,rfl⟩⟩
   ·have n0:=ak;go_wp2_with (show wpList _ _ _ ({dst:=none,op:=Op.store _ _ _,type:=_,pos:=_,after:=_,guard:=_}::_) _ _;refine yw rfl 120 _ _ rfl y.heap.size (tv q f c d g i j k m) rfl rfl 120 _ (zf _ _) Ef rfl (RL _ _ _ _ _ _ _ _ _) ?_;rw[jr];generalize y.alloc (.cells (tv q f c d g i j k m) 120)=W6 at *;generalize y.heap.size=g9 at *);refine(NK q (by omega) (by omega) f c d g i j k m b hk W6 (HE.o.below A.o)).mono ?_;rintro r w7 ⟨rfl,T⟩;have Z:=ze (A.o.trans (T.mono A.o.size));have G:=ze ((T.block s (O3 u.o)).trans u.o);obtain⟨f0,f1,f2,f3,f4,f5,f6,f7,f8⟩:=Kd ((T.block g9 (O3 Q.o)).trans Q.o);generalize hS:AR q.toNat [f,c,d,g,i,j,k,m] b=S at *;have ah:=ze hS
    by_cases J:S=t
    ·have av:(S==t)=true:=by rw[CY];exact J
     have HQ:=ze J;have an:Hid (vq t b q.toNat [f,c,d,g,i,j,k,m]):=⟨by omega,rfl,by rw[<- HQ.o,<- ah.o]⟩;have ao:Hid (((q.toNat:Nat):Int)=q):=by show _=_;omega
     go_wp2_with (show wpList _ _ _ ({dst:=none,op:=Op.store _ _ _,type:=_,pos:=_,after:=_,guard:=_}::_) _ _;refine yw rfl 120 _ _ rfl s (tv q f c d g i j k m) rfl rfl 120 _ G.o Ef rfl (RL _ _ _ _ _ _ _ _ _) ?_);refine zv (v:=.tuple #[.agg (tv q f c d g i j k m),.bool true]) (DU results84 _ _ s 120 _ (0,0) _ rfl (Av _ _ _ _ _ _ G.o) underlying120 rfl (zl4 _ _ _ _ _ _ _ _ _) _ rfl) rfl ⟨Ag Z.o (vx C.o) _,.inl ⟨q.toNat,f,c,d,g,i,j,k,m,an.o,by rw[ao.o]⟩⟩
    ·have av:(S==t)=false:=by rw[yp];exact J
     have HQ:=ze J;have P:Hid (∀n a,¬vq t b n a):=λn a h=>by
      have e1:=ag.o n (I.o n a h).1 h.1;have e2:=(HF.o a h.2.1 (I.o n a h).2).2;refine HQ.o ?_;rw[<- ah.o,<- HX.o,e2,e1,zz];exact h.2.2.symm
     go_wp2_with (show wpList _ _ _ ({dst:=none,op:=Op.store _ _ _,type:=_,pos:=_,after:=_,guard:=_}::_) _ _;refine yw rfl 120 _ _ rfl s z9 rfl rfl 120 _ G.o Ef rfl UX ?_);refine zv (v:=.tuple #[.agg z9,.bool false]) (DU results84 _ _ s 120 _ (0,0) _ rfl (Av _ _ _ _ _ _ G.o) underlying120 rfl Ef _ rfl) rfl ⟨Ag Z.o (vx C.o) _,.inr ⟨P.o,rfl⟩⟩
  ·have P:Hid (∀n a,¬vq t b n a):=λn a h=>by
    have:=(HF.o a h.2.1 (I.o n a h).2).1;simp at this
   go_wp2_with (first|(show wpList _ _ _ ({dst:=none,op:=Op.store _ _ _,type:=_,pos:=_,after:=_,guard:=_}::_) _ _;refine yw rfl 120 _ _ rfl y.heap.size (tv q f c d g i j k m) rfl rfl 120 _ (zf _ _) Ef rfl (RL _ _ _ _ _ _ _ _ _) ?_;rw[jr];generalize y.alloc (.cells (tv q f c d g i j k m) 120)=W6 at *;generalize y.heap.size=g9 at *)|(show wpList _ _ _ ({dst:=none,op:=Op.store _ _ _,type:=_,pos:=_,after:=_,guard:=_}::_) _ _;refine yw rfl 120 _ _ rfl s z9 rfl rfl 120 _ u.o Ef rfl UX ?_));refine zv (v:=.tuple #[.agg z9,.bool false]) (DU results84 _ _ s 120 _ (0,0) _ rfl (Av _ _ _ _ _ _ u.o) underlying120 rfl Ef _ rfl) rfl ⟨Ag A.o (vx C.o) _,.inr ⟨P.o,rfl⟩⟩
def zdy (w:World)(g:Nat)(n:Int)(a b c d e f i k:UInt8)(t:TypeId)(l:Nat×Nat)(h:w.heap[g]?=some (.cells (tv n a b c d e f i k) t l)):
  (convert 94 9 (.slice (some ⟨g,1,none⟩) 8 8)).run prog w=.ok (.string ⟨#[a,b,c,d,e,f,i,k]⟩) w:=by
 refine BB w _ _ 5 ⟨g,1,none⟩ 8 [a,b,c,d,e,f,i,k] underlying94 jc xt (λj m=>?_);rw[vp,xe _ _ _ _ _ _ h];have o:j<8:=by simpa using m
 rcases(by omega:j=0\/j=1\/j=2\/j=3\/j=4\/j=5\/j=6\/j=7)with rfl|rfl|rfl|rfl|rfl|rfl|rfl|rfl<;>rfl
def LG (t b:zb)(H:t.length<=1048576)(G:b.length<=9223372036854775807)(w:World)(E:DW w):
  Calls prog 40 #[.string ⟨t.toArray⟩,.string ⟨b.toArray⟩] w λr I=>zc w I /\
   ((∃n a,vq t b n a/\r=.returned (.tuple #[.int .i64 n,.string ⟨a.toArray⟩,.bool true]))\/((∀n a,¬vq t b n a)/\r=.returned (.tuple #[.int .i64 0,.string ⟨#[0,0,0,0,0,0,0,0]⟩,.bool false]))):=by
 have B:=ze E;clear E;go_enter func40,ntmps40;go_wp2_with fail;refine(Oa t b H G w B.o).mono ?_;rintro r p ⟨s,A⟩;have q:=ze s;clear s
 obtain⟨n,c,d,e,f,h,i,j,k,ok,rfl,l⟩:∃(n:Int) (c d e f h i j k:UInt8) (ok:Bool),r=.returned (.tuple #[.agg (tv n c d e f h i j k),.bool ok]) /\
   ((∃m:Nat,n=(m:Int)/\vq t b m [c,d,e,f,h,i,j,k]/\ok=true)\/((∀n a,¬vq t b n a)/\n=0/\[c,d,e,f,h,i,j,k]=[0,0,0,0,0,0,0,0]/\ok=false)):=by
  rcases A with ⟨m,c,d,e,f,h,i,j,k,x,rfl⟩|⟨v,rfl⟩
  ·exact⟨_,_,_,_,_,_,_,_,_,_,rfl,.inl ⟨m,rfl,x,rfl⟩⟩
  ·exact⟨0,0,0,0,0,0,0,0,0,false,rfl,.inr ⟨v,rfl,rfl,rfl⟩⟩
 have C:=ze l;clear l A;have y:=ze (zf p (.cells (tv n c d e f h i j k) 120));have u:Hid (zc w (p.alloc (.cells (tv n c d e f h i j k) 120))):=q.o.trans ((zi p _).mono q.o.size);go_wp2_with (show wpList _ _ _ ({dst:=none,op:=Op.store _ _ _,type:=_,pos:=_,after:=_,guard:=_}::_) _ _;refine yw rfl 120 _ _ rfl p.heap.size (tv n c d e f h i j k) rfl rfl 120 _ (zf _ _) Ef rfl (RL _ _ _ _ _ _ _ _ _) ?_;rw[jr];generalize p.alloc (.cells (tv n c d e f h i j k) 120)=D at *;generalize p.heap.size=g at *);obtain⟨J,K,L,M,N,O,P,Q,c8⟩:=Kd y.o;have F:=zdy D.drew g n c d e f h i j k _ _ y.o
 go_region
 all_goals go_wp2_with fail
 all_goals go_ret3
 all_goals
  refine⟨u.o.drew,?_⟩;rcases C.o with ⟨m,rfl,x,rfl⟩|⟨v,rfl,z,rfl⟩
  ·exact .inl ⟨m,_,x,rfl⟩
  ·refine .inr ⟨v,?_⟩;simp only[EK,EL]at z;obtain⟨rfl,rfl,rfl,rfl,rfl,rfl,rfl,rfl⟩:=z
   rfl
def LC (l:zb):Nat->zb
 |0=>[]
 |k+1=>LC l k++[UInt8.ofNat (16*nv (l.getD (2*k) 0)+nv (l.getD (2*k+1) 0))]
def zgk (a b:zb):AY (a++b)=AY a++AY b:=by simp[AY]
def zcq (a r:zb):∀k,k<=a.length->LC (AY a++r) k=a.take k:=by
 intro k
 induction k with
 |zero=>intro _;rfl
 |succ k h =>
  intro j;rw[LC,h (by omega),yz (by omega)];have d:(AY (a.take k)).length=2*k:=by rw[BZ,AM];omega
  have e:AY a++r=AY (a.take k)++(G4 (a[k].toNat/16)::G4 (a[k].toNat%16)::(AY (a.drop (k+1))++r)):=by
   have b:a=a.take k++a[k]::a.drop (k+1):=by rw[<- FL (by omega),List.take_append_drop]
   have c:=congrArg AY b;rw[zgk,Ma]at c;rw[c,qk,qk]
   rfl
  have f:(AY a++r).getD (2*k) 0=G4 (a[k].toNat/16):=by
   rw[e,zj,qq (by omega),d];simp
  have g:(AY a++r).getD (2*k+1) 0=G4 (a[k].toNat%16):=by
   rw[e,zj,qq (by omega),d];simp
  have i:=(a[k]).toNat_lt;rw[f,g,PN _ (by omega),PN _ (by omega)];congr 2;rw[show 16*(a[k].toNat/16)+a[k].toNat%16=a[k].toNat by omega];simp
end Go.Proofs.YtfdbeldiomkdiaaGreatDoor
