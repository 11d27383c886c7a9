import Derived.Test.YtfdbeldiomkdiaaGreatDoorG07
import Derived.Lib.ItoaLen
set_option maxHeartbeats 8000000
set_option maxRecDepth 100000
set_option linter.all false
namespace Go.Proofs.YtfdbeldiomkdiaaGreatDoor
open Go.RowKit Go.Proofs.Tryz
def qk:=@List.append_assoc
def vi:=@List.length_drop
def vz:=@Bool.false_eq_true
def Ah:=@ByteArray.ext
def A4:=@List.cons_append
def AT:=@List.append_nil
def Cn:=@List.nil_append
def CE:=@List.drop_left
def CW:=@IntKind.wrap_u8
def Du:=@List.isPrefixOf_iff_prefix
def FL:=@List.drop_eq_getElem_cons
def FM:=@List.extract_eq_take_drop
def Ii:=@ByteArray.data_extract
def MZ:=@Option.bind_some
def Qf:=@List.take_left
def DD (n:Nat):zb:=Lib.decDigits n
def Fp (c:UInt8):Prop:=48<=c.toNat/\c.toNat<=57
def LX {n:Nat}(h:n<10):DD n=[UInt8.ofNat (48+n)]:=by unfold DD;rw[Lib.decDigits,dif_pos h]
def JA {n:Nat}(h:¬n<10):DD n=DD (n/10)++[UInt8.ofNat (48+n%10)]:=by unfold DD;rw[Lib.decDigits,dif_neg h]
def IZ (d:Nat)(h:d<10):(UInt8.ofNat (48+d)).toNat=48+d:=by rw[GH];omega
def MF (n:Nat):∀c∈DD n,Fp c:=by
 induction n using Nat.strongRecOn with
 |_ n d =>
  intro c a
  by_cases h:n<10
  ·rw[LX h]at a;obtain rfl:c=UInt8.ofNat (48+n):=by simpa using a
   unfold Fp;rw[IZ n h];omega
  ·rw[JA h]at a;rcases yj.1 a with b|b
   ·exact d (n/10) (by omega) c b
   ·obtain rfl:c=UInt8.ofNat (48+n%10):=by simpa using b
    unfold Fp;rw[IZ _ (by omega)];omega
def Yh (n:Nat):DD n≠[]:=by
 by_cases h:n<10
 ·rw[LX h];simp
 ·rw[JA h];simp
def zcu (n:Nat)(h:n<=9223372036854775807)(r:zb):Lib.parseUint10 0 (DD n++r)=Lib.parseUint10 n r:=by
 induction n using Nat.strongRecOn generalizing r with
 |_ n b =>
  by_cases a:n<10
  ·rw[LX a,A4,Cn,Lib.parseUint10,IZ n a,if_pos (by omega),if_neg (by omega),if_neg (by omega)];congr 1;omega
  ·rw[JA a,qk,b (n/10) (by omega) (by omega),A4,Cn,Lib.parseUint10,IZ _ (by omega),if_pos (by omega),if_neg (by omega),if_neg (by omega)];congr 1;omega
def zff (n:Nat)(h:n<=9223372036854775807):Lib.atoiAll (DD n)=.ok (n:Int):=by
 have d:=zcu n h [];rw[AT,Lib.parseUint10]at d;have e:=MF n;have b:=Yh n;cases a:DD n with
 |nil=>exact absurd a b
 |cons c r =>
  rw[a]at d e;obtain⟨g,i⟩:=e c (by simp);have f:Lib.parseMag (c::r)=.ok n:=by rw[Lib.parseMag,if_neg (by simp),d]
  simp only[Lib.atoiAll];rw[if_neg (by omega),f];simp only[];rw[if_neg (by omega),if_neg (by omega),if_neg (by omega)]
def Gh (l:zb):Int:=match Lib.atoiAll l with
 |.ok v=>v
 |_=>-1
def LA (n:Nat)(h:n<=9223372036854775807):Gh (DD n)=(n:Int):=by unfold Gh;rw[zff n h]
def Jh (l:zb):-9223372036854775808<=Gh l/\Gh l<=9223372036854775807:=by
 unfold Gh;cases h:Lib.atoiAll l
 ·exact Lib.atoiAll_bounds h
 ·simp
 ·simp
def Ix (n:Nat):zb->Option (Nat×zb)
 |[]=>some (n,[])
 |c::r=>if 48<=c.toNat/\c.toNat<=57 then (if (9223372036854775807-(c.toNat-48))/10<n then none else Ix (10*n+(c.toNat-48)) r) else some (n,c::r)
def zhn (n:Nat)(h:n<=9223372036854775807)(r:zb):Ix 0 (DD n++r)=Ix n r:=by
 induction n using Nat.strongRecOn generalizing r with
 |_ n b =>
  by_cases a:n<10
  ·rw[LX a,A4,Cn,Ix,IZ n a,if_pos (by omega),if_neg (by omega)];congr 1;omega
  ·rw[JA a,qk,b (n/10) (by omega) (by omega),A4,Cn,Ix,IZ _ (by omega),if_pos (by omega),if_neg (by omega)];congr 1;omega
def Cs (s:zb):Nat×zb×Bool:=match Ix 0 s with
 |none=>(0,s,false)
 |some (n,r)=>(n,r,decide (r.length<s.length))
def Tb:zb->Prop
 |[]=>True
 |c::_=>¬Fp c
def Tc (n:Nat)(r:zb)(h:Tb r):Ix n r=some (n,r):=by
 cases r with
 |nil=>rfl
 |cons c r =>
  have a:¬(48<=c.toNat/\c.toNat<=57):=h;rw[Ix,if_neg a]
def JJ (n:Nat)(h:n<=9223372036854775807)(r:zb)(a:Tb r):Cs (DD n++r)=(n,r,true):=by
 unfold Cs;rw[zhn n h,Tc n r a];have:=List.length_pos_iff.2 (Yh n);simp only[zw];rw[show decide (r.length<(DD n).length+r.length)=true by simp;omega]
def QR:∀(l:zb) (n m:Nat)(r:zb) ,n<=9223372036854775807->Ix n l=some (m,r)->m<=9223372036854775807/\r.length<=l.length
 |[],n,m,r,d,h=>by
  simp only[Ix,zn,xj]at h;obtain⟨rfl,rfl⟩:=h;exact⟨d,zk _⟩
 |c::l,n,m,r,d,h=>by
  rw[Ix]at h;split at h
  ·split at h
   ·simp at h
   ·obtain⟨a,b⟩:=QR l _ m r (by omega) h;exact⟨a,by simp;omega⟩
  ·simp only[zn,xj]at h;obtain⟨rfl,rfl⟩:=h;exact⟨d,zk _⟩
def Iy (l:zb):(Cs l).1<=9223372036854775807/\(Cs l).2.1.length<=l.length:=by
 unfold Cs;cases h:Ix 0 l with
 |none=>exact⟨yk _,zk _⟩
 |some x =>
  obtain⟨m,r⟩:=x;exact QR l 0 m r (by omega) h
def zfu (a t b:zb)(c:UInt8)(h:∀x∈a,x≠c):Lib.cut (a++(c::t)++b) (c::t)=(a,b,true):=by
 have g:Lib.index (a++(c::t)++b) (c::t)=a.length:=by
  refine Lib.index_first (by simp) ?_ (λj d=>?_)
  ·unfold Lib.occAt;rw[qk,CE];simp[Du]
  ·cases i:Lib.occAt (a++(c::t)++b) (c::t) j with
   |false=>rfl
   |true =>
    have:=Lib.occAt_head rfl i;rw[qk,qh d,zo d]at this;exact absurd (qj this) (h _ (ye d))
 unfold Lib.cut;rw[g,if_pos (by omega),zz];have e:(a++(c::t)++b).take a.length=a:=by rw[qk,Qf]
 have f:(a++(c::t)++b).drop (a.length+(c::t).length)=b:=by
  rw[<- zw,CE]
 rw[e,f]
def zfx (a t:zb)(c:UInt8)(h:∀x∈a,x≠c):Lib.cut a (c::t)=(a,[],false):=by
 have d:Lib.index a (c::t)=-1:=by
  refine Lib.index_none (λj g=>?_);cases f:Lib.occAt a (c::t) j with
  |false=>rfl
  |true =>
   have:=Lib.occAt_head rfl f;obtain⟨b,e⟩:=qm.1 this;exact absurd e (h _ (ye b))
 unfold Lib.cut;rw[d,if_neg (by omega)]
def Um (s a:zb):(Lib.cut s a).1.length<=s.length/\(Lib.cut s a).2.1.length<=s.length:=by
 unfold Lib.cut;split
 ·simp;omega
 ·simp
def CP (s p:zb):zb×Bool:=if p.isPrefixOf s then (s.drop p.length,true) else (s,false)
def PQ (p r:zb):p.isPrefixOf (p++r)=true:=by rw[Du];exact List.prefix_append p r
def Ld (p r:zb):CP (p++r) p=(r,true):=by unfold CP;rw[if_pos (PQ p r),CE]
def Le (s p:zb):(CP s p).1.length<=s.length:=by unfold CP;split<;>simp
def EO:zb:=[101,110,116,114,105,101,115,47]
def BJ:zb:=[116,105,108,101,47]
def BQ:zb:=[46,112,47]
def AG (l i w:Int):Prop:=l < -1\/20<l\/i<0\/w<1\/4<w
def JG (l:Int):zb:=if l=-1 then EO else BJ++DD l.toNat++[47]
def Dq (w:Int):zb:=if w<4 then BQ++DD w.toNat else []
def qz (l i w:Int):zb:=if l < -1\/20<l\/i<0\/w<1\/4<w then [] else JG l++DD i.toNat++Dq w
def Hz {l i w:Int}(h:AG l i w):qz l i w=[]:=by unfold AG at h;unfold qz;rw[if_pos h]
def DF {l i w:Int}(h:¬AG l i w):qz l i w=JG l++DD i.toNat++Dq w:=by unfold AG at h;unfold qz;rw[if_neg h]
def QJ {l i w:Int}(h:¬AG l i w):qz l i w≠[]:=by
 rw[DF h];intro e;have:=List.append_eq_nil_iff.1 (List.append_eq_nil_iff.1 e).1;exact Yh _ this.2
def j3 (p:zb):Int×zb×Bool:=
 if Lib.hasPrefix p EO then (-1,Lib.trimPrefix p EO,true)
 else (Gh (Lib.cut (Lib.trimPrefix p BJ) [47]).1,(Lib.cut (Lib.trimPrefix p BJ) [47]).2.1,Lib.hasPrefix p BJ)
def LS (c:zb×zb×Bool):Int:=if c.2.2 then Gh c.2.1 else 4
def Ea (p:zb):Int×Int×Int×Bool:=
 if (j3 p).2.2=true/\qz (j3 p).1 (Gh (Lib.cut (j3 p).2.1 BQ).1) (LS (Lib.cut (j3 p).2.1 BQ))=p
 then ((j3 p).1,Gh (Lib.cut (j3 p).2.1 BQ).1,LS (Lib.cut (j3 p).2.1 BQ),true) else (0,0,0,false)
def DZ (p:zb):Int×zb×Bool:=
 if (CP p EO).2 then (-1,(CP p EO).1,true)
 else if (CP p BJ).2 then
  (if (Cs (CP p BJ).1).2.2 then
   ((Cs (CP p BJ).1).1,(CP (Cs (CP p BJ).1).2.1 [47]).1,(CP (Cs (CP p BJ).1).2.1 [47]).2)
  else (0,[],false))
 else (0,[],false)
def KJ (s:zb):Int×Int×zb×Bool:=
 if (Cs s).2.2&&(CP (Cs s).2.1 BQ).2 then
  ((Cs s).1,(Cs (CP (Cs s).2.1 BQ).1).1,(Cs (CP (Cs s).2.1 BQ).1).2.1,(Cs (CP (Cs s).2.1 BQ).1).2.2)
 else ((Cs s).1,4,(Cs s).2.1,(Cs s).2.2)
def GL (p:zb):Int×Int×Int×Bool:=
 if (DZ p).2.2=true/\(KJ (DZ p).2.1).2.2.2=true/\(KJ (DZ p).2.1).2.2.1=[]/\qz (DZ p).1 (KJ (DZ p).2.1).1 (KJ (DZ p).2.1).2.1=p/\p≠[]
 then ((DZ p).1,(KJ (DZ p).2.1).1,(KJ (DZ p).2.1).2.1,true) else (0,0,0,false)
def zm1 (c x:UInt8)(h:Fp x)(a:¬Fp c):x≠c:=λe=>a (e▸h)
def PL (n:Nat)(c:UInt8)(a:¬Fp c):∀x∈DD n,x≠c:=λx b=>zm1 c x (MF n x b) a
def Hw:JG (-1) =EO:=by unfold JG;rw[if_pos rfl]
def It (l:Int)(h:l≠-1):JG l=BJ++DD l.toNat++[47]:=by unfold JG;rw[if_neg h]
def P3 (w:Int):Tb (Dq w):=by
 unfold Dq;split
 ·show ¬Fp 46;unfold Fp;decide
 ·trivial
def Sd (l:Int)(e:-1<=l)(b:l<=20)(r:zb):j3 (JG l++r)=(l,r,true):=by
 by_cases h:l=-1
 ·subst h;rw[Hw];unfold j3 Lib.trimPrefix Lib.hasPrefix;rw[if_pos (PQ EO r),if_pos (PQ EO r),CE]
 ·rw[It l h,qk,qk];have c:Lib.hasPrefix (BJ++(DD l.toNat++([47]++r))) EO=false:=rfl;have a:Lib.hasPrefix (BJ++(DD l.toNat++([47]++r))) BJ=true:=PQ _ _;have d:Lib.trimPrefix (BJ++(DD l.toNat++([47]++r))) BJ=DD l.toNat++[47]++r:=by
   unfold Lib.trimPrefix;rw[if_pos a,CE,qk]
  unfold j3;rw[c,a,d,zfu (DD l.toNat) [] r 47 (PL _ _ (by unfold Fp;decide)),LA _ (by omega)];simp only[vz,CM];rw[show((l.toNat:Nat):Int)=l by omega]
def zfw (i:Nat)(w:Int)(a:i<=9223372036854775807)(c:1<=w)(b:w<=4):Gh (Lib.cut (DD i++Dq w) BQ).1=i/\LS (Lib.cut (DD i++Dq w) BQ)=w:=by
 unfold Dq
 by_cases h:w<4
 ·rw[if_pos h,<- qk,show BQ=46::[112,47] from rfl,zfu (DD i) [112,47] (DD w.toNat) 46 (PL _ _ (by unfold Fp;decide))];refine⟨LA i a,?_⟩;show(if true=true then Gh (DD w.toNat) else 4)=w;rw[if_pos rfl,LA _ (by omega)];omega
 ·rw[if_neg h,AT,show BQ=46::[112,47] from rfl,zfx (DD i) [112,47] 46 (PL _ _ (by unfold Fp;decide))];refine⟨LA i a,?_⟩;show(if false=true then Gh [] else 4)=w;rw[if_neg (by simp)];omega
def Jj {l i w:Int}(h:¬AG l i w)(f:i<=9223372036854775807):Ea (qz l i w)=(l,i,w,true):=by
 have d:=h;unfold AG at d;have e:qz l i w=JG l++(DD i.toNat++Dq w):=by rw[DF h,qk]
 have c:=Sd l (by omega) (by omega) (DD i.toNat++Dq w);obtain⟨a,b⟩:=zfw i.toNat w (by omega) (by omega) (by omega);unfold Ea;rw[e,c];simp only[];rw[a,b,show((i.toNat:Nat):Int)=i by omega,<- e,if_pos (by simp)]
def U5 {p:zb}{l i w:Int}(h:Ea p=(l,i,w,true)):¬AG l i w/\i<=9223372036854775807/\qz l i w=p:=by
 unfold Ea at h;split at h
 ·rename_i c;obtain⟨d,a⟩:=c;simp only[xj]at h;obtain⟨rfl,rfl,rfl,_⟩:=h;refine⟨λb=>?_,(Jh _).2,a⟩;rw[Hz b]at a;subst a;exact absurd d (by unfold j3;simp[Lib.hasPrefix,EO,BJ])
 ·simp at h
def N8 {p:zb}(h:∀l i w,¬AG l i w->i<=9223372036854775807->qz l i w≠p):Ea p=(0,0,0,false):=by
 unfold Ea;rw[if_neg];rintro⟨e,d⟩;have:Ea p=((j3 p).1,Gh (Lib.cut (j3 p).2.1 BQ).1,LS (Lib.cut (j3 p).2.1 BQ),true):=by
  unfold Ea;rw[if_pos ⟨e,d⟩]
 obtain⟨a,b,c⟩:=U5 this;exact h _ _ _ a b c
def Yz (l:Int)(c:-1<=l)(a:l<=20)(r:zb):DZ (JG l++r)=(l,r,true):=by
 by_cases h:l=-1
 ·subst h;rw[Hw];unfold DZ;rw[Ld]
  rfl
 ·rw[It l h,qk,qk];have b:CP (BJ++(DD l.toNat++([47]++r))) EO=(BJ++(DD l.toNat++([47]++r)),false):=rfl;unfold DZ;rw[b,Ld];simp only[vz,CM,if_true];rw[JJ l.toNat (by omega) ([47]++r) (by show ¬Fp 47;unfold Fp;decide)];simp only[if_true];rw[Ld];simp only[];rw[show((l.toNat:Nat):Int)=l by omega]
def zdo (i:Nat)(w:Int)(b:i<=9223372036854775807)(d:1<=w)(c:w<=4):KJ (DD i++Dq w)=((i:Int),w,[],true):=by
 have e:=JJ i b (Dq w) (P3 w);unfold KJ;rw[e]
 by_cases h:w<4
 ·have a:Dq w=BQ++(DD w.toNat++[]):=by unfold Dq;rw[if_pos h,AT]
  rw[a,Ld];simp only[Bool.and_self,if_true];rw[JJ w.toNat (by omega) [] trivial];simp only[];rw[show((w.toNat:Nat):Int)=w by omega]
 ·have a:Dq w=[]:=by unfold Dq;rw[if_neg h]
  rw[a];have:CP [] BQ=([],false):=rfl;rw[this];simp only[Bool.and_false,vz,CM];rw[show w=4 by omega]
def W8 {l i w:Int}(h:¬AG l i w)(f:i<=9223372036854775807):GL (qz l i w)=(l,i,w,true):=by
 have b:=h;unfold AG at b;have e:qz l i w=JG l++(DD i.toNat++Dq w):=by rw[DF h,qk]
 have c:=Yz l (by omega) (by omega) (DD i.toNat++Dq w);have d:=zdo i.toNat w (by omega) (by omega) (by omega);have a:=QJ h;unfold GL;rw[e]at a ⊢;rw[c];simp only[];rw[d];simp only[];rw[show((i.toNat:Nat):Int)=i by omega,<- e,if_pos (by rw[<- e]at a;simpa using a)]
def Xa (s:zb):(KJ s).1<=9223372036854775807:=by
 unfold KJ;have:=(Iy s).1;split<;>simp only[]<;>omega
def U6 {p:zb}(h:∀l i w,¬AG l i w->i<=9223372036854775807->qz l i w≠p):GL p=(0,0,0,false):=by
 unfold GL;rw[if_neg];rintro⟨f,d,e,a,b⟩;refine h _ _ _ (λc=>?_) (Xa _) a;rw[Hz c]at a;exact b a.symm
def YF (p:zb):Ea p=GL p:=by
 by_cases h:∃l i w,¬AG l i w/\i<=9223372036854775807/\qz l i w=p
 ·obtain⟨l,i,w,a,b,rfl⟩:=h;rw[Jj a b,W8 a b]
 ·have c:∀l i w,¬AG l i w->i<=9223372036854775807->qz l i w≠p:=λl i w a b e=>h ⟨l,i,w,a,b,e⟩;rw[N8 c,U6 c]
def YE:Ea []=(0,0,0,false):=N8 (λ_ _ _ a _=>QJ a)
variable {g:Nat}{w w':World}
def Ut:prog.globalNamed "internal/strconv.uint64pow10"=some 11:=by kernel_rfl
structure DW (w:World):Prop where
 cr:Lib.TabIs prog w "internal/strconv.uint64pow10" .u64 Lib.pow10Tab
 cq:∃tp p,w.cell? ⟨9,0,none⟩=some (.iface tp p)
 cm:∃tp p,w.cell? ⟨10,0,none⟩=some (.iface tp p)
 max:∃m,w.cell? ⟨8,0,none⟩=some (.int .i64 m)
def znt {n:String}{b:Array Value}(c:prog.globalNamed n=some g)(h:w.var? prog n=some b):g<w.heap.size:=by
 unfold World.var? at h;rw[c]at h;simp only[MZ]at h;rcases qf g w.heap.size with a|a
 ·exact a
 ·simp[A7 a]at h
def DW.below (h:DW w)(a:zc w w'):DW w':=by
 obtain⟨g,p,e⟩:=h.cq;obtain⟨b,f,d⟩:=h.cm;obtain⟨m,c⟩:=h.max;exact⟨var?_below a Ut (znt Ut h.cr) h.cr,⟨g,p,by rw[a.cell (yf e)];exact e⟩,⟨b,f,by rw[a.cell (yf d)];exact d⟩,⟨m,by rw[a.cell (yf c)];exact c⟩⟩
def XN (w:World)(k:Nat)(a:Array Obj):zc w (Sort.grow (w.drewN k) a):=
 ⟨rfl,rfl,rfl,by simp[Sort.grow,World.drewN],λj b=>by
  show(w.heap++a)[j]?=w.heap[j]?;rw[Dt b]⟩
def Vk (w:World)(e:TypeId)(s:ByteArray):zc w (Lib.bytesWorld w e s):=
 ⟨rfl,rfl,rfl,by rw[Lib.bytesWorld_size];omega,λj a=>Lib.bytesWorld_at_old w e s j a⟩
def E7 (n:Int)(h0:0<=n)(b:n<=9223372036854775807)(w:World)(E:DW w):
  Calls prog 118 #[.int .i64 n] w λr a=>r=.returned (.string ⟨(DD n.toNat).toArray⟩)/\zc w a:=by
 refine(show Calls prog 118 #[.int .i64 n] w _ from Any.strconv_Itoa Tryz.laysM171 n (by omega) b w E.cr).mono ?_;rintro r a ⟨rfl,k,c,rfl⟩;refine⟨?_,XN w k c⟩;rw[Lib.itoa,if_neg (by omega)]
 rfl
def zay (l:zb)(i:l.length<=1000000000)(w:World)(E:DW w):
  Calls prog 168 #[.string ⟨l.toArray⟩] w λr b=>∃v e,r=.returned (.tuple #[.int .i64 v,e])/\((e=.nilIface/\v=Gh l)\/((∃t p,e=.iface t p)/\Gh l=-1))/\zc w b:=by
 have f:(⟨l.toArray⟩:ByteArray).size=l.length:=rfl;cases h:Lib.atoiAll l
 ·rename_i v;refine(show Calls prog 168 #[.string ⟨l.toArray⟩] w _ from Any.strconv_Atoi_ok Tryz.laysC172 ⟨l.toArray⟩ (by omega) v h w).mono ?_;rintro r b ⟨rfl,g⟩;refine⟨v,.nilIface,rfl,.inl ⟨rfl,by unfold Gh;rw[h]⟩,?_⟩;rcases g with rfl|⟨t,rfl⟩
  ·exact zu _ _
  ·exact Vk w _ t
 ·obtain⟨a,p,d⟩:=E.cq;refine(show Calls prog 168 #[.string ⟨l.toArray⟩] w _ from Any.strconv_Atoi_syntax Tryz.laysC172 ⟨l.toArray⟩ (by omega) h (.iface a p) w d (.inr ⟨a,p,rfl⟩)).mono ?_;rintro r b ⟨N,rfl,-,-,c⟩;exact⟨_,_,rfl,.inr ⟨⟨_,_,rfl⟩,by unfold Gh;rw[h]⟩,c⟩
 ·obtain⟨a,p,d⟩:=E.cm;refine(show Calls prog 168 #[.string ⟨l.toArray⟩] w _ from Any.strconv_Atoi_range Tryz.laysC172 ⟨l.toArray⟩ (by omega) h (.iface a p) w d (.inr ⟨a,p,rfl⟩)).mono ?_;rintro r b ⟨N,rfl,-,-,c⟩;exact⟨_,_,rfl,.inr ⟨⟨_,_,rfl⟩,by unfold Gh;rw[h]⟩,c⟩
def Lm (l p:zb)(w:World):
  Calls prog 166 #[.string ⟨l.toArray⟩,.string ⟨p.toArray⟩] w λr a=>r=.returned (.tuple #[.string ⟨(Lib.trimPrefix l p).toArray⟩,.bool (Lib.hasPrefix l p)])/\a=w:=
 (show Calls prog 166 #[.string ⟨l.toArray⟩,.string ⟨p.toArray⟩] w _ from Any.strings_CutPrefix Tryz.lays103 ⟨l.toArray⟩ ⟨p.toArray⟩ w)
def VB (l p:zb)(d:l.length<=1000000000)(w:World)(E:DW w):
  Calls prog 120 #[.string ⟨l.toArray⟩,.string ⟨p.toArray⟩] w λr a=>r=.returned (.tuple #[.string ⟨(Lib.cut l p).1.toArray⟩,.string ⟨(Lib.cut l p).2.1.toArray⟩,.bool (Lib.cut l p).2.2])/\zc w a:=by
 obtain⟨m,b⟩:=E.max;have c:(⟨l.toArray⟩:ByteArray).size=l.length:=rfl;refine(show Calls prog 120 #[.string ⟨l.toArray⟩,.string ⟨p.toArray⟩] w _ from Any.strings_Cut Tryz.lays145 ⟨l.toArray⟩ ⟨p.toArray⟩ m w (by omega) b).mono ?_;rintro r a ⟨rfl,n,rfl⟩;exact⟨rfl,⟨rfl,rfl,rfl,zk _,λ_ _=>rfl⟩⟩
def Ji (l:zb)(h:l.length<=1000000000)(w:World)(E:DW w):
  Calls prog 121 #[.string ⟨l.toArray⟩] w λr b=>r=.returned (.int .i64 (Gh l))/\zc w b:=by
 have c:=ze E;go_enter func121,ntmps121;go_wp2_with fail;refine(zay l h w c.o).mono ?_;rintro r b ⟨v,e,rfl,g,f⟩;have a:=ze f;rcases g with ⟨rfl,rfl⟩|⟨⟨t,p,rfl⟩,i⟩
 ·go_wp2
  go_ret;exact⟨rfl,a.o⟩
 ·have d:=ze i
  go_wp2
  go_ret;exact⟨by rw[d.o];rfl,a.o⟩
def AA (n:Int)(h0:0<=n)(a:n<=9223372036854775807):(DD n.toNat).length<=21:=by
 have:=Lib.itoa_length_le n (by omega) a;rw[Lib.itoa,if_neg (by omega)]at this;exact this
def Hi {a b:ByteArray}(h:a=b):Ending.returned (.string a)=.returned (.string b):=by rw[h]
def zbx (l:Int)(h:l<=20):(JG l).length<=40:=by
 unfold JG;split
 ·decide
 ·have:=AA (l.toNat:Int) (by omega) (by omega);rw[zz]at this;simp[BJ];omega
def zhf (l i w:Int)(a:AG l i w)(W:World):
  Calls prog 75 #[.int .i64 l,.int .i64 i,.int .i64 w] W λr b=>r=.returned (.string ⟨(qz l i w).toArray⟩)/\zc W b:=by
 rw[Hz a];unfold AG at a;go_enter func75,ntmps75;go_wp2_with fail
 all_goals first|(go_ret;exact⟨rfl,zu _ _⟩)|(exfalso;omega)
def Iv (l i w:Int)(p:i<=9223372036854775807)(W:World)(E:DW W):
  Calls prog 75 #[.int .i64 l,.int .i64 i,.int .i64 w] W λr I=>r=.returned (.string ⟨(qz l i w).toArray⟩)/\zc W I:=by
 by_cases x:AG l i w
 ·exact zhf l i w x W
 have t:=ze (DF x);have y:=x;unfold AG at y;have K:¬l < -1:=by omega
 have L:¬20<l:=by omega
 have M:¬i<0:=by omega
 have N:¬w<1:=by omega
 have O:¬4<w:=by omega
 have e:=ze E;have F:=AA i (by omega) p;have H:=AA w (by omega) (by omega)
 by_cases z:l=-1
 ·subst z;have m:=ze Hw
  by_cases q:w<4
  ·skip
   have h:Hid (Dq w=BQ++DD w.toNat):=by show _=_;unfold Dq;rw[if_pos q]
   go_enter func75,ntmps75;go_wp2_with fail;refine(E7 i (by omega) p W e.o).mono ?_;rintro r s ⟨rfl,c⟩;have a:=ze c;generalize DD i.toNat=d at *;have v:¬9223372036854775807<8+d.length:=by omega
   go_wp2_with fail;refine(E7 w (by omega) (by omega) s (e.o.below a.o)).mono ?_;rintro r J ⟨rfl,k⟩;have g:=ze (a.o.trans (k.mono a.o.size));generalize DD w.toNat=n at *;have C:¬9223372036854775807<3+n.length:=by omega
   have D:¬9223372036854775807<8+d.length+(3+n.length):=by omega
   go_wp2
   go_ret;refine⟨?_,g.o⟩;rw[t.o,m.o,h.o];exact Hi (by unfold EO BQ;apply Ah;simp)
  ·skip
   have h:Hid (Dq w=[]):=by show _=_;unfold Dq;rw[if_neg q]
   go_enter func75,ntmps75;go_wp2_with fail;refine(E7 i (by omega) p W e.o).mono ?_;rintro r s ⟨rfl,c⟩;have a:=ze c;generalize DD i.toNat=d at *;have v:¬9223372036854775807<8+d.length:=by omega
   go_wp2
   go_ret;refine⟨?_,a.o⟩;rw[t.o,m.o,h.o];exact Hi (by unfold EO;apply Ah;simp)
 ·have m:=ze (It l z);have G:=AA l (by omega) (by omega);have P:(l != -1)=true:=by rw[bne_iff_ne];exact z
  by_cases q:w<4
  ·skip
   have h:Hid (Dq w=BQ++DD w.toNat):=by show _=_;unfold Dq;rw[if_pos q]
   go_enter func75,ntmps75;go_wp2_with fail;refine(E7 l (by omega) (by omega) W e.o).mono ?_;rintro r A ⟨rfl,j⟩;have b:=ze j;generalize DD l.toNat=f at *;have B:¬9223372036854775807<5+f.length:=by omega
   have u:¬9223372036854775807<5+f.length+1:=by omega
   go_wp2_with fail;refine(E7 i (by omega) p A (e.o.below b.o)).mono ?_;rintro r s ⟨rfl,c⟩;have a:=ze (b.o.trans (c.mono b.o.size));generalize DD i.toNat=d at *;have v:¬9223372036854775807<5+f.length+1+d.length:=by omega
   go_wp2_with fail;refine(E7 w (by omega) (by omega) s (e.o.below a.o)).mono ?_;rintro r J ⟨rfl,k⟩;have g:=ze (a.o.trans (k.mono a.o.size));generalize DD w.toNat=n at *;have C:¬9223372036854775807<3+n.length:=by omega
   have D:¬9223372036854775807<5+f.length+1+d.length+(3+n.length):=by omega
   go_wp2
   go_ret;refine⟨?_,g.o⟩;rw[t.o,m.o,h.o];exact Hi (by unfold BJ BQ;apply Ah;simp)
  ·skip
   have h:Hid (Dq w=[]):=by show _=_;unfold Dq;rw[if_neg q]
   go_enter func75,ntmps75;go_wp2_with fail;refine(E7 l (by omega) (by omega) W e.o).mono ?_;rintro r A ⟨rfl,j⟩;have b:=ze j;generalize DD l.toNat=f at *;have B:¬9223372036854775807<5+f.length:=by omega
   have u:¬9223372036854775807<5+f.length+1:=by omega
   go_wp2_with fail;refine(E7 i (by omega) p A (e.o.below b.o)).mono ?_;rintro r s ⟨rfl,c⟩;have a:=ze (b.o.trans (c.mono b.o.size));generalize DD i.toNat=d at *;have v:¬9223372036854775807<5+f.length+1+d.length:=by omega
   go_wp2
   go_ret;refine⟨?_,a.o⟩;rw[t.o,m.o,h.o];exact Hi (by unfold BJ;apply Ah;simp)
variable {fn:Func}
def RJ (s p:zb):(Lib.trimPrefix s p).length<=s.length:=by unfold Lib.trimPrefix;split<;>simp
def Jo {p:zb}(h:Lib.hasPrefix p EO=true):j3 p=(-1,Lib.trimPrefix p EO,true):=by unfold j3;rw[if_pos h]
def Ke {p:zb}(h:Lib.hasPrefix p EO=false):j3 p=(Gh (Lib.cut (Lib.trimPrefix p BJ) [47]).1,(Lib.cut (Lib.trimPrefix p BJ) [47]).2.1,Lib.hasPrefix p BJ):=by unfold j3;rw[if_neg (by simp[h])]
def Sc (p:zb):(j3 p).2.1.length<=p.length:=by
 cases h:Lib.hasPrefix p EO with
 |true=>rw[Jo h];exact RJ _ _
 |false=>rw[Ke h];exact zt (Um _ _).2 (RJ _ _)
def Oh (p:zb):-9223372036854775808<=(j3 p).1/\(j3 p).1<=9223372036854775807:=by
 cases h:Lib.hasPrefix p EO with
 |true=>rw[Jo h];exact⟨by show(-9223372036854775808:Int)<=-1;decide,by show(-1:Int)<=9223372036854775807;decide⟩
 |false=>rw[Ke h];exact Jh _
def Ul (p:zb)(x:p.length<=1000000000)(w:World)(E:DW w):
  Calls prog 119 #[.string ⟨p.toArray⟩] w λr m=>r=.returned (.tuple #[.int .i64 (j3 p).1,.string ⟨(j3 p).2.1.toArray⟩,.bool (j3 p).2.2])/\zc w m:=by
 have i:=ze E;clear E;go_enter func119,ntmps119;go_wp2_with fail;refine(Lm p EO w).mono ?_;rintro r n ⟨rfl,rfl⟩;cases h:Lib.hasPrefix p EO with
 |true =>
  have f:=ze (Jo h);clear h;generalize Lib.trimPrefix p EO=q at *
  go_wp2
  go_ret3
  exact⟨by rw[f.o];rfl,zu _ _⟩
 |false =>
  have f:=ze (Ke h);have y:=RJ p BJ;clear h;generalize Lib.trimPrefix p EO=z at *;go_wp2_with fail;refine(Lm p BJ n).mono ?_;rintro r j ⟨rfl,rfl⟩;generalize Lib.trimPrefix p BJ=q at *;generalize Lib.hasPrefix p BJ=b at *;go_wp2_with fail;refine(VB q [47] (by omega) j i.o).mono ?_;rintro r s ⟨rfl,d⟩;have a:=ze d;have l:=(Um q [47]).1;clear d;generalize Lib.cut q [47]=c at *;obtain⟨k,u,v⟩:=c;simp only[]at f l ⊢;go_wp2_with fail;refine(Ji k (by omega) s (i.o.below a.o)).mono ?_;rintro r t ⟨rfl,e⟩;have g:Hid (zc j t):=a.o.trans (e.mono a.o.size);clear e
  go_wp2
  go_ret3
  exact⟨by rw[f.o];rfl,g.o⟩
def Ae {t u v x:Tmp}(h:fn.results=#[.tmp t,.tmp u,.tmp v,.tmp x])(a:Array Value)(P:Program)(w:World):
  (results fn a).run P w=.ok (.tuple #[a.getD t undef,a.getD u undef,a.getD v undef,a.getD x undef]) w:=by
 simp[results,h]
def LD (x:Int×Int×Int×Bool):Array Value:=#[.int .i64 x.1,.int .i64 x.2.1,.int .i64 x.2.2.1,.bool x.2.2.2]
def zct (p:zb)(N:p.length<=1000000000)(w:World)(E:DW w):
  Calls prog 77 #[.string ⟨p.toArray⟩] w λr P=>r=.returned (.tuple (LD (Ea p)))/\zc w P:=by
 have n:=ze E;clear E;have f:Hid (Ea p=if (j3 p).2.2=true/\qz (j3 p).1 (Gh (Lib.cut (j3 p).2.1 BQ).1) (LS (Lib.cut (j3 p).2.1 BQ))=p
  then ((j3 p).1,Gh (Lib.cut (j3 p).2.1 BQ).1,LS (Lib.cut (j3 p).2.1 BQ),true) else (0,0,0,false)):=rfl
 go_enter func77,ntmps77;go_wp2_with fail;refine(Ul p N w n.o).mono ?_;rintro r Q ⟨rfl,v⟩;have i:=ze v;have O:=Sc p;have C:=Oh p;clear v;generalize j3 p=K at *;obtain⟨B,q,ok⟩:=K;simp only[]at f O C ⊢;go_wp2_with fail;refine(VB q BQ (by omega) Q (n.o.below i.o)).mono ?_;rintro r G ⟨rfl,x⟩;have j:Hid (zc w G):=i.o.trans (x.mono i.o.size);have L:=Um q BQ;clear x;generalize Lib.cut q BQ=c at *;obtain⟨t,u,J⟩:=c;simp only[]at f L ⊢;go_wp2_with fail;refine(Ji t (by omega) G (n.o.below j.o)).mono ?_;rintro r D ⟨rfl,y⟩;have b:Hid (zc w D):=j.o.trans (y.mono j.o.size);have M:=Jh t;clear y;generalize Gh t=A at *;cases J with
 |true =>
  have s:Hid (LS (t,u,true)=Gh u):=rfl;rw[s.o]at f;go_wp2_with fail;refine(Ji u (by omega) D (n.o.below b.o)).mono ?_;rintro r H ⟨rfl,z⟩;have g:Hid (zc w H):=b.o.trans (z.mono b.o.size);clear z s;generalize Gh u=I at *;cases ok with
  |false =>
   go_wp2_with fail;refine zv (Ae results77 _ _ _) rfl ?_;exact⟨by rw[f.o,if_neg (by simp)];rfl,g.o⟩
  |true =>
   go_wp2_with fail;refine(Iv B A I (by omega) H (n.o.below g.o)).mono ?_;rintro r F ⟨rfl,e⟩;have d:Hid (zc w F):=g.o.trans (e.mono g.o.size);clear e;generalize qz B A I=m at *
   by_cases a:m=p
   ·have l:(m==p)=true:=by rw[CY];exact a
    have k:=ze a;clear a;go_wp2_with fail;refine zv (Ae results77 _ _ _) rfl ?_;exact⟨by rw[f.o,if_pos ⟨by simp,k.o⟩];rfl,d.o⟩
   ·have l:(m==p)=false:=by rw[yp];exact a
    have k:=ze a;clear a;go_wp2_with fail;refine zv (Ae results77 _ _ _) rfl ?_;exact⟨by rw[f.o,if_neg (λh=>k.o h.2)];rfl,d.o⟩
 |false =>
  have s:Hid (LS (t,u,false)=4):=rfl;rw[s.o]at f;clear s;cases ok with
  |false =>
   go_wp2_with fail;refine zv (Ae results77 _ _ _) rfl ?_;exact⟨by rw[f.o,if_neg (by simp)];rfl,b.o⟩
  |true =>
   go_wp2_with fail;refine(Iv B A 4 (by omega) D (n.o.below b.o)).mono ?_;rintro r F ⟨rfl,e⟩;have d:Hid (zc w F):=b.o.trans (e.mono b.o.size);clear e;generalize qz B A 4=m at *
   by_cases a:m=p
   ·have l:(m==p)=true:=by rw[CY];exact a
    have k:=ze a;clear a;go_wp2_with fail;refine zv (Ae results77 _ _ _) rfl ?_;exact⟨by rw[f.o,if_pos ⟨by simp,k.o⟩];rfl,d.o⟩
   ·have l:(m==p)=false:=by rw[yp];exact a
    have k:=ze a;clear a;go_wp2_with fail;refine zv (Ae results77 _ _ _) rfl ?_;exact⟨by rw[f.o,if_neg (λh=>k.o h.2)];rfl,d.o⟩
def Sl (l i w:Int)(d:i<=9223372036854775807)(W:World)(E:DW W):
  Calls prog 30 #[.int .i64 l,.int .i64 i,.int .i64 w] W λr e=>r=.returned (.string ⟨(qz l i w).toArray⟩)/\zc W e:=by
 have c:=ze E;clear E;go_enter func30,ntmps30;go_wp2_with fail;refine(Iv l i w d W c.o).mono ?_;rintro r f ⟨rfl,a⟩;have b:=ze a;clear a
 go_wp2
 go_ret;exact⟨rfl,b.o⟩
def LH (p:zb)(l:p.length<=1000000000)(w:World)(E:DW w):
  Calls prog 32 #[.string ⟨p.toArray⟩] w λr m=>r=.returned (.agg (LD (Ea p)))/\zc w m:=by
 have j:=ze E;clear E;go_enter func32,ntmps32;go_wp2_with fail;refine(zct p l _ (j.o.below (zi _ _))).mono ?_;rintro r n ⟨rfl,b⟩;have a:=b.block w.heap.size (by simp);rw[zf]at a;have c:Hid (zc w n):=(zi w _).trans (b.mono (by simp));clear b;have d:=ze a;clear a;generalize e:Ea p=x at *;have k:=ze e;clear e;obtain⟨f,g,h,i⟩:=x;unfold LD;simp only[];go_wp2_with (show wpList _ _ _ ({dst:=none,op:=Op.store _ _ _,type:=_,pos:=_,after:=_,guard:=_}::_) _ _;refine yw rfl 48 _ _ rfl w.heap.size #[.int .i64 f,.int .i64 g,.int .i64 h,.bool i] rfl rfl 48 _ d.o (by kernel_rfl) rfl (by simp[Value.oneCell']) ?_);refine zv (v:=.agg #[.int .i64 f,.int .i64 g,.int .i64 h,.bool i]) (Ca results32 _ _ w.heap.size 48 _ (0,0) _ rfl (Av _ _ _ _ _ _ d.o) underlying48 rfl (by kernel_rfl)) rfl ⟨by rw[k.o];rfl,?_⟩;exact Ag c.o (zk _) _
variable {k:Nat}{l:zb}
def Kf (n:Int)(h0:0<=n)(j:n<=9223372036854775807)(w:World):
  Calls prog 76 #[.int .i64 n] w λr l=>r=.returned (.string ⟨(DD n.toNat).toArray⟩)/\zc w l:=by
 have i:=ze (AA n h0 j);go_enter func76,ntmps76
 go_wp2
 go_loopw [0,3] (λt u wr=>∃(m:Nat) (b:zb),t=.int .i64 m/\u=.string ⟨b.toArray⟩/\m<=9223372036854775807/\DD n.toNat=DD m++b/\zc w wr) (λt _ _=>(intOf t).toNat)
 case atStart=>exact⟨n.toNat,[],by rw[show((n.toNat:Nat):Int)=n by omega],rfl,by omega,by simp,zu _ _⟩
 case round =>
  obtain⟨m,b,rfl,rfl,q,h,d⟩:=hrel;have f:=ze h;have c:=ze d;have k:b.length<=21:=by have:=i.o;rw[h,zw]at this;omega
  have p:¬9223372036854775807<1+b.length:=by omega
  by_cases g:m<10
  ·have e:IntKind.u8.wrap (48+(m:Int))=48+(m:Int):=by rw[CW];omega
   have a:=G2 (wr.alloc (.cells #[.int .u8 (48+(m:Int))] 5)) wr.heap.size 1 1 [UInt8.ofNat (48+m)] 5 (0,0) rfl (by rw[zf];simp[hv,bv];omega);unfold AL at a
   go_wp2
   go_ret;refine⟨?_,c.o.trans ((zi wr _).mono c.o.size)⟩;rw[f.o,LX g];exact Hi (by apply Ah;simp)
  ·have e:IntKind.u8.wrap (48+(m:Int)%10)=48+(m:Int)%10:=by rw[CW];omega
   have a:=G2 (wr.alloc (.cells #[.int .u8 (48+(m:Int)%10)] 5)) wr.heap.size 1 1 [UInt8.ofNat (48+m%10)] 5 (0,0) rfl (by rw[zf];simp[hv,bv];omega);unfold AL at a;go_wp2_with fail;refine⟨⟨m/10,UInt8.ofNat (48+m%10)::b,by congr 1,?_,by omega,?_,c.o.trans ((zi wr _).mono c.o.size)⟩,by simp[intOf];omega⟩
   ·congr 1;apply Ah;simp
   ·rw[f.o,JA g,qk]
    rfl
def zm6 (l:zb)(n:Nat):(⟨l.toArray⟩:ByteArray).extract 0 n=⟨(l.take n).toArray⟩:=by
 apply Ah;apply Array.toList_inj.1;rw[Ii,Array.toList_extract,FM];simp
def Qx (l:zb)(n m:Nat)(h:l.length=m):(⟨l.toArray⟩:ByteArray).extract n m=⟨(l.drop n).toArray⟩:=by
 apply Ah;apply Array.toList_inj.1;rw[Ii,Array.toList_extract,FM];simp only[];rw[xn (by simp;omega)]
def Iq (l p:zb)(w:World):
  Calls prog 78 #[.string ⟨l.toArray⟩,.string ⟨p.toArray⟩] w λr e=>r=.returned (.tuple #[.string ⟨(CP l p).1.toArray⟩,.bool (CP l p).2])/\zc w e:=by
 by_cases h:l.length<p.length
 ·have b:CP l p=(l,false):=by
   unfold CP;rw[if_neg];rw[Du];intro a;have:=a.length_le;omega
  rw[b];have d:(l.length:Int)<(p.length:Int):=by omega
  go_enter func78,ntmps78
  go_wp2
  go_ret2
  exact⟨rfl,zu _ _⟩
 ·have d:¬(l.length:Int)<(p.length:Int):=by omega
  have f:=zm6 l p.length;have g:=Qx l p.length l.length rfl
  by_cases a:l.take p.length=p
  ·have b:CP l p=(l.drop p.length,true):=by
    unfold CP;rw[if_pos];rw[Du,List.prefix_iff_eq_take];exact a.symm
   have c:(l.take p.length==p)=true:=by rw[CY];exact a
   rw[b];go_enter func78,ntmps78
   go_wp2
   go_ret2
   exact⟨rfl,zu _ _⟩
  ·have b:CP l p=(l,false):=by
    unfold CP;rw[if_neg];rw[Du,List.prefix_iff_eq_take];exact λh=>a h.symm
   have c:(l.take p.length==p)=false:=by rw[yp];exact a
   rw[b];go_enter func78,ntmps78
   go_wp2
   go_ret2
   exact⟨rfl,zu _ _⟩
def Td {n:Nat}(h:Ix 0 l=Ix n (l.drop k))(a:Tb (l.drop k))(b:k<=l.length):Cs l=(n,l.drop k,decide (0<k)):=by
 unfold Cs;rw[h,Tc n _ a];simp only[];congr 2;rw[vi,decide_eq_decide];omega
def zcm (h:Ix 0 l=none):Cs l=(0,l,false):=by
 unfold Cs;rw[h]
def Tv {a b:Value}{p q:Bool}(h:p=q):Ending.returned (.tuple #[a,b,.bool p])=.returned (.tuple #[a,b,.bool q]):=by rw[h]
def Gx (l:zb)(D:l.length<=1000000000)(w:World):
  Calls prog 79 #[.string ⟨l.toArray⟩] w λr B=>r=.returned (.tuple #[.int .i64 ((Cs l).1:Int),.string ⟨(Cs l).2.1.toArray⟩,.bool (Cs l).2.2])/\zc w B:=by
 go_enter func79,ntmps79
 go_wp2
 go_loopw [5,6] (λt u wr=>∃n k:Nat,t=.int .i64 n/\u=.int .i64 k/\k<=l.length/\n<=9223372036854775807/\Ix 0 l=Ix n (l.drop k)/\wr=w) (λ_ u _=>l.length-(intOf u).toNat)
 case atStart=>exact⟨0,0,rfl,rfl,yk _,by omega,by simp,rfl⟩
 case round =>
  obtain⟨n,k,rfl,rfl,p,E,f,rfl⟩:=hrel;have h:=ze f
  by_cases e:k<l.length
  ·have d:=FL e;have j:=ze d;have C:=(l[k]).toNat_lt;have v:(⟨l.toArray⟩:ByteArray)[k]'(by show k<l.toArray.size;simpa using e)=l[k]:=by show l.toArray[k]=_;simp
   clear d
   by_cases a:48<=l[k].toNat/\l[k].toNat<=57
   ·obtain⟨d1,d2⟩:=a;have m:Hid (Ix n (l.drop k)=if (9223372036854775807-(l[k].toNat-48))/10<n then none else Ix (10*n+(l[k].toNat-48)) (l.drop (k+1))):=by
     show _=_;rw[j.o,Ix,if_pos ⟨d1,d2⟩]
    generalize l[k]=c at *;have z:IntKind.u8.wrap ((c.toNat:Int)-48)=(c.toNat:Int)-48:=by rw[CW];omega
    by_cases g:(9223372036854775807-(c.toNat-48))/10<n
    ·have A:(9223372036854775807-((c.toNat:Int)-48))/10<(n:Int):=by omega
     have b:=ze (zcm (by rw[h.o,m.o,if_pos g]:Ix 0 l=none))
     go_wp2
     go_ret3
     exact⟨by rw[b.o];rfl,zu _ _⟩
    ·have A:¬(9223372036854775807-((c.toNat:Int)-48))/10<(n:Int):=by omega
     have q:Hid (Ix 0 l=Ix (10*n+(c.toNat-48)) (l.drop (k+1))):=by
      show _=_;rw[h.o,m.o,if_neg g]
     have x:IntKind.i64.wrap (10*(n:Int)+((c.toNat:Int)-48))=10*(n:Int)+((c.toNat:Int)-48):=by rw[Cw];omega
     have y:IntKind.i64.wrap (10*(n:Int))=10*(n:Int):=by rw[Cw];omega
     go_wp2_with fail;refine⟨⟨10*n+(c.toNat-48),k+1,by congr 1;omega,by go_num,by omega,by omega,q.o,trivial⟩,by simp[intOf];omega⟩
   ·have b:=ze (Td h.o (by rw[j.o];exact a) p);have s:=Qx l k l.length rfl;generalize l[k]=c at *;go_wp2_with fail
    all_goals go_region
    all_goals go_wp2_with fail
    all_goals go_ret3
    all_goals exact⟨by rw[b.o];exact Tv (by simp),(zu _ _).drew⟩
  ·have i:k=l.length:=by omega
   have b:=ze (Td h.o (by rw[List.drop_of_length_le (by omega)];trivial) p);have s:=Qx l k l.length rfl;clear i;go_wp2_with fail
   all_goals go_region
   all_goals go_wp2_with fail
   all_goals go_ret3
   all_goals exact⟨by rw[b.o];exact Tv (by first|rfl|simp|(rw[decide_eq_decide];omega)),(zu _ _).drew⟩
end Go.Proofs.YtfdbeldiomkdiaaGreatDoor
