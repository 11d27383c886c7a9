import Derived.Test.YtlcllcgngjhoaaaGreatDoorG04
set_option maxHeartbeats 8000000
set_option maxRecDepth 100000
set_option linter.all false
namespace Go.Proofs.YtlcllcgngjhoaaaGreatDoor
open Go.RowKit Go.Proofs.Tryz
def zt:=@List.getElem?_eq_getElem
def yi:=@List.length_map
def yt:=@List.mem_append
def vd:=@ByteArray.ext
def vi:=@List.length_take
def zaa:=@wpList_append_lies
def zan:=@List.getElem_cons_zero
def zfc:=@IntKind.wrap_u8
def zfu:=@beq_iff_eq
def zgv:=@List.map_map
def zhf:=@Lib.run_eql_slice_nil
def zib:=@List.length_drop
def zif:=@List.extract_eq_take_drop
def zks:=@ByteArray.data_extract
def zky:=@Nat.add_zero
def znt:=@List.drop_succ_cons
def zqo:=@wpList_append_own
variable {ls:za}
def z6x (a:za):zc:=if okB a=true then zf6 a else []
theorem zvk (h:okB ls=true):z6x ls=zf6 ls:=by unfold z6x;rw [if_pos h]
theorem zup (h:okB ls=false):z6x ls=[]:=by unfold z6x;rw [if_neg (by simp [h])]
theorem zql (v:Value)(c:List ByteArray)(w:World)(hn:c.length≤2000000)(C:∀ s∈c,s.size≤1048576)(h:Sss w v c):
  Calls prog 70 #[v] w fun r X=>r= .returned (.tuple #[txt (z6x (bys c)),.bool (okB (bys c))])∧Below w.heap.size w X:=by
 obtain⟨a,Q,rfl,z,M⟩:=h;have O:Hid (c.length=0∨∃ b d,a=some ⟨b,d,none⟩∧∀ i (h:i < c.length),w.cell? ⟨b,d+i,none⟩=some (.string c[i])):=by
  rcases M with h | h
  ·exact .inl (by simp [h])
  ·exact .inr h
 have P:=zf C;clear M C z;have I:=jq c
 by_cases h0:c.length=0
 ·have g:okB (bys c)=false:=zwq (by omega);rw [zup g,g];go_enter func70,ntmps70
  go_wp2
  go_ret2
  exact⟨rfl,yf _ _⟩
 by_cases h4:4 < c.length
 ·have g:okB (bys c)=false:=yar (by omega);rw [zup g,g];go_enter func70,ntmps70
  go_wp2
  go_ret2
  exact⟨rfl,yf _ _⟩
 have n0:((c.length:Int)==0)=false:=by rw [yk];omega
 have n4:¬(4:Int) < (c.length:Int):=by omega
 go_enter func70,ntmps70;go_wp2_with fail;go_loopw [4,5] (fun t i wr=>∃ k:Nat,k≤c.length∧i= .int .i64 k∧Below w.heap.size w wr∧t=txt (zf6 ((bys c).take k))∧∀ j (u:j < (bys c).length),j < k→(bys c)[j].length≤20) (fun _ i _=>c.length - (intOf i).toNat)
 case atStart=>exact⟨0,yv _,rfl,yf _ _,rfl,fun j _ u=>absurd u (zed _)⟩
 case round =>
  obtain⟨k,hk,rfl,y,rfl,q⟩:=hrel;have x:=zf y;have B:=zf q;clear y q
  by_cases A:k < c.length
  ·rcases O.o with R | ⟨b,d,rfl,f⟩
   ·omega
   have D:=f k A;rw [← x.o.cell (yg (p:=⟨b,d+k,none⟩) D)] at D;have hm:=P.o c[k] (yd A);clear f;have n:(bys c)[k]'(by omega)=c[k].data.toList:=by simp [bys]
   have e:((bys c)[k]'(by omega)).length=c[k].size:=by rw [n];simp
   by_cases S:20 < c[k].size
   ·have g:okB (bys c)=false:=z4e k (by omega) (by omega);have N:=zf g;have G:=zf (zup g);clear n e;generalize c[k]=s at *
    go_wp2
    go_ret2
    exact⟨by rw [N.o,G.o];rfl,x.o⟩
   ·have H:Hid (zf6 ((bys c).take (k+1))=zf6 ((bys c).take k)++(UInt8.ofNat c[k].size::c[k].data.toList)):=by
     show zf6 ((bys c).take (k+1))=_;rw [qf (by omega),zjj,zok,zss,e,n]
    have E:Hid (∀ j (u:j < (bys c).length),j < k+1→(bys c)[j].length≤20):=fun j L T=>by
     rcases qu j k with h | h
     ·exact B.o j L h
     ·obtain rfl:j=k:=by omega
      omega
    have F:=zf (z2p ((bys c).take k) (fun l C=>by
     obtain⟨j,u,rfl⟩:=vo C;have K:j < k:=by simp at u;omega
     rw [vv];exact B.o j (by omega) K))
    have V:IntKind.u8.wrap (c[k].size:Int)=(c[k].size:Int):=by
     rw [zfc];omega
    clear n e B;generalize c[k]=s at *;generalize zf6 ((bys c).take k)=m at *;have J:=zon (wr.alloc (.cells #[.int .u8 (s.size:Int)] 5)).drew wr.heap.size 1 1 [UInt8.ofNat s.size] 5 (0,0) rfl (by show(wr.alloc _).heap[_]?=_;rw [zg];simp [hv,bv];omega);have W:∀ o,(wr.alloc o).cell? ⟨b,d+k,none⟩=some (.string s):=fun o=>(yp wr o ⟨b,d+k,none⟩ (yg (p:=⟨b,d+k,none⟩) D)).trans D;have U:m.length≤84:=by have:=F.o;rw [vi,I] at this;omega
    have Y:¬ 9223372036854775807 < m.length+1:=by omega
    have Z:¬ 9223372036854775807 < m.length+1+s.size:=by omega
    unfold txt at J ⊢;go_wp2_with fail
    go_region
    all_goals go_wp2
    all_goals go_roundw
    case rel=>exact⟨k+1,by omega,by go_num,(x.o.trans ((zk wr _).mono x.o.size)).drew,by rw [H.o];congr 1;apply vd;simp,E.o⟩
    case measure=>simp [intOf];omega
  ·go_wp2_with fail
   go_ret2
   have g:okB (bys c)=true:=z1a (by omega) (by omega) (fun j u=>B.o j u (by omega));rw [zvk g,g,ja (by omega)];exact⟨rfl,x.o⟩
variable {B:Nat}{v:Value}{w:World}
def tb (l:zc):ByteArray:=⟨l.toArray⟩
theorem Sss.of_tb (h:w.ownsRow B 9 1 v ls.length (ls.map txt)):Sss w v (ls.map tb):=by
 refine Sss.of_owns (B:=B) ?_;have e:(ls.map tb).map Value.string=ls.map txt:=by simp [tb,txt]
 rw [e,yi];exact h
theorem zom (a:za):bys (a.map tb)=a:=by
 unfold bys tb;rw [zgv]
 conv=>rhs;rw [← List.map_id a]
 congr 1
theorem yb4 (s:ByteArray)(c:UInt8)(a:zc)(h:s.data.toList=c::a)(n:Nat):s.extract 1 (1+n)=tb (a.take n)∧(s.extract (1+n) s.size).data.toList=a.drop n:=by
 have b:s.size=a.length+1:=by
  have:=congrArg List.length h;simpa using this
 refine⟨?_,?_⟩
 ·apply vd;apply Array.toList_inj.1;simp [tb,h]
 ·rw [zks,Array.toList_extract,zif,h,b,show 1+n=n+1 by omega,znt];exact ja (by simp)
def yof:Value→Nat
 | .string s=>s.size
 | _=>0
theorem z7b (s:ByteArray)(h:0 < s.size):∃ c b,s.data.toList=c::b∧s[0]=c∧b.length+1=s.size:=by
 have a:s.data.toList.length=s.size:=by simp
 cases d:s.data.toList with
 | nil=>rw [d] at a;simp at a;omega
 | cons c b =>
  refine⟨c,b,rfl,?_,by rw [d] at a;simpa using a⟩;show s.data[0]=c;rw [← Array.getElem_toList];simp [d]
theorem zw8 (s:ByteArray)(w:World)(hs:s.size≤1048576):
  Calls prog 61 #[.string s] w fun r w'=>∃ x,r= .returned (.tuple #[x,.bool (zd6 s.data.toList).isSome])∧Below w.heap.size w w'∧Sss w' x (((zd6 s.data.toList).getD []).map tb):=by
 obtain⟨i,hi,E⟩:=zz.1 zps;obtain⟨K,L,M⟩:i.zero=some (.string ⟨#[]⟩)∧i.size=1∧i.bytes=16:=by simpa using E
 clear E;have HI:=zf hi;have U:=zf (And.intro K (And.intro L M));clear hi K L M;have hd:s.data.toList.length=s.size:=by simp
 have HD:=zf hd;clear hd;go_enter func61,ntmps61;go_wp2_with fail;go_loopw [0,4] (fun t u wr=>∃(d:ByteArray) (a:za),t= .string d∧Un s.data.toList a d.data.toList∧Below w.heap.size w wr∧wr.ownsRow w.heap.size 9 1 u a.length (a.map txt)∧∀ l∈a,l.length≤255) (fun t _ _=>yof t)
 case atStart=>exact⟨s,[],rfl,Un.start _,yf _ _,⟨rfl,.inl ⟨rfl,rfl⟩⟩,fun l F=>by simp at F⟩
 case round =>
  obtain⟨d,a,rfl,A,D,b,k⟩:=hrel;have O:=zf A;have B:=zf D;have Q:=zf b;have Y:=zf k;have n:=A.2;rw [HD.o] at n;have J:d.data.toList.length=d.size:=by simp
  rw [J] at n;clear A D b k J
  by_cases h0:0 < d.size
  ·obtain⟨c,N,v,ab,ae⟩:=z7b d h0;have f:Hid (Un s.data.toList a (c::N)):=v▸O.o;have HC:=zf v;have ad:=c.toNat_lt;clear v O
   by_cases m:c.toNat≤N.length
   ·obtain⟨e1,e2⟩:=yb4 d c N HC.o c.toNat;have E1:=zf e1;have X:=zf e2;clear e1 e2;have z:Hid (w.heap.size≤wr.heap.size):=B.o.size;have R:Hid (∀ o,(wr.alloc o).ownsRow w.heap.size 9 1 u4 a.length (a.map txt)):=fun o=>ym Q.o (zk wr o);go_wp2_with (at_builtin;refine zaa _ rfl _ _ _ rfl w.heap.size 9 i (.string ⟨#[]⟩) 1 16 underlying22 HI.o U.o.1 U.o.2.1 U.o.2.2 rfl (by omega) u4 a.length _ rfl (R.o _) ⟨wr.heap.size,0,none⟩ 1 1 _ rfl rfl (xj (zg _ _)) (by simp [Value.oneCell']) (by omega) (by unfold maxLen;omega) (by omega) (by have:=z.out;simp;omega) (wr.heap.size+1) (by simp) ?_;intro g' aa W b g V G;have P:Hid (Below w.heap.size w W):=(B.o.trans ((zk wr _).mono z.out)).grown g (by have:=z.out;simp;omega) (vq Q.o);have S:=zf b;clear g V G b);refine⟨⟨_,a++[N.take c.toNat],rfl,by rw [X.out];exact f.o.step m,P.o,?_,fun l F=>?_⟩,?_⟩
    ·have:=S.o;rw [E1.out] at this;rw [zy,yy];exact this
    ·rcases yt.1 F with h | h
     ·exact Y.o l h
     ·obtain rfl:l=N.take c.toNat:=by simpa using h
      simp;omega
    ·have e:=congrArg List.length X.out;have e':(d.extract (1+c.toNat) d.size).data.toList.length=(d.extract (1+c.toNat) d.size).size:=by simp
     rw [e',zib] at e;show(d.extract (1+c.toNat) d.size).size < d.size;omega
   ·have j:=zf (f.o.fail m)
    go_wp2
    go_ret2
    exact⟨_,by rw [j.o];rfl,B.o,by rw [j.o];exact⟨none,0,rfl,zm _,.inl rfl⟩⟩
  ·have p:d.data.toList=[]:=j5.1 (by rw [zik];show d.size=0;omega);have f:Hid (Un s.data.toList a []):=p▸O.o;clear O p;have Z:=zf (Sss.of_tb Q.o);go_wp2_with fail;refine(zql _ (a.map tb) wr (by rw [yi];omega) (fun t ht=>by
    obtain⟨l,F,rfl⟩:=yl.1 ht;have:=Y.o l F;show l.toArray.size≤_;simp;omega) Z.o).mono ?_
   rintro r W ⟨I,q⟩;rw [zom] at I;have C:Hid (Below w.heap.size w W):=B.o.trans (q.mono B.o.size);have T:=zf (Z.o.below q);clear q
   by_cases H:okB a=true
   ·obtain⟨r1,r2⟩:=f.o.end_ok H;have et:txt (z6x a)= .string s:=by rw [zvk H,r2];unfold txt;congr 1
    rw [et,H] at I;subst I;have j:=zf r1;clear r1 r2 et H
    go_wp2
    go_ret2
    exact⟨_,by rw [j.o];rfl,C.o,by rw [j.o];exact T.o⟩
   ·have y:okB a=false:=by simpa using H
    have j:=zf (f.o.end_not y);rw [zup y,y] at I;subst I;unfold txt
    go_wp2
    go_ret2
    exact⟨_,by rw [j.o];rfl,C.o,by rw [j.o];exact⟨none,0,rfl,zm _,.inl rfl⟩⟩
variable {B' b cap' g o off:Nat}{acc:za}{l rr:zc}{u x:Value}{w' w1 w2 wr:World}{xs:List Value}
theorem zmb (a:Addr)(n c:Nat)(l:zc)(w:World)(I:l.length=n)(K:n≤1000000)(y:∀ j u,(l.map bv)[j]?=some u→w.cell? (a.add j)=some u):
  Calls prog 100 #[.slice (some a) n c] w fun r A=>∃ x,r= .returned x∧OB A w.heap.size x l∧Below w.heap.size w A:=by
 obtain⟨i,z,g⟩:=zz.1 zv6;obtain⟨h,m,p⟩:i.zero=some (.int .u8 0)∧i.size=1∧i.bytes=1:=by simpa using g
 clear g;have D:=zf z;have s:=zf (And.intro h (And.intro m p));clear z h m p;have q:∀(w:World) (a:Option Addr) (n c v t:Nat),(binOp .eql 114 (.slice a n c) (.slice none v t)).run prog w= .ok (.bool a.isNone) w:=fun w a n c v t=>zhf w _ _ a n c v t underlying114;have B:=zf y;clear y;go_enter func100,ntmps100;go_wp2_with (at_builtin;refine zqo _ rfl _ _ 114 rfl w.heap.size 5 i (.int .u8 0) 1 1 underlying114 D.o s.o.1 s.o.2.1 s.o.2.2 rfl (by decide) (.slice (some ⟨w.heap.size,0,none⟩) 0 0) 0 [] rfl (World.ownsRow_made w #[] 0 (zm _) (yv _) rfl) a n c (l.map bv) rfl (by simp;omega) (fun j u G=>Lib.cell?_alloc_some _ (B.o j u G)) (yf1 l) (by unfold maxLen;omega) (by omega) (by simp) ?_;intro J L f b d;have F:=zf f;have C:=zf b;have E:=zf d;clear f b d);go_ret;refine⟨J,rfl,⟨by have:=F.o;rw [I];simpa using this,fun e=>absurd (E.o.1 e).1 (by simp)⟩,?_⟩;exact((yf _ w).alloc (zm _) _).grown C.o (by simp) (by intro k H;simp [Value.ownBlock] at H;omega)
theorem OB.grown {n:Nat}(h:OB w B x l)(k:w.ownsRow B' 114 1 v n xs)(e:w.grownBy w' v.ownBlock):OB w' B x l:=by
 refine⟨⟨h.1.1,?_⟩,h.2⟩;rcases h.1.2 with h0 | ⟨g,b,c,rfl,j,d,r⟩
 ·exact .inl h0
 ·refine .inr ⟨g,b,c,rfl,j,?_,r⟩;rw [e.block g (ju d) ?_]
  ·exact d
  ·intro f;rcases k.2 with ⟨rfl,_⟩ | ⟨o,m,i,rfl,_,a,_⟩
   ·simp [Value.ownBlock] at f
   ·simp only [Value.ownBlock,zr] at f;subst f;rw [d] at a;simp at a
theorem OB.weaken (h:OB w B x l)(c:B'≤B):OB w B' x l:=by
 refine⟨⟨h.1.1,?_⟩,h.2⟩;rcases h.1.2 with h0 | ⟨g,a,b,rfl,d,r⟩
 ·exact .inl h0
 ·exact .inr ⟨g,a,b,rfl,zu c d,r⟩
def OBs (w:World)(B:Nat)(v:Value)(a:za):Prop :=
 ∃ b:List Value,w.ownsRow B 114 1 v a.length b∧∀ j (h:j < a.length),∃ x,b[j]?=some x∧OB w B x a[j]
theorem OBs.nil (w:World)(B:Nat):OBs w B (.slice none 0 0) []:=⟨[],⟨rfl,.inl ⟨rfl,rfl⟩⟩,fun j a=>by simp at a⟩
theorem zwp {o:Obj}(m:B≤wr.heap.size)(k:wr.ownsRow B 114 1 u ls.length xs)
 (r:∀ j (h:j < ls.length),∃ x,xs[j]?=some x∧OB wr B x ls[j])
 (b:Below wr.heap.size wr w1) (q:OB w1 wr.heap.size x l)
 (f:w2.ownsRow B 114 1 (.slice (some ⟨g,0,none⟩) (ls.length+1) cap') (ls.length+1) (xs++[x]))
 (a:(w1.alloc o).grownBy w2 u.ownBlock) :
  OBs w2 B (.slice (some ⟨g,0,none⟩) (ls.length+1) cap') (ls++[l]):=by
 have i:xs.length=ls.length:=by rw [k.1,zfj]
 have d:(w1.alloc o).ownsRow B 114 1 u ls.length xs:=ym (ym k b) (zk _ _);refine⟨xs++[x],by simpa using f,fun j p=>?_⟩
 by_cases c:j < ls.length
 ·obtain⟨y,e,n⟩:=r j c;refine⟨y,by rw [qd (by omega)];exact e,?_⟩;rw [List.getElem_append_left c];exact((n.below b).below (zk _ _)).grown d a
 ·obtain rfl:j=ls.length:=by simp at p;omega
  refine⟨x,by rw [qi (by omega),i];simp,?_⟩;rw [List.getElem_append_right (zm _)];simp only [Nat.sub_self,zan];exact((q.weaken m).below (zk _ _)).grown d a
theorem yl9 {p q:Bool}(h:p=q):Ending.returned (.tuple #[x,.bool p])= .returned (.tuple #[x,.bool q]):=by rw [h]
def yfj (w:World)(v:Value)(r:zc):Prop:=∃ a b,v= .slice (some a) r.length b∧r.length≤b∧a.spot=none∧∀ i (h:i < r.length),w.cell? ⟨a.block,a.off+i,none⟩=some (bv r[i])
theorem z7y (h:OB w B x l):∀ u∈[x],u.oneCell'=true:=by
 intro u b;obtain rfl:u=x:=by simpa using b
 obtain⟨g,a,rfl,-⟩:=h.form
 rfl
theorem yia {a:Addr}(h:rr.length=0)(n:Nat):∀ j u,((rr.take n).map bv)[j]?=some u→wr.drew.cell? (a.add j)=some u:=by
 intro j u b;obtain rfl:rr=[]:=j5.1 h;simp at b
theorem zo8 (h:OB w B x l):∃ g c n,x= .slice (some ⟨g,0,none⟩) n c:=by
 obtain⟨g,a,rfl,-⟩:=h.form;exact⟨g,a,_,rfl⟩
theorem yfo (h:∀ l∈acc,l.length≤20)(b:l.length≤20):∀ m∈acc++[l],m.length≤20:=by
 intro m c;rcases yt.1 c with a | a
 ·exact h m a
 ·obtain rfl:m=l:=by simpa using a
  exact b
def yok:Value→Nat
 | .slice _ n _=>n
 | _=>0
theorem zzv (g:∀ i (h:i < rr.length),w.cell? ⟨b,off+1+i,none⟩=some (bv rr[i]))(n a d:Nat)(c:rr.length - n≤a)(f:n < rr.length→d=off+1+n):
  yfj w (.slice (some ⟨b,d,none⟩) (rr.length - n) a) (rr.drop n):=by
 refine⟨⟨b,d,none⟩,a,by rw [zib],by rw [zib];exact c,rfl,fun i e=>?_⟩;rw [zib] at e;obtain rfl:=f (by omega);rw [zcn];show w.cell? ⟨b,off+1+n+i,none⟩=_;rw [zes (off+1)];exact g (n+i) (by omega)
theorem yjd (h:l.length=0):yfj w (.slice (some ⟨b,o,none⟩) 0 0) l :=
 ⟨⟨b,o,none⟩,0,by rw [h],by rw [h];exact zm _,rfl,fun i a=>by omega⟩
theorem zxq (g:∀ i (h:i < rr.length),w.cell? ⟨b,off+1+i,none⟩=some (bv rr[i]))(f:Below w.heap.size w wr)(n:Nat):∀ j u,((rr.take n).map bv)[j]?=some u→wr.drew.cell? ((⟨b,off+1,none⟩:Addr).add j)=some u:=by
 intro j u c;have a:j < (rr.take n).length:=by simpa using (xy.1 c).1
 have d:j < rr.length:=by simp at a;omega
 have e:=g j d;rw [zcc];show wr.cell? ⟨b,off+1+j,none⟩=_;rw [f.cell (p:=⟨b,off+1+j,none⟩) (yg (p:=⟨b,off+1+j,none⟩) e),e];rw [List.getElem?_map,zt a,vv] at c;simpa using c
theorem ymn (v:Value)(d:zc)(w:World)(h:yfj w v d):
  Calls prog 187 #[v] w fun r w'=>∃ x,r= .returned (.tuple #[x,.bool (zd6 d).isSome])∧Below w.heap.size w w'∧OBs w' w.heap.size x ((zd6 d).getD []):=by
 obtain⟨i,hi,ad⟩:=zz.1 zy0;obtain⟨ai,aj,ak⟩:i.zero=some (.slice none 0 0)∧i.size=1∧i.bytes=24:=by simpa using ad
 clear ad;have HI:=zf hi;have O:=zf (And.intro ai (And.intro aj ak));clear hi ai aj ak;have am:=zf h;clear h;go_enter func187,ntmps187;go_wp2_with fail;go_loopw [0,4] (fun t u wr=>∃(r:zc) (a:za),yfj w t r∧Un d a r∧Below w.heap.size w wr∧OBs wr w.heap.size u a∧a.length≤4∧∀ l∈a,l.length≤20) (fun t _ _=>yok t)
 case atStart=>exact⟨d,[],am.o,Un.start _,yf _ _,OBs.nil _ _,yv _,fun l hl=>by simp at hl⟩
 case round =>
  obtain⟨r,a,⟨⟨b,F,al⟩,E,rfl,ab,W,N⟩,X,aa,ag,h4,T⟩:=hrel;obtain rfl:al=none:=W;have P:=zf X;have n:=zf aa;have HA:=zf T;have HC:=zf N;obtain⟨U,ho,ah⟩:=ag;have I:=zf ho;have Y:=zf ah;obtain⟨Q,S,ao⟩:∃ Q S,u4= .slice Q a.length S:=by
   rcases ho.2 with ⟨e,e0⟩ | ⟨g,E,ar,e,_⟩
   ·exact⟨none,0,by rw [e,e0]⟩
   ·exact⟨_,_,e⟩
  subst ao;have af:=X.2;clear X aa T N ho ah;cases r with
  | nil =>
   by_cases h1:1≤a.length
   ·have n1:(0:Int) < (a.length:Int):=by omega
    have z:=zf (P.o.end_ok (z1a h1 h4 (fun j hj=>HA.o _ (yd hj)))).1;have HD:=zf (show decide (0 < a.length)=true by simp;omega)
    go_wp2
    go_ret2
    exact⟨_,by rw [z.o];exact yl9 HD.o,n.o,by rw [z.o];exact⟨U,I.o,Y.o⟩⟩
   ·have h0:a.length=0:=by omega
    have z:=zf (P.o.end_not (zwq h0));obtain rfl:a=[]:=j5.1 h0
    go_wp2
    go_ret2
    exact⟨_,by rw [z.o];rfl,n.o,by rw [z.o];exact⟨U,I.o,Y.o⟩⟩
  | cons c A =>
   simp only [y9] at ab af ⊢;have M:=HC.o 0 (by simp);rw [zky] at M;simp only [zan] at M;rw [← n.o.cell (yg (p:=⟨b,F,none⟩) M)] at M;unfold bv at M;have av:=c.toNat_lt;have HS:Hid (∀ i (h:i < A.length),w.cell? ⟨b,F+1+i,none⟩=some (bv A[i])):=fun i h=>by
    have:=HC.o (i+1) (by simp;omega);rw [show F+(i+1)=F+1+i by omega] at this;simpa using this
   clear HC
   by_cases e4:a.length=4
   ·have z:=zf (P.o.many (by omega));have n4:((a.length:Int)==4)=true:=by rw [zfu];omega
    clear e4
    by_cases V:E=1
    ·subst V;go_wp2_with fail
     go_region
     all_goals go_wp2
     all_goals go_ret2
     all_goals exact⟨_,by rw [z.o];rfl,n.o.drew,by rw [z.o];exact OBs.nil _ _⟩
    ·go_wp2_with fail
     go_region
     all_goals go_wp2
     all_goals go_ret2
     all_goals exact⟨_,by rw [z.o];rfl,n.o.drew,by rw [z.o];exact OBs.nil _ _⟩
   ·have n4:((a.length:Int)==4)=false:=by rw [yk];omega
    by_cases an:20 < c.toNat
    ·have z:=zf (P.o.long an);have ap:(20:Int) < (c.toNat:Int):=by omega
     by_cases V:E=1
     ·subst V;go_wp2_with fail
      go_region
      all_goals go_wp2
      all_goals go_ret2
      all_goals exact⟨_,by rw [z.o];rfl,n.o.drew,by rw [z.o];exact OBs.nil _ _⟩
     ·go_wp2_with fail
      go_region
      all_goals go_wp2
      all_goals go_ret2
      all_goals exact⟨_,by rw [z.o];rfl,n.o.drew,by rw [z.o];exact OBs.nil _ _⟩
    ·have ap:¬(20:Int) < (c.toNat:Int):=by omega
     by_cases G:c.toNat≤A.length
     ·have nf:¬(A.length:Int) < (c.toNat:Int):=by omega
      by_cases V:E=1
      ·have aw:A.length=0:=by omega
       have aq:c.toNat=0:=by omega
       subst V;go_wp2_with fail
       go_region
       go_wp2_with fail;refine(zmb ⟨b,F,none⟩ 0 0 (A.take c.toNat) wr.drew (by simp;omega) (by omega) (yia (by omega) _)).mono ?_;rintro r y ⟨x,rfl,q,C⟩;obtain⟨gx,Z,nx,rfl⟩:=zo8 q;have B:=zf q;have k:Hid (Below wr.heap.size wr y):=z9x (yf _ _).drew C;have J:Hid (∀ o,(y.alloc o).ownsRow w.heap.size 114 1 (.slice Q a.length S) a.length U):=fun o=>ym (ym I.o k.o) (zk y o);have s:Hid (w.heap.size≤y.heap.size):=zu n.o.size k.o.size;clear q C;go_wp2_with (at_builtin;(refine zaa _ rfl _ _ _ rfl w.heap.size 114 i (.slice none 0 0) 1 24 underlying194 HI.o O.o.1 O.o.2.1 O.o.2.2 rfl (by omega) (.slice Q a.length S) a.length U rfl (J.o _) ⟨y.heap.size,0,none⟩ 1 1 [.slice (some ⟨gx,0,none⟩) nx Z] rfl rfl (xj (zg _ _)) (z7y B.o) (by omega) (by unfold maxLen;omega) (by omega) (by have:=s.out;simp;omega) (y.heap.size+1) (by simp) ?_;intro g' R w2 m f L D;have K:=zf (zwp n.o.size I.o Y.o k.o B.o m f);have H:Hid (Below w.heap.size w w2):=((n.o.trans (k.o.mono n.o.size)).trans ((zk y _).mono s.out)).grown f (by have:=s.out;simp;omega) (vq I.o);clear f L D m));refine⟨⟨A.drop c.toNat,a++[A.take c.toNat],yjd (by simp;omega),P.o.step G,H.o,K.o,by simp;omega,yfo HA.o (by simp;omega)⟩,by show 0 < _;simp [yok]⟩
      ·by_cases au:E - 1=c.toNat
       ·go_wp2_with fail
        go_region
        go_wp2_with fail;refine(zmb ⟨b,F+1,none⟩ c.toNat c.toNat (A.take c.toNat) wr.drew (by simp;omega) (by omega) (zxq HS.o n.o _)).mono ?_;rintro r y ⟨x,rfl,q,C⟩;obtain⟨gx,Z,nx,rfl⟩:=zo8 q;have B:=zf q;have k:Hid (Below wr.heap.size wr y):=z9x (yf _ _).drew C;have J:Hid (∀ o,(y.alloc o).ownsRow w.heap.size 114 1 (.slice Q a.length S) a.length U):=fun o=>ym (ym I.o k.o) (zk y o);have s:Hid (w.heap.size≤y.heap.size):=zu n.o.size k.o.size;clear q C;go_wp2_with (at_builtin;(refine zaa _ rfl _ _ _ rfl w.heap.size 114 i (.slice none 0 0) 1 24 underlying194 HI.o O.o.1 O.o.2.1 O.o.2.2 rfl (by omega) (.slice Q a.length S) a.length U rfl (J.o _) ⟨y.heap.size,0,none⟩ 1 1 [.slice (some ⟨gx,0,none⟩) nx Z] rfl rfl (xj (zg _ _)) (z7y B.o) (by omega) (by unfold maxLen;omega) (by omega) (by have:=s.out;simp;omega) (y.heap.size+1) (by simp) ?_;intro g' R w2 m f L D;have K:=zf (zwp n.o.size I.o Y.o k.o B.o m f);have H:Hid (Below w.heap.size w w2):=((n.o.trans (k.o.mono n.o.size)).trans ((zk y _).mono s.out)).grown f (by have:=s.out;simp;omega) (vq I.o);clear f L D m));refine⟨⟨A.drop c.toNat,a++[A.take c.toNat],zzv HS.o c.toNat _ _ (by omega) (fun h=>by omega),P.o.step G,H.o,K.o,by simp;omega,yfo HA.o (by simp;omega)⟩,by show A.length - c.toNat < A.length+1;omega⟩
       ·go_wp2_with fail
        go_region
        go_wp2_with fail;refine(zmb ⟨b,F+1,none⟩ c.toNat (E - 1) (A.take c.toNat) wr.drew (by simp;omega) (by omega) (zxq HS.o n.o _)).mono ?_;rintro r y ⟨x,rfl,q,C⟩;obtain⟨gx,Z,nx,rfl⟩:=zo8 q;have B:=zf q;have k:Hid (Below wr.heap.size wr y):=z9x (yf _ _).drew C;have J:Hid (∀ o,(y.alloc o).ownsRow w.heap.size 114 1 (.slice Q a.length S) a.length U):=fun o=>ym (ym I.o k.o) (zk y o);have s:Hid (w.heap.size≤y.heap.size):=zu n.o.size k.o.size;clear q C;go_wp2_with (at_builtin;(refine zaa _ rfl _ _ _ rfl w.heap.size 114 i (.slice none 0 0) 1 24 underlying194 HI.o O.o.1 O.o.2.1 O.o.2.2 rfl (by omega) (.slice Q a.length S) a.length U rfl (J.o _) ⟨y.heap.size,0,none⟩ 1 1 [.slice (some ⟨gx,0,none⟩) nx Z] rfl rfl (xj (zg _ _)) (z7y B.o) (by omega) (by unfold maxLen;omega) (by omega) (by have:=s.out;simp;omega) (y.heap.size+1) (by simp) ?_;intro g' R w2 m f L D;have K:=zf (zwp n.o.size I.o Y.o k.o B.o m f);have H:Hid (Below w.heap.size w w2):=((n.o.trans (k.o.mono n.o.size)).trans ((zk y _).mono s.out)).grown f (by have:=s.out;simp;omega) (vq I.o);clear f L D m));refine⟨⟨A.drop c.toNat,a++[A.take c.toNat],zzv HS.o c.toNat _ _ (by omega) (fun h=>by omega),P.o.step G,H.o,K.o,by simp;omega,yfo HA.o (by simp;omega)⟩,by show A.length - c.toNat < A.length+1;omega⟩
     ·have nf:(A.length:Int) < (c.toNat:Int):=by omega
      have z:=zf (P.o.fail G)
      by_cases V:E=1
      ·subst V;go_wp2_with fail
       go_region
       all_goals go_wp2
       all_goals go_ret2
       all_goals exact⟨_,by rw [z.o];rfl,n.o.drew,by rw [z.o];exact OBs.nil _ _⟩
      ·go_wp2_with fail
       go_region
       all_goals go_wp2
       all_goals go_ret2
       all_goals exact⟨_,by rw [z.o];rfl,n.o.drew,by rw [z.o];exact OBs.nil _ _⟩
variable {O:Nat→Prop}{T:List Nat}{d:Dk}{k:Nat}{t:TypeId}
structure Lg where
 key:zc
 es:za
 put:Nat
 live:Bool
def stV (b:Nat)(a:Bool):Value:=if a then .iface 39 (zdp b) else .nilIface
def zk3 (a:Nat)(b:Value)(l:Lg):Array Value:=#[stV a l.live,qo l.key,b,.int .i64 l.put]
def za9 (w:World)(O:Nat→Prop)(c b:Nat)(l:Lg):Prop :=
 ∃ a,O b∧w.heap[b]?=some (.cells (zk3 c a l) 196 (0,0))∧OBs w 0 a l.es∧∀ g,a.ownBlock=some g→O g
theorem zs0 {p:zc}(h:(bad d=false∧∃ x,je d.fs p=some x∧Bq w v x)∨((bad d=true∨je d.fs p=none)∧v= .slice none 0 0)):∃ a n c,v= .slice a n c:=by
 rcases h with ⟨-,x,-,g,b,C,e,rfl,-⟩ | ⟨-,rfl⟩
 ·exact⟨_,_,_,rfl⟩
 ·exact⟨_,_,_,rfl⟩
theorem yh0 (n:Nat)(v:Value)(w:World):(method (n+1) 39 v "Get").run prog w= .ok (272,v) w:=by kernel_rfl
theorem yh1 (n:Nat)(v:Value)(w:World):(method (n+1) 39 v "Put").run prog w= .ok (273,v) w:=by kernel_rfl
theorem yc3 (n:Nat)(v:Value)(w:World):(method (n+1) 39 v "Swap").run prog w= .ok (274,v) w:=by kernel_rfl
theorem yg1 (O:Nat→Prop)(j B s t i:Nat)(d:Dk)(p:zc)(u:Value)(w:World)(J:d.fs.length≤1000000000)(z:∀ f∈d.fs,f.2.length≤1000000000)(h:yw w O j d)
 (M:w.cell? ⟨s,0,none⟩=some (.pointer (some ⟨B,0,none⟩))) (I:w.cell? ⟨t,0,none⟩=some (qo p)) (m:w.heap[i]?=some (.cells #[u] 114 (0,0))) (b:w.cell? ⟨B,0,none⟩=some (stV j true)) :
  Calls prog 186 #[.pointer (some ⟨s,0,none⟩),.pointer (some ⟨t,0,none⟩),.pointer (some ⟨i,0,none⟩)] w fun r L=>∃ v e g,r= .returned e∧L=g.setCell ⟨i,0,none⟩ v∧zio (bad d) w.heap.size e g∧zq O dT1 w g∧yw g O j (jb d) ∧
   ((bad d=false∧∃ x,je d.fs p=some x∧Bq g v x)∨((bad d=true∨je d.fs p=none)∧v= .slice none 0 0)):=by
 unfold stV zdp at b;simp only [if_true] at b;unfold qo at I;obtain⟨P,R⟩:=zw m 0 u rfl;have D:=zf h;have C:=zf m;have E:=zf z;clear h m z;go_enter func186,ntmps186;go_wp2_with fail;have N:=yh0
 go_region_with (go_at_call 272;refine(yk8 O j d p _ J E.o (by exact D.o)).mono ?_;rintro r K ⟨v,e,rfl,A,q,y,hv⟩;obtain⟨a,n,c,rfl⟩:=zs0 hv;have F:=zf A;have G:=zf q;have l:=zf y;have H:=zf hv;obtain⟨Q,S⟩:=zw (q.keep (k:=i) C.o (by decide)) 0 u rfl;clear A q y hv)
 all_goals go_wp2
 all_goals go_ret
 all_goals exact⟨_,_,K,rfl,rfl,F.o,G.o.undrew,l.o,H.o⟩
def yke (w:World)(g:Nat)(p:zc):Prop:=∃ a,w.heap[g]?=some (.cells #[qo p,zhw a] 179 (0,0))∧zu6 w a
def zil (e:Bool)(p:zc)(B:Nat)(r:Value)(w:World):Prop:=(e=false∧r= .nilIface)∨(e=true∧∃ g,r=za7 g∧B≤g∧yke w g p)
theorem zu6.turn (h:zu6 w g)(b:zq O T w w')(a:395∉T):zu6 w' g:=by
 obtain⟨c,h⟩:=h;exact⟨c,b.keep h a⟩
theorem yke.turn {p:zc}(h:yke w g p)(b:zq O T w w')(e:395∉T)(a:179∉T):yke w' g p:=by
 obtain⟨c,h,d⟩:=h;exact⟨c,b.keep h a,d.turn b e⟩
theorem ztc {e:Bool}{r:Value}(h:zio e B r w):r= .nilIface∨∃ g,r=zhw g:=by
 rcases h with ⟨-,rfl⟩ | ⟨-,g,rfl,-⟩
 ·exact .inl rfl
 ·exact .inr ⟨g,rfl⟩
abbrev cT:List Nat:=[114,102]
theorem zeq {a:Array Value}(c:w.heap[b]?=some (.cells a t (0,0)))(d:t∈cT)(u:Value):zq (fun _=>True) cT w (w.setCell ⟨b,0,none⟩ u):=(zq.refl _ _ w).set (.inl trivial) c d u
theorem z6k (w:World)(a b c:Obj):(((w.alloc a).alloc b).alloc c).heap.size=w.heap.size+3∧(((w.alloc a).alloc b).alloc c).heap[w.heap.size]?=some a∧(((w.alloc a).alloc b).alloc c).heap[w.heap.size+1]?=some b∧(((w.alloc a).alloc b).alloc c).heap[w.heap.size+1+1]?=some c∧Below w.heap.size w (((w.alloc a).alloc b).alloc c):=by
 have d:(w.alloc a).heap.size=w.heap.size+1:=by simp
 have e:((w.alloc a).alloc b).heap.size=w.heap.size+1+1:=by simp
 refine⟨by simp,zj (zj (zg _ _)),?_,?_,?_⟩
 ·rw [← d];exact zj (zg _ _)
 ·rw [← e];exact zg _ _
 ·exact((zk w a).trans ((zk _ b).mono (by simp))).trans ((zk _ c).mono (by simp;omega))
theorem zlu {o:Obj}(h:w.heap[k]?=some o)(a:k≠b):(w.setCell ⟨b,0,none⟩ u).heap[k]?=some o:=by rw [yh _ _ _ _ a];exact h
theorem z3w (O:Nat→Prop)(D J:Nat)(d:Dk)(p:zc)(w:World)(hn:d.fs.length≤1000000000)(hl:∀ f∈d.fs,f.2.length≤1000000000)(h:yw w O D d)(Q:w.cell? ⟨J,0,none⟩=some (stV D true)):
  Calls prog 133 #[.pointer (some ⟨J,0,none⟩),qo p] w fun r b=>∃ v e,r= .returned (.tuple #[v,e])∧zil (bad d) p w.heap.size e b∧zq O dT1 w b∧yw b O D (jb d) ∧
   ((bad d=false∧∃ x,je d.fs p=some x∧Bq b v x)∨((bad d=true∨je d.fs p=none)∧v= .slice none 0 0)):=by
 have ad:∀(fn:Fn) (first N:Array Value) (w:World),(Instr.makeFunc fn first N).run prog w= .ok (.func fn first N) w:=fun _ _ _ _=>rfl;have eg:∀ t w,(callFunc 186 t).run prog w= .ok (.enter 186 t) w:=zrk func186 (by kernel_rfl) rfl;have HD:=zf h;have HL:=zf hl;have M:=zf Q;clear h hl Q;have ab:qo p= .string ⟨p.toArray⟩:=rfl;rw [ab];go_enter func133,ntmps133;go_wp2_with fail;obtain⟨s3,p1,p2,Z,k⟩:=z6k w (.cells #[.pointer (some ⟨J,0,none⟩)] 133) (.cells #[.string ⟨p.toArray⟩] 9) (.cells #[.slice none 0 0] 114);generalize (((w.alloc (.cells #[.pointer (some ⟨J,0,none⟩)] 133)).alloc (.cells #[.string ⟨p.toArray⟩] 9)).alloc (.cells #[.slice none 0 0] 114))=i at *;have L:=zf k;have P3:=zf Z;have S3:=zf s3;have q:=yg1 O D J w.heap.size (w.heap.size+1) (w.heap.size+1+1) d p (.slice none 0 0) (i.alloc (.cells #[.nilIface] 102)) hn HL.o
  (HD.o.stay (O1:=fun _=>False) (T:=[]) ((zq.of_below k).alloc _) (by simp) (by simp))
  (zw (zj p1) 0 _ rfl).1 (zw (zj p2) 0 _ rfl).1 (zj Z) (by rw [yp _ _ ⟨_,0,none⟩ (zx (yg M.o) k.size),k.cell (p:=⟨J,0,none⟩) (yg M.o)];exact M.o)
 have W:Hid ((i.alloc (.cells #[.nilIface] 102)).heap[i.heap.size]?=some (.cells #[.nilIface] 102 (0,0))):=zg _ _;have hW:Hid ((i.alloc (.cells #[.nilIface] 102)).heap.size=i.heap.size+1):=by show _=_;simp
 have E:Hid (Below w.heap.size w (i.alloc (.cells #[.nilIface] 102))):=k.alloc (by omega) _;have P4:Hid ((i.alloc (.cells #[.nilIface] 102)).heap[w.heap.size+1+1]?=some (.cells #[.slice none 0 0] 114 (0,0))):=zj Z;refine(z0n p 186 _ i (fun e w2=>∃ v b,w2=b.setCell ⟨w.heap.size+1+1,0,none⟩ v∧zio (bad d) (i.alloc (.cells #[.nilIface] 102)).heap.size e b∧zq O dT1 (i.alloc (.cells #[.nilIface] 102)) b∧yw b O D (jb d)∧((bad d=false∧∃ x,je d.fs p=some x∧Bq b v x)∨((bad d=true∨je d.fs p=none)∧v= .slice none 0 0))) eg
  (q.mono (by rintro r w2 ⟨v,e,b,rfl,h⟩;exact⟨e,rfl,v,b,h⟩)) ?_).mono ?_
 ·rintro e w2 ⟨v,b,rfl,F,I,-⟩;exact⟨ztc F,zlu (I.keep W.o (by decide)) (by have:=S3.out;omega)⟩
 clear q p1 p2 Z k s3;generalize i.alloc (.cells #[.nilIface] 102)=W4 at *;rintro r w5 ⟨e,w2,⟨v,b,rfl,F,I,Y,hv⟩,h⟩;obtain⟨a,n,c,rfl⟩:=zs0 hv;have q3:=I.keep P4.out (by decide);have q0:=I.keep W.o (by decide);have V:zq O dT1 w b:=(zq.of_below E.out).trans (I.mono (fun _ h=> .inl h) (fun _ h=>h));have H:i.heap.size≠w.heap.size+1+1:=by have:=S3.out;omega
 have z:w.heap.size≤i.heap.size:=by have:=S3.out;omega
 have r3:=zav q3 0 (.slice a n c);have r0:=zlu (u:= .slice a n c) q0 H;have K:zq (fun _=>True) cT b (b.setCell ⟨w.heap.size+1+1,0,none⟩ (.slice a n c)):=zeq q3 (by decide) _;rcases h with ⟨rfl,rfl,rfl⟩ | ⟨⟨m,rfl⟩,rfl,rfl⟩
 ·have s:bad d=false:=by
   rcases F with ⟨h,-⟩ | ⟨-,g,h,-⟩
   ·exact h
   ·simp [zhw] at h
  have A:=zeq r0 (by decide) .nilIface;have j:=zlu (u:= .nilIface) r3 (Ne.symm H);have B:=zeq j (by decide) (.slice a n c);have U:=zav j 0 (.slice a n c);have l:Hid (zil (bad d) p w.heap.size .nilIface (((b.setCell ⟨w.heap.size+1+1,0,none⟩ (.slice a n c)).setCell ⟨i.heap.size,0,none⟩ .nilIface).setCell ⟨w.heap.size+1+1,0,none⟩ (.slice a n c))∧zq O dT1 w (((b.setCell ⟨w.heap.size+1+1,0,none⟩ (.slice a n c)).setCell ⟨i.heap.size,0,none⟩ .nilIface).setCell ⟨w.heap.size+1+1,0,none⟩ (.slice a n c))∧yw (((b.setCell ⟨w.heap.size+1+1,0,none⟩ (.slice a n c)).setCell ⟨i.heap.size,0,none⟩ .nilIface).setCell ⟨w.heap.size+1+1,0,none⟩ (.slice a n c)) O D (jb d) ∧
   ((bad d=false∧∃ x,je d.fs p=some x∧Bq (((b.setCell ⟨w.heap.size+1+1,0,none⟩ (.slice a n c)).setCell ⟨i.heap.size,0,none⟩ .nilIface).setCell ⟨w.heap.size+1+1,0,none⟩ (.slice a n c)) (.slice a n c) x)∨((bad d=true∨je d.fs p=none)∧Value.slice a n c= .slice none 0 0))):=by
   refine⟨.inl ⟨s,rfl⟩,((V.setNew (by omega) _ _).setNew z _ _).setNew (by omega) _ _,((Y.stay K (by decide) (by decide)).stay A (by decide) (by decide)).stay B (by decide) (by decide),?_⟩;rcases hv with ⟨X,x,h2,h3⟩ | h
   ·exact .inl ⟨X,x,h2,((h3.turn K (by decide)).turn A (by decide)).turn B (by decide)⟩
   ·exact .inr h
  obtain⟨kc,kz⟩:=zw j 0 (.slice a n c) rfl;have C:=zf (zw U 0 (.slice a n c) rfl).1;clear K A B V F I Y hv q3 q0 r3 r0 j U E W P4 P3 L M HL HD;go_wp2_with fail;refine z8 (v:= .tuple #[.slice a n c,.nilIface]) ?_ rfl ⟨_,_,rfl,l.o⟩;simp [results,results133,go_sem,C.o]
 ·have s:bad d=true:=by
   rcases F with ⟨-,h⟩ | ⟨h,-⟩
   ·simp [zhw] at h
   ·exact h
  have y:zu6 b m:=by
   rcases F with ⟨-,h⟩ | ⟨-,g,h,-,h'⟩
   ·simp [zhw] at h
   ·simp [zhw] at h;exact h▸h'
  have G:(b.setCell ⟨w.heap.size+1+1,0,none⟩ (.slice a n c)).heap.size=b.heap.size:=by simp [World.setCell]
  rw [G];have P:((b.setCell ⟨w.heap.size+1+1,0,none⟩ (.slice a n c)).alloc (.cells #[qo p,zhw m] 179)).heap[b.heap.size]?=some (.cells #[qo p,zhw m] 179 (0,0)):=by rw [← G];exact zg _ _
  have tP:zq (fun _=>True) cT (b.setCell ⟨w.heap.size+1+1,0,none⟩ (.slice a n c)) ((b.setCell ⟨w.heap.size+1+1,0,none⟩ (.slice a n c)).alloc (.cells #[qo p,zhw m] 179)):=(zq.refl _ _ _).alloc _;have R:=zj (o:= .cells #[qo p,zhw m] 179) r0;have S:=zj (o:= .cells #[qo p,zhw m] 179) r3;have A:=zeq R (by decide) (za7 b.heap.size);have j:=zlu (u:=za7 b.heap.size) S (Ne.symm H);have B:=zeq j (by decide) (.slice a n c);have U:=zav j 0 (.slice a n c);have aa:w.heap.size≤b.heap.size:=V.size;have l:Hid (zil (bad d) p w.heap.size (za7 b.heap.size) ((((b.setCell ⟨w.heap.size+1+1,0,none⟩ (.slice a n c)).alloc (.cells #[qo p,zhw m] 179)).setCell ⟨i.heap.size,0,none⟩ (za7 b.heap.size)).setCell ⟨w.heap.size+1+1,0,none⟩ (.slice a n c))∧zq O dT1 w ((((b.setCell ⟨w.heap.size+1+1,0,none⟩ (.slice a n c)).alloc (.cells #[qo p,zhw m] 179)).setCell ⟨i.heap.size,0,none⟩ (za7 b.heap.size)).setCell ⟨w.heap.size+1+1,0,none⟩ (.slice a n c))∧yw ((((b.setCell ⟨w.heap.size+1+1,0,none⟩ (.slice a n c)).alloc (.cells #[qo p,zhw m] 179)).setCell ⟨i.heap.size,0,none⟩ (za7 b.heap.size)).setCell ⟨w.heap.size+1+1,0,none⟩ (.slice a n c)) O D (jb d) ∧
   ((bad d=false∧∃ x,je d.fs p=some x∧Bq ((((b.setCell ⟨w.heap.size+1+1,0,none⟩ (.slice a n c)).alloc (.cells #[qo p,zhw m] 179)).setCell ⟨i.heap.size,0,none⟩ (za7 b.heap.size)).setCell ⟨w.heap.size+1+1,0,none⟩ (.slice a n c)) (.slice a n c) x)∨((bad d=true∨je d.fs p=none)∧Value.slice a n c= .slice none 0 0))):=by
   refine⟨.inr ⟨s,b.heap.size,rfl,aa,m,?_,?_⟩,(((V.setNew (by omega) _ _).alloc _).setNew z _ _).setNew (by omega) _ _,(((Y.stay K (by decide) (by decide)).stay tP (by decide) (by decide)).stay A (by decide) (by decide)).stay B (by decide) (by decide),?_⟩
   ·exact B.keep (A.keep P (by decide)) (by decide)
   ·exact(((y.turn K (by decide)).turn tP (by decide)).turn A (by decide)).turn B (by decide)
   ·rcases hv with ⟨X,x,h2,h3⟩ | h
    ·rw [s] at X;simp at X
    ·exact .inr h
  obtain⟨kc,kz⟩:=zw j 0 (.slice a n c) rfl;have C:=zf (zw U 0 (.slice a n c) rfl).1;clear K A B tP V F I Y hv q3 q0 r3 r0 j S R U E W P4 P3 L M HL HD P y G;unfold qo za7 zhw at *;go_wp2_with fail;refine z8 (v:= .tuple #[.slice a n c,.iface 177 (.pointer (some ⟨b.heap.size,0,none⟩))]) ?_ rfl ⟨_,_,rfl,l.o⟩;simp [results,results133,go_sem,C.o]
end Go.Proofs.YtlcllcgngjhoaaaGreatDoor
