import Derived.Test.YtlcllcgngjhoaaaGreatDoorG07
set_option maxHeartbeats 8000000
set_option maxRecDepth 100000
set_option linter.all false
namespace Go.Proofs.YtlcllcgngjhoaaaGreatDoor
open Go.RowKit Go.Proofs.Tryz
def zl:=@List.getD_eq_getElem?_getD
def qv:=@Int.eq_ofNat_of_zero_le
def vh:=@List.take_append_of_le_length
def vx:=@List.find?_eq_none
def zbu:=@Nat.le_div_iff_mul_le
def zce:=@List.mem_flatMap
def zc2:=@Option.getD_some
def zdg:=@Nat.add_mul
def zd0:=@Nat.div_le_div_right
def zec:=@Nat.div_le_self
def zet:=@Nat.div_eq_of_lt
def zeu:=@List.getElem?_drop
def zfe:=@List.range_succ
def zim:=@List.flatMap_append
def zin:=@List.map_congr_left
def zjw:=@Option.isSome_some
def zl9:=@and_true
def zqc:=@List.mem_range'_1
def zsn:=@Nat.zero_mul
def ztr:=@List.cons.injEq
def zxw:=@true_and
variable {i' l':Int}{j j0:Nat}
theorem zze {l i w d:Int}(h:¬ zdh l i w)(f:¬ zdh l' i' d)(g:i≤9223372036854775807)(c:i'≤9223372036854775807)(e:qq l i w=qq l' i' d):l=l'∧i=i'∧w=d:=by
 have a:=zt2 h g;have b:=zt2 f c;rw [e,b] at a;simp only [ye,zl9] at a;exact⟨a.1.symm,a.2.1.symm,a.2.2.symm⟩
theorem zwj {l i w:Int}:qq l i w≠cpF:=by
 unfold qq;split
 ·simp [cpF]
 ·unfold zro cpF zri zj5;split<;>simp
def qg (l:Int)(n:Nat):Nat:=n / 4 ^ l.toNat
def zad (es:za)(l:Int)(k:Nat):zc :=
 if l=-1 then zss (es.getD k []) else qm ((es.drop (k*4 ^ l.toNat)).take (4 ^ l.toNat))
def wid (c j:Nat):Nat:=min 4 (c - 4*j)
def zih (es:za)(l:Int)(j w:Nat):zc:=((List.range' (4*j) w).map (zad es l)).flatten
def zgr (es:za)(l:Int)(c j:Nat):zc×zc:=(qq l j (wid c j),zih es l j (wid c j))
def zox (es:za)(l:Int)(a c:Nat):Fs:=(List.range' a ((c+3) / 4 - a)).map (zgr es l c)
def zd7 (es:za)(L:Nat):Fs:=zox es (-1) 0 es.length++(List.range L).flatMap fun(k:Nat)=>zox es (k:Int) 0 (es.length / 4 ^ k)
def j8 (es:za):Fs:=zd7 es 21
def zli (es:za)(a:Nat)(l:Int):Fs:=if qg l es.length=qg l a then [] else zox es l (qg l a / 4) (qg l es.length)
def z1s (es:za)(a L:Nat):Fs:=zli es a (-1)++(List.range L).flatMap fun(k:Nat)=>zli es a (k:Int)
def zah (es:za)(a:Nat):Fs:=z1s es a 21
theorem ycq (es:za)(l:Int)(a:Nat):zox es l a 0=[]:=by simp [zox]
theorem zrz {es:za}{l:Int}{c:Nat}{f:zc×zc}:f∈zox es l j0 c↔∃ j,j0≤j∧4*j < c∧f=zgr es l c j:=by
 unfold zox;rw [yl];constructor
 ·rintro⟨j,a,rfl⟩;rw [zqc] at a;exact⟨j,a.1,by omega,rfl⟩
 ·rintro⟨j,b,d,rfl⟩;exact⟨j,by rw [zqc];omega,rfl⟩
theorem zyy {α:Type}(f:Nat→List α)(a b:Nat)(c:a≤b)(h:∀ k,a≤k→f k=[]):(List.range b).flatMap f=(List.range a).flatMap f:=by
 induction b with
 | zero =>
   obtain rfl:a=0:=by omega
   rfl
 | succ b d =>
  by_cases e:a=b+1
  ·rw [e]
  ·rw [zfe,zim,d (by omega)];simp [h b (by omega)]
theorem z9p (es:za)(L:Nat)(h:es.length < 4 ^ L)(a:L≤21):zd7 es L=j8 es:=by
 unfold j8 zd7;rw [zyy _ L 21 a];intro k b;rw [zet (zx h (js (by omega) b))];exact ycq _ _ _
def isL (l:Int):Prop:=-1≤l∧l≤20
theorem zei {es:za}{f:zc×zc}:f∈j8 es↔∃ l j,isL l∧4*j < qg l es.length∧f=zgr es l (qg l es.length) j:=by
 unfold j8 zd7;rw [yt,zrz,zce];constructor
 ·rintro(⟨j,-,h,rfl⟩ | ⟨k,b,a⟩)
  ·exact⟨-1,j,⟨by omega,by omega⟩,by simpa [qg] using h,by simp [qg]⟩
  ·rw [zrz] at a;obtain⟨j,-,h,rfl⟩:=a;rw [zew] at b;exact⟨k,j,⟨by omega,by omega⟩,by simpa [qg] using h,by simp [qg]⟩
 ·rintro⟨l,j,⟨c,d⟩,h,rfl⟩
  by_cases e:l=-1
  ·subst e;exact .inl ⟨j,yv _,by simpa [qg] using h,by simp [qg]⟩
  ·obtain⟨k,rfl⟩:=qv (show 0≤l by omega);exact .inr ⟨k,zew.2 (by omega),zrz.2 ⟨j,yv _,by simpa [qg] using h,by simp [qg]⟩⟩
theorem z32 {es:za}{a:Nat}{f:zc×zc}:f∈zah es a↔∃ l j,isL l∧qg l es.length≠qg l a∧qg l a / 4≤j∧4*j < qg l es.length∧f=zgr es l (qg l es.length) j:=by
 have b:∀ l,f∈zli es a l↔∃ j,qg l es.length≠qg l a∧qg l a / 4≤j∧4*j < qg l es.length∧f=zgr es l (qg l es.length) j:=by
  intro l;unfold zli;split
  ·rename_i e;simp [e]
  ·rename_i e;rw [zrz];simp [e]
 unfold zah z1s;rw [yt,b,zce];constructor
 ·rintro(⟨j,h⟩ | ⟨k,d,c⟩)
  ·exact⟨-1,j,⟨by omega,by omega⟩,h⟩
  ·rw [b] at c;obtain⟨j,h⟩:=c;rw [zew] at d;exact⟨k,j,⟨by omega,by omega⟩,h⟩
 ·rintro⟨l,j,⟨g,i⟩,h⟩
  by_cases e:l=-1
  ·subst e;exact .inl ⟨j,h⟩
  ·obtain⟨k,rfl⟩:=qv (show 0≤l by omega);exact .inr ⟨k,zew.2 (by omega),(b _).2 ⟨j,h⟩⟩
theorem zz8 {es:za}{put:Nat}:∀ f∈zah es put,f∈j8 es:=by
 intro f d;obtain⟨l,j,a,-,-,b,c⟩:=z32.1 d;exact zei.2 ⟨l,j,a,b,c⟩
theorem zxr {α:Type}(es:List α)(p a b:Nat)(h:a+b≤p):((es.take p).drop a).take b=(es.drop a).take b:=by
 apply List.ext_getElem?;intro i;simp only [qj,zeu];split
 ·rw [if_pos (by omega)]
 ·rfl
theorem z65 (es:za)(l:Int)(p k:Nat)(h:k < qg l p):zad (es.take p) l k=zad es l k:=by
 unfold zad;split
 ·rename_i e;subst e;have:k < p:=by simpa [qg] using h
  rw [zl,zl,qj,if_pos this]
 ·unfold qg at h;have a:0 < 4 ^ l.toNat:=jp (by omega);have b:(k+1)*4 ^ l.toNat≤p:=(zbu a).1 h;rw [zxr];rw [zdg] at b;omega
theorem zvz (es:za)(l:Int)(p c a j:Nat)(d:wid a j=wid c j)(h:4*j+wid c j≤qg l p):zgr (es.take p) l a j=zgr es l c j:=by
 unfold zgr;rw [d];refine Prod.ext rfl ?_;show zih _ _ _ _=zih _ _ _ _;unfold zih;congr 1;refine zin fun k b=>?_;rw [zqc] at b;exact z65 es l p k (by omega)
theorem z9s {es:za}{a:Nat}(k:a≤es.length):∀ f∈j8 es,f∈zah es a∨f∈j8 (es.take a):=by
 intro f g;obtain⟨l,j,c,d,rfl⟩:=zei.1 g;have b:(es.take a).length=a:=by rw [vi];omega
 have i:qg l a≤qg l es.length:=zd0 k
 by_cases e:qg l es.length=qg l a
 ·refine .inr (zei.2 ⟨l,j,c,by rw [b];omega,?_⟩);rw [b,zvz es l a (qg l es.length) (qg l a) j (by rw [e]) (by unfold wid;omega)]
 ·by_cases h:qg l a / 4≤j
  ·exact .inl (z32.2 ⟨l,j,c,e,h,d,rfl⟩)
  ·refine .inr (zei.2 ⟨l,j,c,by rw [b];omega,?_⟩);rw [b,zvz es l a (qg l es.length) (qg l a) j (by unfold wid;omega) (by unfold wid;omega)]
theorem zlo (l:Int)(n:Nat):qg l n≤n:=zec _ _
theorem zme {l:Int}{c:Nat}(h:isL l)(a:4*j < c):¬ zdh l j (wid c j):=by
 unfold zdh wid isL at *;omega
theorem ztp {es:za}(p:es.length≤1000000):ya6 (j8 es):=by
 refine⟨fun q x y f i=>?_,fun x f=>?_⟩
 ·obtain⟨l,j,g,h,e⟩:=zei.1 f;obtain⟨m,k,c,d,a⟩:=zei.1 i;have b:=zlo l es.length;have n:=zlo m es.length;unfold zgr at e a;simp only [ye] at e a;obtain⟨rfl,o,-⟩:=zze (zme g h) (zme c d) (by omega) (by omega) (e.1.symm.trans a.1);obtain rfl:j=k:=by omega
  rw [e.2,a.2]
 ·obtain⟨l,j,g,h,e⟩:=zei.1 f;unfold zgr at e;simp only [ye] at e;exact zwj e.1.symm
variable {m:Nat}
def zjl (d:Nat):UInt8:=if d < 10 then UInt8.ofNat (48+d) else UInt8.ofNat (87+d)
def yg3 (b:UInt8):zc:=[zjl (b.toNat / 16),zjl (b.toNat % 16)]
def zbn (l:zc):zc:=(l.map yg3).flatten
def zij (c:UInt8):Prop:=(48≤c.toNat∧c.toNat≤57)∨(97≤c.toNat∧c.toNat≤102)
def nv (c:UInt8):Nat:=if c.toNat≤57 then c.toNat - 48 else c.toNat - 87
def zlh (a:Nat):zc→Nat
 | []=>a
 | c::r=>zlh (a*16+nv c) r
theorem z3k (d:Nat)(h:d < 16):(zjl d).toNat=if d < 10 then 48+d else 87+d:=by
 unfold zjl;split<;>rw [zjy]<;>omega
theorem z3j (d:Nat)(h:d < 16):zij (zjl d):=by
 unfold zij;rw [z3k d h];split<;>omega
theorem zuv (d:Nat)(h:d < 16):nv (zjl d)=d:=by
 unfold nv;rw [z3k d h];split<;>split<;>omega
theorem yic (c:UInt8)(h:zij c):nv c < 16:=by
 unfold zij at h;unfold nv;split<;>omega
theorem z3m (a b:zc)(n:Nat):zlh n (a++b)=zlh (zlh n a) b:=by
 induction a generalizing n with
 | nil=>rfl
 | cons c a d=>exact d _
theorem ych (n:Nat)(b:UInt8)(r:zc):zlh n (yg3 b++r)=zlh (n*256+b.toNat) r:=by
 have a:=b.toNat_lt;show zlh ((n*16+nv (zjl (b.toNat / 16)))*16+nv (zjl (b.toNat % 16))) r=_;rw [zuv _ (by omega),zuv _ (by omega)];congr 1;omega
theorem zpq (b:UInt8)(l:zc):zbn (b::l)=yg3 b++zbn l:=by simp [zbn]
theorem zdc (l:zc):(zbn l).length=2*l.length:=by
 induction l with
 | nil=>rfl
 | cons b l a=>rw [zpq,zy,a];simp [yg3];omega
theorem zrp (l:zc):∀ c∈zbn l,zij c:=by
 induction l with
 | nil=>intro c h;simp [zbn] at h
 | cons b l a =>
  intro c h;have d:=b.toNat_lt;rw [zpq] at h;rcases yt.1 h with h | h
  ·rcases(by simpa [yg3] using h:c=zjl (b.toNat / 16)∨c=zjl (b.toNat % 16)) with rfl | rfl
   ·exact z3j _ (by omega)
   ·exact z3j _ (by omega)
  ·exact a c h
theorem yah (l:zc)(h:∀ c∈l,zij c)(n k:Nat)(a:n < 16 ^ k):zlh n l < 16 ^ (k+l.length):=by
 induction l generalizing n k with
 | nil=>exact a
 | cons c l d =>
  have e:=yic c (h c (by simp));have:n*16+nv c < 16 ^ (k+1):=by rw [qy];omega
  have:=d (fun x b=>h x (by simp [b])) (n*16+nv c) (k+1) this;rw [show k+(c::l).length=k+1+l.length by simp;omega];exact this
theorem zwr (c:zc)(h:c.length=8):zta (zlh 0 (zbn c):Nat)=c:=by
 obtain⟨d,f,g,i,j,k,l,m,rfl⟩:=hv8 c h;have h0:=d.toNat_lt;have p:=f.toNat_lt;have q:=g.toNat_lt;have r:=i.toNat_lt;have s:=j.toNat_lt;have t:=k.toNat_lt;have u:=l.toNat_lt;have v:=m.toNat_lt;have e:zlh 0 (zbn [d,f,g,i,j,k,l,m])=((((((d.toNat*256+f.toNat)*256+g.toNat)*256+i.toNat)*256+j.toNat)*256+k.toNat)*256+l.toNat)*256+m.toNat:=by
  simp only [zpq,ych];show zlh _ []=_;simp only [zlh,zsn,xk]
 rw [e];unfold zta;have a:∀(b:UInt8) (x:Int),x=(b.toNat:Int)→UInt8.ofNat x.toNat=b:=by
  intro b x o;subst o;simp
 generalize w:((((((d.toNat*256+f.toNat)*256+g.toNat)*256+i.toNat)*256+j.toNat)*256+k.toNat)*256+l.toNat)*256+m.toNat=n;rw [a d _ (by omega),a f _ (by omega),a g _ (by omega),a i _ (by omega),a j _ (by omega),a k _ (by omega),a l _ (by omega),a m _ (by omega)]
theorem z3l {a b:zc}(c:a.length=8)(d:b.length=8)(h:zbn a=zbn b):a=b:=by
 rw [← zwr a c,← zwr b d,h]
theorem yci (l:zc):∀ x∈zbn l,x≠10:=by
 intro x a e;subst e;have:=zrp l 10 a;unfold zij at this
 revert this
 decide
theorem yby (n:Nat):∀ x∈dec n,x≠10:=zuq n 10 (by unfold zii;decide)
def zer:zc:=[116,105,108,101,115,10]
def z7m (n:Nat)(a:zc):zc:=zer++dec n++[10]++zbn a++[10]
def zny (n:Nat)(a b:zc):zc:=zbn (hash (b++[0]++z7m n a))
def zbp (n:Nat)(a b:zc):zc:=z7m n a++zny n a b++[10]
theorem zmq (n:Nat)(a b:zc):zbp n a b=zer++(dec n++(10::(zbn a++(10::(zny n a b++[10]))))):=by
 unfold zbp z7m;simp
def zba (t b:zc)(n:Nat)(a:zc):Prop:=n≤9223372036854775807∧a.length=8∧t=zbp n a b
theorem z07 (r:zc):zzj (10::r):=by show ¬ zii 10;unfold zii;decide
theorem zba.inj {t c:zc}{n:Nat}{a b:zc}(h:zba t c n a)(j:zba t c m b):n=m∧a=b:=by
 obtain⟨p,k,e⟩:=h;obtain⟨o,l,f⟩:=j;rw [e,zmq,zmq] at f;have g:=List.append_cancel_left f;have d:zp7 (dec n++(10::(zbn a++(10::(zny n a c++[10])))))=zp7 (dec m++(10::(zbn b++(10::(zny m b c++[10]))))):=by rw [g]
 rw [zwo n p _ (z07 _),zwo m o _ (z07 _)] at d;simp only [ye,ztr,zxw] at d;obtain⟨rfl,i,-⟩:=d;refine⟨rfl,z3l k l ?_⟩;have:=congrArg (List.take 16) i;rw [vh (by rw [zdc];omega),vh (by rw [zdc];omega),ja (by rw [zdc];omega),ja (by rw [zdc];omega)] at this;exact this
theorem yg9 (a b:zc)(c:UInt8)(h:∀ x∈a,x≠c):Lib.index (a++c::b) [c]=a.length:=by
 refine Lib.index_first (by simp) ?_ (fun j d=>?_)
 ·unfold Lib.occAt;rw [zdx];simp
 ·cases e:Lib.occAt (a++c::b) [c] j with
  | false=>rfl
  | true =>
   have:=Lib.occAt_head rfl e;rw [qd d,zt d] at this;exact absurd (jd this) (h _ (yd d))
theorem zto (k:Nat)(a b:zc)(c:UInt8)(h:∀ x∈a,x≠c):Lib.splitK [c] 0 (k+1) (a++c::b)=a::Lib.splitK [c] 0 k b:=by
 rw [Lib.splitK,yg9 a b c h,if_neg (by rw [zfu];omega),yj,zky,zob];congr 2;rw [show a.length+[c].length=(a++[c]).length by simp,show a++c::b=(a++[c])++b by simp,zdx]
theorem z9h (n:Nat)(a b:zc):Lib.splitK [10] 0 3 (zbp n a b)=[[116,105,108,101,115],dec n,zbn a,zny n a b++[10]]:=by
 rw [zmq,show zer=[116,105,108,101,115]++[10] from rfl,xt,show [10]++(dec n++(10::(zbn a++(10::(zny n a b++[10])))))=(10:UInt8)::(dec n++(10::(zbn a++(10::(zny n a b++[10]))))) from rfl];rw [zto 2 _ _ 10 (by decide),zto 1 _ _ 10 (yby n),zto 0 _ _ 10 (yci a)]
 rfl
theorem yel (n:Nat)(a b:zc):3≤(zbp n a b).length:=by
 rw [zmq];simp [zer]
abbrev Lk:=zc→Option (zc)
def wdF (a:Lk)(i hv:Nat):Option Nat:=[4,3,2,1].find? fun w=>decide (hv < w)&&(a (qq (-1) i (w:Nat))).isSome
def z9w (a:Lk)(s:List Nat):Prop:=∀ j w:Nat,1≤w→w≤4→(a (qq (-1) j w)).isSome→j∈s
variable {v:Value}{w w':World}
theorem Fss.below {fs:Fs}(h:Fss w v fs)(f:Below w.heap.size w w'):Fss w' v fs:=by
 obtain⟨a,c,e,g,h | ⟨b,d,l,n⟩⟩:=h
 ·exact⟨a,c,e,g,.inl h⟩
 ·refine⟨a,c,e,g,.inr ⟨b,d,l,fun i m=>?_⟩⟩;obtain⟨j,k⟩:=n i m;exact⟨by rw [f.cell (p:=⟨b,_,none⟩) (yg j)];exact j,by rw [f.cell (p:=⟨b,_,none⟩) (yg k)];exact k⟩
theorem zck (v:Value)(fs:Fs)(q:zc)(w:World)(F:fs.length≤1000000000)(h:Fss w v fs):
  Calls prog 17 #[v,qo q] w fun r D=>r= .returned (.int .i64 (ixI fs q))∧D=w:=by
 obtain⟨a,A,rfl,x,e⟩:=h;have H:=zf e;clear e;unfold qo;go_enter func17,ntmps17;go_wp2_with fail
 go_loop [5] (fun i=>∃ k:Nat,k≤fs.length∧i= .int .i64 k∧∀ j (l:j < fs.length),j < k→fs[j].1≠q) (fun i=>fs.length - (intOf i).toNat)
 case atStart=>exact⟨0,yv _,rfl,fun j l h=>by omega⟩
 case round =>
  obtain⟨k,E,rfl,s⟩:=hrel;have m:=zf s;clear s
  by_cases c:k < fs.length
  ·obtain⟨b,d,rfl,n⟩:∃ b d,a=some ⟨b,d,none⟩∧∀ i (h:i < fs.length),w.cell? ⟨b,d+i*2,none⟩=some (qo fs[i].1)∧w.cell? ⟨b,d+i*2+1,none⟩=some (qo fs[i].2):=by
    rcases H.o with h | h
    ·rw [h] at c;simp at c
    ·exact h
   obtain⟨y,-⟩:=n k c;unfold qo at y;clear n
   by_cases g:fs[k].1=q
   ·have z:Hid (ixF fs q=some k):=z7f c g (fun j l=>m.o j (by omega) l);rw [g] at y;clear g m;go_wp2_with fail;go_ret;exact⟨by unfold ixI;rw [z.o];rfl,rfl⟩
   ·have t:Hid (∀ j (l:j < fs.length),j < k+1→fs[j].1≠q):=fun j u C=>by
     rcases qu j k with h | h
     ·exact m.o j u h
     ·obtain rfl:j=k:=by omega
      exact g
    generalize fs[k].1=p at *;clear m;go_wp2_with fail
    ·first
      | (rename_i h _;exact absurd (by simpa using h) g)
      | (rename_i h _ _;exact absurd (by simpa using h) g)
      | (rename_i h _ _ _;exact absurd (by simpa using h) g)
    ·go_round
     case rel=>exact⟨k+1,by omega,by go_num,t.o⟩
     case measure=>simp [intOf];omega
  ·go_wp2_with fail;go_ret;refine⟨?_,rfl⟩;have:ixF fs q=none:=zou (fun f B=>by
    obtain⟨j,l,rfl⟩:=vo B;exact m.o j l (by omega))
   unfold ixI;rw [this]
   rfl
theorem z4w (l i w:Int)(a:zdh l i w)(W:World):
  Calls prog 59 #[.int .i64 l,.int .i64 i,.int .i64 w] W fun r b=>r= .returned (.string ⟨(qq l i w).toArray⟩)∧Below W.heap.size W b:=by
 rw [zzd a];unfold zdh at a;go_enter func59,ntmps59;go_wp2_with fail
 all_goals first | (go_ret;exact⟨rfl,yf _ _⟩) | (exfalso;omega)
theorem zjq (l i w:Int)(p:i≤9223372036854775807)(W:World):
  Calls prog 59 #[.int .i64 l,.int .i64 i,.int .i64 w] W fun r H=>r= .returned (.string ⟨(qq l i w).toArray⟩)∧Below W.heap.size W H:=by
 by_cases t:zdh l i w
 ·exact z4w l i w t W
 have s:=zf (zix t);have n:=t;unfold zdh at n;have I:¬ l < -1:=by omega
 have J:¬ 20 < l:=by omega
 have K:¬ i < 0:=by omega
 have L:¬ w < 1:=by omega
 have M:¬ 4 < w:=by omega
 have E:=zcq i (by omega) p;have G:=zcq w (by omega) (by omega);clear t n
 by_cases A:l=-1
 ·subst A;have m:=zf zmf
  by_cases q:w < 4
  ·skip
   have k:Hid (zfp w=zjn++dec w.toNat):=by show _=_;unfold zfp;rw [if_pos q]
   go_enter func59,ntmps59;go_wp2_with fail;refine(ze6 i (by omega) p W).mono ?_;rintro r h ⟨rfl,a⟩;have b:Hid (Below W.heap.size W h):=a;clear a;generalize dec i.toNat=d at *;have v:¬ 9223372036854775807 < 8+d.length:=by omega
   go_wp2_with fail;refine(ze6 w (by omega) (by omega) h).mono ?_;rintro r z ⟨rfl,f⟩;have j:Hid (Below W.heap.size W z):=b.o.trans (f.mono b.o.size);clear f;generalize dec w.toNat=x at *;have C:¬ 9223372036854775807 < 8+d.length+3:=by omega
   have D:¬ 9223372036854775807 < 8+d.length+3+x.length:=by omega
   go_wp2_with fail;go_ret;refine⟨?_,j.o⟩;rw [s.o,m.o,k.o];exact zh8 (by unfold zri zjn;apply vd;simp)
  ·skip
   have k:Hid (zfp w=[]):=by show _=_;unfold zfp;rw [if_neg q]
   go_enter func59,ntmps59;go_wp2_with fail;refine(ze6 i (by omega) p W).mono ?_;rintro r h ⟨rfl,a⟩;have b:Hid (Below W.heap.size W h):=a;clear a;generalize dec i.toNat=d at *;have v:¬ 9223372036854775807 < 8+d.length:=by omega
   go_wp2_with fail;go_ret;refine⟨?_,b.o⟩;rw [s.o,m.o,k.o];exact zh8 (by unfold zri;apply vd;simp)
 ·have m:=zf (zm7 l A);have F:=zcq l (by omega) (by omega);have N:0≤l:=by omega
  by_cases q:w < 4
  ·skip
   have k:Hid (zfp w=zjn++dec w.toNat):=by show _=_;unfold zfp;rw [if_pos q]
   go_enter func59,ntmps59;go_wp2_with fail;refine(ze6 l (by omega) (by omega) W).mono ?_;rintro r y ⟨rfl,e⟩;have c:=zf e;clear e;generalize dec l.toNat=g at *;have B:¬ 9223372036854775807 < 5+g.length:=by omega
   have u:¬ 9223372036854775807 < 5+g.length+1:=by omega
   go_wp2_with fail;refine(ze6 i (by omega) p y).mono ?_;rintro r h ⟨rfl,a⟩;have b:Hid (Below W.heap.size W h):=c.o.trans (a.mono c.o.size);clear a;generalize dec i.toNat=d at *;have v:¬ 9223372036854775807 < 5+g.length+1+d.length:=by omega
   go_wp2_with fail;refine(ze6 w (by omega) (by omega) h).mono ?_;rintro r z ⟨rfl,f⟩;have j:Hid (Below W.heap.size W z):=b.o.trans (f.mono b.o.size);clear f;generalize dec w.toNat=x at *;have C:¬ 9223372036854775807 < 5+g.length+1+d.length+3:=by omega
   have D:¬ 9223372036854775807 < 5+g.length+1+d.length+3+x.length:=by omega
   go_wp2_with fail;go_ret;refine⟨?_,j.o⟩;rw [s.o,m.o,k.o];exact zh8 (by unfold zj5 zjn;apply vd;simp)
  ·skip
   have k:Hid (zfp w=[]):=by show _=_;unfold zfp;rw [if_neg q]
   go_enter func59,ntmps59;go_wp2_with fail;refine(ze6 l (by omega) (by omega) W).mono ?_;rintro r y ⟨rfl,e⟩;have c:=zf e;clear e;generalize dec l.toNat=g at *;have B:¬ 9223372036854775807 < 5+g.length:=by omega
   have u:¬ 9223372036854775807 < 5+g.length+1:=by omega
   go_wp2_with fail;refine(ze6 i (by omega) p y).mono ?_;rintro r h ⟨rfl,a⟩;have b:Hid (Below W.heap.size W h):=c.o.trans (a.mono c.o.size);clear a;generalize dec i.toNat=d at *;have v:¬ 9223372036854775807 < 5+g.length+1+d.length:=by omega
   go_wp2_with fail;go_ret;refine⟨?_,b.o⟩;rw [s.o,m.o,k.o];exact zh8 (by unfold zj5;apply vd;simp)
variable {B B' i k:Nat}{O:Nat→Prop}{T:List Nat}{W:World}{d:Dk}{l:zc}{y:Value}
theorem Bq.rest (h:Bq w v l):yfj w v l:=by
 obtain⟨g,a,C,f,rfl,e,c,b⟩:=h;refine⟨⟨g,0,none⟩,a,rfl,e,rfl,fun i d=>?_⟩;show w.cell? ⟨g,0+i,none⟩=_;rw [xk,yq _ _ _ _ _ _ c];exact b i d
theorem zs9 {es:za}(h:OBs w B y es):∃ a c,y= .slice a es.length c:=by
 obtain⟨j,i,-⟩:=h;rcases i.2 with ⟨e,f⟩ | ⟨g,b,d,e,_⟩
 ·exact⟨none,0,by rw [e,f]⟩
 ·exact⟨_,_,e⟩
theorem z5y (w:World):
  Calls prog 187 #[.slice none 0 0] w fun r a=>r= .returned (.tuple #[.slice none 0 0,.bool false])∧a=w:=by
 go_enter func187,ntmps187;go_wp2_with fail;refine zd8 1 ?_;rw [xo]
 go_wp2
 go_ret2
 exact⟨rfl,rfl⟩
def zn3 (x:Option (zc))(w:Nat):Option (za):=match x with
 | some d=>(match zd6 d with | some es=>if es.length=w then some es else none | none=>none)
 | none=>none
def zn2 (w:World)(v:Value)(x:Option (zc)):Prop:=(∃ d,x=some d∧Bq w v d)∨(x=none∧v= .slice none 0 0)
theorem z0e (n:Nat)(v:Value)(x:Option (zc))(w:World)(h:zn2 w v x):
  Calls prog 135 #[.int .i64 n,v] w fun r l=>Below w.heap.size w l∧((∃ es y,zn3 x n=some es∧r= .returned (.tuple #[y,.bool true])∧OBs l w.heap.size y es)∨(zn3 x n=none∧r= .returned (.tuple #[.slice none 0 0,.bool false]))):=by
 rcases h with ⟨d,rfl,k⟩ | ⟨rfl,rfl⟩
 ·have p:=zf k;clear k;go_enter func135,ntmps135;go_wp2_with fail;refine(ymn v d w p.o.rest).mono ?_;rintro r s ⟨y,rfl,g,b⟩;have j:=zf g;clear g;cases e:zd6 d with
  | none =>
   have f:Hid (zn3 (some d) n=none):=by show zn3 (some d) n=none;unfold zn3;simp only [e]
   obtain⟨a,c,rfl⟩:=zs9 b;clear e b;go_wp2_with fail
   go_ret2
   exact⟨j.o,.inr ⟨f.o,rfl⟩⟩
  | some es =>
   rw [e] at b;simp only [zc2,zjw] at b ⊢;obtain⟨a,c,rfl⟩:=zs9 b;have m:=zf b;clear b
   by_cases i:es.length=n
   ·have f:Hid (zn3 (some d) n=some es):=by show zn3 (some d) n=_;unfold zn3;simp only [e,if_pos i]
    have q:((es.length:Int)==(n:Int))=true:=by rw [zfu];omega
    clear e i;go_wp2_with fail
    go_ret2
    exact⟨j.o,.inl ⟨es,_,f.o,rfl,m.o⟩⟩
   ·have f:Hid (zn3 (some d) n=none):=by show zn3 (some d) n=_;unfold zn3;simp only [e,if_neg i]
    have q:((es.length:Int)==(n:Int))=false:=by rw [yk];omega
    clear e i;go_wp2_with fail
    go_ret2
    exact⟨j.o,.inr ⟨f.o,rfl⟩⟩
 ·go_enter func135,ntmps135;go_wp2_with fail;refine(z5y w).mono ?_;rintro r s ⟨rfl,rfl⟩;go_wp2_with fail
  go_ret2
  exact⟨yf _ _,.inr ⟨rfl,rfl⟩⟩
theorem ym8 {p:zc}(c:bad d=false)(h:(bad d=false∧∃ x,je d.fs p=some x∧Bq w v x)∨((bad d=true∨je d.fs p=none)∧v= .slice none 0 0)):zn2 w v (je d.fs p):=by
 rcases h with ⟨-,x,a,b⟩ | ⟨a,b⟩
 ·exact .inl ⟨x,a,b⟩
 ·rcases a with a | a
  ·rw [c] at a;simp at a
  ·exact .inr ⟨a,b⟩
theorem z7d {x:Option (zc)}(h:zn2 w v x):(x=none∧v= .slice none 0 0)∨∃ d g n c,x=some d∧v= .slice (some g) n c:=by
 rcases h with ⟨d,e,g,a,C,i,rfl,-⟩ | ⟨b,f⟩
 ·exact .inr ⟨d,_,_,_,e,rfl⟩
 ·exact .inl ⟨b,f⟩
theorem Env.turn (h:Env W)(a:Below W.heap.size W w)(c:zq O T w w')(b:∀ k,O k→W.heap.size≤k):Env w'∧Below W.heap.size W w':=by
 have:=a.trans (c.below b a.size);exact⟨h.below this,this⟩
theorem yod (f:Nat→Bool)(hv k:Nat)(b:hv < k)(d:k≤4)(c:f k=true)(a:∀ j:Nat,k < j→j≤4→hv < j→f j=false):[4,3,2,1].find? (fun w=>decide (hv < w)&&f w)=some k:=by
 have e:k=4∨k=3∨k=2∨k=1:=by omega
 rcases e with rfl | rfl | rfl | rfl
 ·simp [List.find?,b,c]
 ·simp [List.find?,b,c,a 4 (by omega) (by omega) (by omega)]
 ·simp [List.find?,b,c,a 3 (by omega) (by omega) (by omega),a 4 (by omega) (by omega) (by omega)]
 ·simp [List.find?,b,c,a 2 (by omega) (by omega) (by omega),a 3 (by omega) (by omega) (by omega),a 4 (by omega) (by omega) (by omega)]
theorem ygt (f:Nat→Bool)(hv:Nat)(a:∀ j:Nat,j≤4→hv < j→f j=false):[4,3,2,1].find? (fun w=>decide (hv < w)&&f w)=none:=by
 rw [vx];intro w b;have:w≤4:=by simp at b;omega
 by_cases h:hv < w
 ·simp [a w this h]
 ·simp [h]
theorem ynt {a:Lk}{hv:Nat}(c:hv < k)(d:k≤4)(e:(a (qq (-1) i (k:Nat))).isSome=true)(b:∀ j:Nat,k < j→j≤4→hv < j→(a (qq (-1) i (j:Nat))).isSome=false):wdF a i hv=some k :=
 yod (fun w=>(a (qq (-1) i (w:Nat))).isSome) hv k c d e b
theorem ynu {b:Lk}{hv:Nat}(a:∀ j:Nat,j≤4→hv < j→(b (qq (-1) i (j:Nat))).isSome=false):wdF b i hv=none :=
 ygt (fun w=>(b (qq (-1) i (w:Nat))).isSome) hv a
theorem zh5 {b:Bool}{p:zc}{e:Value}(h:zil b p B e w):(b=false∧e= .nilIface)∨(b=true∧∃ g,e= .iface 177 (.pointer (some ⟨g,0,none⟩))):=by
 rcases h with h | ⟨h,g,rfl,-⟩
 ·exact .inl h
 ·exact .inr ⟨h,g,rfl⟩
theorem zil.weaken {b:Bool}{p:zc}{e:Value}(h:zil b p B e w)(a:B'≤B):zil b p B' e w:=by
 rcases h with h | ⟨h,g,e,c,r⟩
 ·exact .inl h
 ·exact .inr ⟨h,g,e,zu a c,r⟩
theorem z9t (O:Nat→Prop)(W:World)(hE:Env W)(J:∀ k,O k→W.heap.size≤k)(t D:Nat)(d:Dk)(i hv:Nat)(w:World)(hn:d.fs.length≤1000000000)(hl:∀ f∈d.fs,f.2.length≤1000000000)(hi:i≤1000000)(al:hv < 4)(hc:zp4 d)(hW:Below W.heap.size W w)(h:yw w O t d)(cs:Array Value)(B:w.heap[D]?=some (.cells cs 196 (0,0)))(C:cs[0]?=some (stV t true)):
  Calls prog 136 #[.pointer (some ⟨D,0,none⟩),.int .i64 i,.int .i64 (hv+1:Nat)] w fun r Y=>∃(H:Dk) (n:Nat) (v e:Value),r= .returned (.tuple #[.int .i64 n,v,e])∧zq O dT1 w Y∧yw Y O t H∧H.fs=d.fs∧tk H=tk d ∧
   ((H.hit=true∧∃ p,zil true p w.heap.size e Y)∨(zp4 H∧e= .nilIface∧((wdF (je d.fs) i hv=none∧n=0∧v= .slice none 0 0)∨(wdF (je d.fs) i hv=some n∧∃ x,je d.fs (qq (-1) i n)=some x∧Bq Y v x)))):=by
 have HL:=zf hl;have HD:=zf h;have HS:Hid (w.cell? ⟨D,0,none⟩=some (stV t true)):=(zw B 0 _ C).1;have aa:=zf B;have ab:=zf C;have HW:=zf hW;have HC:=zf hc;have HO:=zf J;have af:=zf hE;clear hl h B C hW hc J hE;go_enter func136,ntmps136;go_wp2_with fail;go_loopw [9,10,11] (fun s9 _ _ wr=>∃(k:Nat) (d1:Dk),s9= .int .i64 k∧hv≤k∧k≤4∧zq O dT1 w wr∧yw wr O t d1∧d1.fs=d.fs∧tk d1=tk d∧zp4 d1∧∀ j,k < j→j≤4→hv < j→(je d.fs (qq (-1) i (j:Nat))).isSome=false) (fun s9 _ _ _=>(intOf s9).toNat)
 case atStart=>exact⟨4,d,rfl,by omega,by omega,zq.refl _ _ _,HD.o,rfl,rfl,HC.o,fun j h1 I=>by omega⟩
 case round =>
  obtain⟨k,d1,rfl,ak,ah,X,hd,N,S,K,P⟩:=hrel;have V:=zf X;have F:=zf hd;have l:=zf (And.intro N S);have y:=zf K;have HN:=zf P;have M:=Env.turn af.out HW.o X HO.o;have ad:Hid (wr.cell? ⟨D,0,none⟩=some (stV t true)):=by
   have:=zw (X.keep aa.o (by decide)) 0 _ ab.o;exact this.1
  have Z:=zf M;clear X hd N S K P M
  by_cases ai:hv < k
  ·go_wp2_with fail;refine(zwk (-1) i k (by omega) wr Z.o.1).mono ?_;rintro r w1 ⟨rfl,m⟩;have aj:=zf m;have u:w1.cell? ⟨D,0,none⟩=some (stV t true):=by rw [m.cell (p:=⟨D,0,none⟩) (zx (yg HS.o) V.o.size)];exact ad.o
   go_wp2_with fail;refine(z3w O t D d1 (qq (-1) i k) w1 (by rw [l.o.1];exact hn) (by rw [l.o.1];exact HL.o) (F.o.stay (O1:=fun _=>False) (T:=[]) (.of_below m) (by simp) (by simp)) u).mono ?_;rintro r w2 ⟨v,e,rfl,q,R,L,s⟩;have A:Hid (zq O dT1 w w2):=(V.o.then_below m).trans (R.mono (fun _ h=> .inl h) (fun _ h=>h));have z:=zf L;have Q:w.heap.size≤w1.heap.size:=(V.o.then_below m).size;have G:=zf (q.weaken Q);clear m u R L Q;rcases zh5 q with ⟨b,rfl⟩ | ⟨b,g,rfl⟩
   ·have ag:zag d1=0:=by
     have:=(zpn d1).1;have I:¬ 0 < zag d1:=by simpa [bad] using b
     omega
    have E:Hid (zp4 (jb d1)):=by
     rcases zm1 y.o with ⟨-,h⟩ | ⟨h,-⟩
     ·exact h
     ·omega
    have HG:=zf (ym8 b s);clear q b s ag;rcases z7d HG.o with ⟨U,rfl⟩ | ⟨x,a,n,c,U,rfl⟩
    ·go_wp2_with fail
     go_roundw
     case rel =>
      repeat apply Exists.intro
      refine⟨⟨k - 1,jb d1,by congr 1;omega,by omega,by omega,A.o,z.o,(jf d1).trans l.o.1,(zpm d1).trans l.o.2,E.o,fun j h1 I h3=>?_⟩,rfl⟩
      by_cases hj:k < j
      ·exact HN.o j hj I h3
      ·obtain rfl:j=k:=by omega
       rw [← l.o.1,U]
       rfl
     case measure=>simp [intOf];omega
    ·have ae:Hid (wdF (je d.fs) i hv=some k):=ynt ai ah (by rw [← l.o.1,U];rfl) HN.o;go_wp2_with fail
     go_ret3
     refine⟨jb d1,k,_,_,rfl,A.o,z.o,(jf d1).trans l.o.1,(zpm d1).trans l.o.2,.inr ⟨E.o,rfl,.inr ⟨ae.o,x,by rw [← l.o.1];exact U,?_⟩⟩⟩;rcases HG.o with ⟨x',e,hb⟩ | ⟨-,e⟩
     ·rw [U] at e;obtain rfl:x=x':=by simpa using e
      exact hb
     ·simp at e
   ·have HH:Hid ((jb d1).hit=true):=by
     rcases zm1 y.o with ⟨h,-⟩ | ⟨-,h⟩
     ·rw [bad,h] at b;simp at b
     ·exact h
    rw [b] at G;obtain⟨a,n,c,rfl⟩:=zs0 s;clear q b s;go_wp2_with fail
    go_ret3
    exact⟨jb d1,k,_,_,rfl,A.o,z.o,(jf d1).trans l.o.1,(zpm d1).trans l.o.2,.inl ⟨HH.o,_,G.o⟩⟩
  ·go_wp2_with fail
   go_ret3
   exact⟨d1,0,_,_,rfl,V.o,F.o,l.o.1,l.o.2,.inr ⟨y.o,rfl,.inl ⟨ynu (fun j h1 I=>HN.o j (by omega) h1 I),rfl,rfl⟩⟩⟩
variable {ls:za}
theorem Bs.conv (h:Bs w v l):(convert 114 9 v).run prog w= .ok (.string ⟨l.toArray⟩) w:=by
 obtain⟨a,c,rfl,h⟩:=h;rcases h with rfl | ⟨b,e,rfl,f⟩
 ·cases a with
  | none=>exact run_convert_bytes_nil w _ _ underlying114 jt _ _ _ qw
  | some a=>exact zde w _ _ 5 a c [] underlying114 jt qw (fun j d=>by simp at d)
 ·refine zde w _ _ 5 ⟨b,e,none⟩ c l underlying114 jt qw (fun j d=>?_);rw [zcc];exact f j d
theorem Bss.at (h:Bss w v ls):∃ a c,v= .slice a ls.length c∧∀ j (e:j < ls.length),∃ b d,a=some ⟨b,d,none⟩∧ls.length≤c∧∃ x,w.cell? ⟨b,d+j,none⟩=some x∧Bs w x ls[j]:=by
 obtain⟨a,c,rfl,i,h⟩:=h;refine⟨a,c,rfl,fun j e=>?_⟩;rcases h with rfl | ⟨b,d,rfl,h⟩
 ·simp at e
 ·obtain⟨x,f,g⟩:=h j e;exact⟨b,d,rfl,i,x,f,g⟩
end Go.Proofs.YtlcllcgngjhoaaaGreatDoor
