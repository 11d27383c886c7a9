import Derived.Test.YtlcllcgngjhoaaaGreatDoorG06
import Derived.Lib.ItoaLen
set_option maxHeartbeats 8000000
set_option maxRecDepth 100000
set_option linter.all false
namespace Go.Proofs.YtlcllcgngjhoaaaGreatDoor
open Go.RowKit Go.Proofs.Tryz
def jp:=@Nat.pow_pos
def zat:=@Nat.pow_lt_pow_iff_right
def zcr:=@Nat.pow_le_pow_iff_right
def zfi:=@Nat.le_of_eq
def zf2:=@IntKind.wrap_i64
def zhy:=@List.dropLast_subset
def zie:=@List.drop_eq_getElem_cons
def zkv:=@List.take_take
def zvb:=@List.drop_take
variable {g:Nat}{w w':World}
theorem z0x:prog.globalNamed "internal/strconv.uint64pow10"=some 15:=by kernel_rfl
structure Env (w:World):Prop where
 tab:Lib.TabIs prog w "internal/strconv.uint64pow10" .u64 Lib.pow10Tab
 syn:∃ tp p,w.cell? ⟨8,0,none⟩=some (.iface tp p)
 rng:∃ tp p,w.cell? ⟨9,0,none⟩=some (.iface tp p)
 max:∃ m,w.cell? ⟨12,0,none⟩=some (.int .i64 m)
theorem ynr {n:String}{b:Array Value}(c:prog.globalNamed n=some g)(h:w.var? prog n=some b):g < w.heap.size:=by
 unfold World.var? at h;rw [c] at h;simp only [Option.bind_some] at h;rcases qu g w.heap.size with a | a
 ·exact a
 ·simp [zbg a] at h
theorem Env.below (h:Env w)(a:Below w.heap.size w w'):Env w':=by
 obtain⟨g,p,e⟩:=h.syn;obtain⟨b,f,d⟩:=h.rng;obtain⟨m,c⟩:=h.max;exact⟨var?_below a z0x (ynr z0x h.tab) h.tab,⟨g,p,by rw [a.cell (yg e)];exact e⟩,⟨b,f,by rw [a.cell (yg d)];exact d⟩,⟨m,by rw [a.cell (yg c)];exact c⟩⟩
theorem z6p (w:World)(k:Nat)(a:Array Obj):Below w.heap.size w (Sort.grow (w.drewN k) a) :=
 ⟨rfl,rfl,rfl,by simp [Sort.grow,World.drewN],fun j b=>by
  show(w.heap++a)[j]?=w.heap[j]?;rw [zhx b]⟩
theorem z2f (w:World)(e:TypeId)(s:ByteArray):Below w.heap.size w (Lib.bytesWorld w e s) :=
 ⟨rfl,rfl,rfl,by rw [Lib.bytesWorld_size];omega,fun j a=>Lib.bytesWorld_at_old w e s j a⟩
theorem zgl (n:Int)(h0:0≤n)(b:n≤9223372036854775807)(w:World)(E:Env w):
  Calls prog 165 #[.int .i64 n] w fun r a=>r= .returned (.string ⟨(dec n.toNat).toArray⟩)∧Below w.heap.size w a:=by
 refine(show Calls prog 165 #[.int .i64 n] w _ from Any.strconv_Itoa Tryz.laysM171 n (by omega) b w E.tab).mono ?_;rintro r a ⟨rfl,k,c,rfl⟩;refine⟨?_,z6p w k c⟩;rw [Lib.itoa,if_neg (by omega)]
 rfl
theorem ybe (l:zc)(i:l.length≤1000000000)(w:World)(E:Env w):
  Calls prog 164 #[.string ⟨l.toArray⟩] w fun r b=>∃ v e,r= .returned (.tuple #[.int .i64 v,e])∧((e= .nilIface∧v=zmk l)∨((∃ t p,e= .iface t p)∧zmk l=-1))∧Below w.heap.size w b:=by
 have f:(⟨l.toArray⟩:ByteArray).size=l.length:=rfl;cases h:Lib.atoiAll l
 ·rename_i v;refine(show Calls prog 164 #[.string ⟨l.toArray⟩] w _ from Any.strconv_Atoi_ok Tryz.laysC172 ⟨l.toArray⟩ (by omega) v h w).mono ?_;rintro r b ⟨rfl,g⟩;refine⟨v,.nilIface,rfl,.inl ⟨rfl,by unfold zmk;rw [h]⟩,?_⟩;rcases g with rfl | ⟨t,rfl⟩
  ·exact yf _ _
  ·exact z2f w _ t
 ·obtain⟨a,p,d⟩:=E.syn;refine(show Calls prog 164 #[.string ⟨l.toArray⟩] w _ from Any.strconv_Atoi_syntax Tryz.laysC172 ⟨l.toArray⟩ (by omega) h (.iface a p) w d (.inr ⟨a,p,rfl⟩)).mono ?_;rintro r b ⟨N,rfl,-,-,c⟩;exact⟨_,_,rfl,.inr ⟨⟨_,_,rfl⟩,by unfold zmk;rw [h]⟩,c⟩
 ·obtain⟨a,p,d⟩:=E.rng;refine(show Calls prog 164 #[.string ⟨l.toArray⟩] w _ from Any.strconv_Atoi_range Tryz.laysC172 ⟨l.toArray⟩ (by omega) h (.iface a p) w d (.inr ⟨a,p,rfl⟩)).mono ?_;rintro r b ⟨N,rfl,-,-,c⟩;exact⟨_,_,rfl,.inr ⟨⟨_,_,rfl⟩,by unfold zmk;rw [h]⟩,c⟩
theorem z4d (l:zc)(i:l.length≤1000000000)(w:World)(E:Env w):
  Calls prog 114 #[.string ⟨l.toArray⟩] w fun r d=>r= .returned (.int .i64 (zmk l))∧Below w.heap.size w d:=by
 have f:=zf E;clear E;go_enter func114,ntmps114;go_wp2_with fail;refine(ybe l i w f.o).mono ?_;rintro r d ⟨v,e,rfl,h,b⟩;have a:=zf b;clear b;rcases h with ⟨rfl,rfl⟩ | ⟨⟨t,p,rfl⟩,c⟩
 ·go_wp2
  go_ret;exact⟨rfl,a.o⟩
 ·have g:=zf c;clear c
  go_wp2
  go_ret;exact⟨by rw [g.o];rfl,a.o⟩
theorem zcq (n:Int)(h0:0≤n)(a:n≤9223372036854775807):(dec n.toNat).length≤21:=by
 have:=Lib.itoa_length_le n (by omega) a;rw [Lib.itoa,if_neg (by omega)] at this;exact this
theorem zh8 {a b:ByteArray}(h:a=b):Ending.returned (.string a)= .returned (.string b):=by rw [h]
theorem yh2 (l i w:Int)(a:zdh l i w)(W:World):
  Calls prog 134 #[.int .i64 l,.int .i64 i,.int .i64 w] W fun r b=>r= .returned (.string ⟨(qq l i w).toArray⟩)∧Below W.heap.size W b:=by
 rw [zzd a];unfold zdh at a;go_enter func134,ntmps134;go_wp2_with fail
 all_goals first | (go_ret;exact⟨rfl,yf _ _⟩) | (exfalso;omega)
theorem zwk (l i w:Int)(s:i≤9223372036854775807)(W:World)(E:Env W):
  Calls prog 134 #[.int .i64 l,.int .i64 i,.int .i64 w] W fun r J=>r= .returned (.string ⟨(qq l i w).toArray⟩)∧Below W.heap.size W J:=by
 by_cases v:zdh l i w
 ·exact yh2 l i w v W
 have u:=zf (zix v);have q:=v;unfold zdh at q;have K:¬ l < -1:=by omega
 have L:¬ 20 < l:=by omega
 have M:¬ i < 0:=by omega
 have N:¬ w < 1:=by omega
 have O:¬ 4 < w:=by omega
 have h:=zf E;have G:=zcq i (by omega) s;have I:=zcq w (by omega) (by omega);clear v q E
 by_cases z:l=-1
 ·subst z;have n:=zf zmf
  by_cases t:w < 4
  ·skip
   have m:Hid (zfp w=zjn++dec w.toNat):=by show _=_;unfold zfp;rw [if_pos t]
   go_enter func134,ntmps134;go_wp2_with fail;refine(zgl i (by omega) s W h.o).mono ?_;rintro r g ⟨rfl,b⟩;have a:Hid (Below W.heap.size W g):=b;clear b;generalize dec i.toNat=f at *;have y:¬ 9223372036854775807 < 8+f.length:=by omega
   go_wp2_with fail;refine(zgl w (by omega) (by omega) g (h.o.below a.o)).mono ?_;rintro r B ⟨rfl,e⟩;have k:Hid (Below W.heap.size W B):=a.o.trans (e.mono a.o.size);clear e;generalize dec w.toNat=p at *;have D:¬ 9223372036854775807 < 3+p.length:=by omega
   have F:¬ 9223372036854775807 < 8+f.length+(3+p.length):=by omega
   go_wp2_with fail;go_ret;refine⟨?_,k.o⟩;rw [u.o,n.o,m.o];exact zh8 (by unfold zri zjn;apply vd;simp)
  ·skip
   have m:Hid (zfp w=[]):=by show _=_;unfold zfp;rw [if_neg t]
   go_enter func134,ntmps134;go_wp2_with fail;refine(zgl i (by omega) s W h.o).mono ?_;rintro r g ⟨rfl,b⟩;have a:Hid (Below W.heap.size W g):=b;clear b;generalize dec i.toNat=f at *;have y:¬ 9223372036854775807 < 8+f.length:=by omega
   go_wp2_with fail;go_ret;refine⟨?_,a.o⟩;rw [u.o,n.o,m.o];exact zh8 (by unfold zri;apply vd;simp)
 ·have n:=zf (zm7 l z);have H:=zcq l (by omega) (by omega);have P:(l != -1)=true:=by rw [bne_iff_ne];exact z
  by_cases t:w < 4
  ·skip
   have m:Hid (zfp w=zjn++dec w.toNat):=by show _=_;unfold zfp;rw [if_pos t]
   go_enter func134,ntmps134;go_wp2_with fail;refine(zgl l (by omega) (by omega) W h.o).mono ?_;rintro r A ⟨rfl,d⟩;have c:=zf d;clear d;generalize dec l.toNat=j at *;have C:¬ 9223372036854775807 < 5+j.length:=by omega
   have x:¬ 9223372036854775807 < 5+j.length+1:=by omega
   go_wp2_with fail;refine(zgl i (by omega) s A (h.o.below c.o)).mono ?_;rintro r g ⟨rfl,b⟩;have a:Hid (Below W.heap.size W g):=c.o.trans (b.mono c.o.size);clear b;generalize dec i.toNat=f at *;have y:¬ 9223372036854775807 < 5+j.length+1+f.length:=by omega
   go_wp2_with fail;refine(zgl w (by omega) (by omega) g (h.o.below a.o)).mono ?_;rintro r B ⟨rfl,e⟩;have k:Hid (Below W.heap.size W B):=a.o.trans (e.mono a.o.size);clear e;generalize dec w.toNat=p at *;have D:¬ 9223372036854775807 < 3+p.length:=by omega
   have F:¬ 9223372036854775807 < 5+j.length+1+f.length+(3+p.length):=by omega
   go_wp2_with fail;go_ret;refine⟨?_,k.o⟩;rw [u.o,n.o,m.o];exact zh8 (by unfold zj5 zjn;apply vd;simp)
  ·skip
   have m:Hid (zfp w=[]):=by show _=_;unfold zfp;rw [if_neg t]
   go_enter func134,ntmps134;go_wp2_with fail;refine(zgl l (by omega) (by omega) W h.o).mono ?_;rintro r A ⟨rfl,d⟩;have c:=zf d;clear d;generalize dec l.toNat=j at *;have C:¬ 9223372036854775807 < 5+j.length:=by omega
   have x:¬ 9223372036854775807 < 5+j.length+1:=by omega
   go_wp2_with fail;refine(zgl i (by omega) s A (h.o.below c.o)).mono ?_;rintro r g ⟨rfl,b⟩;have a:Hid (Below W.heap.size W g):=c.o.trans (b.mono c.o.size);clear b;generalize dec i.toNat=f at *;have y:¬ 9223372036854775807 < 5+j.length+1+f.length:=by omega
   go_wp2_with fail;go_ret;refine⟨?_,a.o⟩;rw [u.o,n.o,m.o];exact zh8 (by unfold zj5;apply vd;simp)
theorem zek {b:Func}{t u v x:Tmp}(h:b.results=#[.tmp t,.tmp u,.tmp v,.tmp x])(a:Array Value)(P:Program)(w:World):
  (results b a).run P w= .ok (.tuple #[a.getD t undef,a.getD u undef,a.getD v undef,a.getD x undef]) w:=by
 simp [results,h]
variable {k:Nat}{l:zc}
theorem ze6 (n:Int)(h0:0≤n)(j:n≤9223372036854775807)(w:World):
  Calls prog 72 #[.int .i64 n] w fun r l=>r= .returned (.string ⟨(dec n.toNat).toArray⟩)∧Below w.heap.size w l:=by
 have i:=zf (zcq n h0 j);go_enter func72,ntmps72;go_wp2_with fail;go_loopw [0,3] (fun t u wr=>∃(m:Nat) (b:zc),t= .int .i64 m∧u= .string ⟨b.toArray⟩∧m≤9223372036854775807∧dec n.toNat=dec m++b∧Below w.heap.size w wr) (fun t _ _=>(intOf t).toNat)
 case atStart=>exact⟨n.toNat,[],by rw [show((n.toNat:Nat):Int)=n by omega],rfl,by omega,by simp,yf _ _⟩
 case round =>
  obtain⟨m,b,rfl,rfl,q,e,c⟩:=hrel;have g:=zf e;have d:=zf c;have k:b.length≤21:=by have:=i.o;rw [e,zy] at this;omega
  clear e c;have p:¬ 9223372036854775807 < 1+b.length:=by omega
  by_cases h:m < 10
  ·have f:IntKind.u8.wrap (48+(m:Int))=48+(m:Int):=by rw [zfc];omega
   have a:=zon (wr.alloc (.cells #[.int .u8 (48+(m:Int))] 5)) wr.heap.size 1 1 [UInt8.ofNat (48+m)] 5 (0,0) rfl (by rw [zg];simp [hv,bv];omega);unfold txt at a;go_wp2_with fail;go_ret;refine⟨?_,d.o.trans ((zk wr _).mono d.o.size)⟩;rw [g.o,zpk h];exact zh8 (by apply vd;simp)
  ·have f:IntKind.u8.wrap (48+(m:Int) % 10)=48+(m:Int) % 10:=by rw [zfc];omega
   have a:=zon (wr.alloc (.cells #[.int .u8 (48+(m:Int) % 10)] 5)) wr.heap.size 1 1 [UInt8.ofNat (48+m % 10)] 5 (0,0) rfl (by rw [zg];simp [hv,bv];omega);unfold txt at a;go_wp2_with fail;refine⟨⟨m / 10,UInt8.ofNat (48+m % 10)::b,by congr 1,?_,by omega,?_,d.o.trans ((zk wr _).mono d.o.size)⟩,by simp [intOf];omega⟩
   ·congr 1;apply vd;simp
   ·rw [g.o,zmc h,xt]
    rfl
theorem ygl (l:zc)(n:Nat):(⟨l.toArray⟩:ByteArray).extract 0 n=⟨(l.take n).toArray⟩:=by
 apply vd;apply Array.toList_inj.1;rw [zks,Array.toList_extract,zif];simp
theorem zvx (l:zc)(n m:Nat)(h:l.length=m):(⟨l.toArray⟩:ByteArray).extract n m=⟨(l.drop n).toArray⟩:=by
 apply vd;apply Array.toList_inj.1;rw [zks,Array.toList_extract,zif];simp only [];rw [ja (by simp;omega)]
theorem z6o (l p:zc)(w:World):
  Calls prog 88 #[.string ⟨l.toArray⟩,.string ⟨p.toArray⟩] w fun r e=>r= .returned (.tuple #[.string ⟨(zrg l p).1.toArray⟩,.bool (zrg l p).2])∧Below w.heap.size w e:=by
 by_cases h:l.length < p.length
 ·have b:zrg l p=(l,false):=by
   unfold zrg;rw [if_neg];rw [zev];intro a;have:=a.length_le;omega
  rw [b];have d:(l.length:Int) < (p.length:Int):=by omega
  go_enter func88,ntmps88;go_wp2_with fail
  go_ret2
  exact⟨rfl,yf _ _⟩
 ·have d:¬(l.length:Int) < (p.length:Int):=by omega
  have g:=ygl l p.length;have i:=zvx l p.length l.length rfl
  by_cases a:l.take p.length=p
  ·have b:zrg l p=(l.drop p.length,true):=by
    unfold zrg;rw [if_pos];rw [zev,List.prefix_iff_eq_take];exact a.symm
   have c:(l.take p.length==p)=true:=by rw [zfu];exact a
   have f:=zf a;clear a;rw [b];go_enter func88,ntmps88;go_wp2_with fail
   go_ret2
   exact⟨rfl,yf _ _⟩
  ·have b:zrg l p=(l,false):=by
    unfold zrg;rw [if_neg];rw [zev,List.prefix_iff_eq_take];exact fun h=>a h.symm
   have c:(l.take p.length==p)=false:=by rw [yk];exact a
   clear a;rw [b];go_enter func88,ntmps88;go_wp2_with fail
   go_ret2
   exact⟨rfl,yf _ _⟩
theorem zzl {n:Nat}(h:zk6 0 l=zk6 n (l.drop k))(a:zzj (l.drop k))(b:k≤l.length):zp7 l=(n,l.drop k,decide (0 < k)):=by
 unfold zp7;rw [h,zzk n _ a];simp only [];congr 2;rw [zib,decide_eq_decide];omega
theorem yc8 (h:zk6 0 l=none):zp7 l=(0,l,false):=by
 unfold zp7;rw [h]
theorem zzw {a b:Value}{p q:Bool}(h:p=q):Ending.returned (.tuple #[a,b,.bool p])= .returned (.tuple #[a,b,.bool q]):=by rw [h]
theorem zyc (l:zc)(D:l.length≤1000000000)(w:World):
  Calls prog 89 #[.string ⟨l.toArray⟩] w fun r B=>r= .returned (.tuple #[.int .i64 ((zp7 l).1:Int),.string ⟨(zp7 l).2.1.toArray⟩,.bool (zp7 l).2.2])∧Below w.heap.size w B:=by
 go_enter func89,ntmps89;go_wp2_with fail;go_loopw [5,6] (fun t u wr=>∃ n k:Nat,t= .int .i64 n∧u= .int .i64 k∧k≤l.length∧n≤9223372036854775807∧zk6 0 l=zk6 n (l.drop k)∧wr=w) (fun _ u _=>l.length - (intOf u).toNat)
 case atStart=>exact⟨0,0,rfl,rfl,yv _,by omega,by simp,rfl⟩
 case round =>
  obtain⟨n,k,rfl,rfl,p,E,b,rfl⟩:=hrel;have h:=zf b;clear b
  by_cases f:k < l.length
  ·have e:l.drop k=l[k]::l.drop (k+1):=zie f;have j:=zf e;have C:=(l[k]).toNat_lt;have v:(⟨l.toArray⟩:ByteArray)[k]'(by show k < l.toArray.size;simpa using f)=l[k]:=by show l.toArray[k]=_;simp
   clear e
   by_cases a:48≤l[k].toNat∧l[k].toNat≤57
   ·obtain⟨d1,d2⟩:=a;have m:Hid (zk6 n (l.drop k)=if (9223372036854775807 - (l[k].toNat - 48)) / 10 < n then none else zk6 (10*n+(l[k].toNat - 48)) (l.drop (k+1))):=by
     show _=_;rw [j.o,zk6,if_pos ⟨d1,d2⟩]
    generalize l[k]=c at *;have z:IntKind.u8.wrap ((c.toNat:Int) - 48)=(c.toNat:Int) - 48:=by rw [zfc];omega
    by_cases g:(9223372036854775807 - (c.toNat - 48)) / 10 < n
    ·have A:(9223372036854775807 - ((c.toNat:Int) - 48)) / 10 < (n:Int):=by omega
     have d:=zf (yc8 (by rw [h.o,m.o,if_pos g]:zk6 0 l=none));go_wp2_with fail
     go_ret3
     exact⟨by rw [d.o];rfl,yf _ _⟩
    ·have A:¬(9223372036854775807 - ((c.toNat:Int) - 48)) / 10 < (n:Int):=by omega
     have q:Hid (zk6 0 l=zk6 (10*n+(c.toNat - 48)) (l.drop (k+1))):=by
      show _=_;rw [h.o,m.o,if_neg g]
     have x:IntKind.i64.wrap (10*(n:Int)+((c.toNat:Int) - 48))=10*(n:Int)+((c.toNat:Int) - 48):=by rw [zf2];omega
     have y:IntKind.i64.wrap (10*(n:Int))=10*(n:Int):=by rw [zf2];omega
     go_wp2_with fail;refine⟨⟨10*n+(c.toNat - 48),k+1,by congr 1;omega,by go_num,by omega,by omega,q.o,trivial⟩,by simp [intOf];omega⟩
   ·have d:=zf (zzl h.o (by rw [j.o];exact a) p);have s:=zvx l k l.length rfl;generalize l[k]=c at *;go_wp2_with fail
    all_goals go_region
    all_goals go_wp2_with fail
    all_goals go_ret3
    all_goals exact⟨by rw [d.o];exact zzw (by simp),(yf _ _).drew⟩
  ·have i:k=l.length:=by omega
   have d:=zf (zzl h.o (by rw [List.drop_of_length_le (by omega)];trivial) p);have s:=zvx l k l.length rfl;clear i;go_wp2_with fail
   all_goals go_region
   all_goals go_wp2_with fail
   all_goals go_ret3
   all_goals exact⟨by rw [d.o];exact zzw (by first | rfl | simp | (rw [decide_eq_decide];omega)),(yf _ _).drew⟩
def zbe (z:zc):Nat→zc→Nat→Nat→za→zc×Bool
 | 0,_,_,_,_=>(z,false)
 | f+1,a,i,n,ps =>
  if n=1 then (a,decide (ps.length=0))
  else if ps.length=0 then (z,false)
  else if i < yo n then (jx (zbe z f a i (yo n) ps.dropLast).1 (ps.getLastD []),(zbe z f a i (yo n) ps.dropLast).2)
  else (jx (ps.getLastD []) (zbe z f a (i - yo n) (n - yo n) ps.dropLast).1,(zbe z f a (i - yo n) (n - yo n) ps.dropLast).2)
theorem zlb (z a:zc)(f i:Nat)(ps:za):zbe z (f+1) a i 1 ps=(a,decide (ps.length=0)):=by
 rw [zbe,if_pos rfl]
theorem zkn (z a:zc)(f i n:Nat)(ps:za)(h:n≠1)(h0:ps.length=0):zbe z (f+1) a i n ps=(z,false):=by
 rw [zbe,if_neg h,if_pos h0]
theorem ziz (z a:zc)(f i n:Nat)(ps:za)(h:n≠1)(h0:ps.length≠0)(b:i < yo n):zbe z (f+1) a i n ps=(jx (zbe z f a i (yo n) ps.dropLast).1 (ps.getLastD []),(zbe z f a i (yo n) ps.dropLast).2):=by
 rw [zbe,if_neg h,if_neg h0,if_pos b]
theorem zhj (z a:zc)(f i n:Nat)(ps:za)(h:n≠1)(h0:ps.length≠0)(b:¬ i < yo n):zbe z (f+1) a i n ps=(jx (ps.getLastD []) (zbe z f a (i - yo n) (n - yo n) ps.dropLast).1,(zbe z f a (i - yo n) (n - yo n) ps.dropLast).2):=by
 rw [zbe,if_neg h,if_neg h0,if_neg b]
theorem z8l (z e a:zc)(f:Nat):∀(i n:Nat) (ps:za),(zbe z f a i n ps).2=(zbe e f a i n ps).2∧((zbe z f a i n ps).2=true→(zbe z f a i n ps).1=(zbe e f a i n ps).1):=by
 induction f with
 | zero=>intro i n ps;simp [zbe]
 | succ f d =>
  intro i n ps
  by_cases b:n=1
  ·subst b;rw [zlb,zlb];simp
  by_cases h0:ps.length=0
  ·rw [zkn _ _ _ _ _ _ b h0,zkn _ _ _ _ _ _ b h0];simp
  by_cases c:i < yo n
  ·rw [ziz _ _ _ _ _ _ b h0 c,ziz _ _ _ _ _ _ b h0 c];have:=d i (yo n) ps.dropLast;exact⟨this.1,fun h=>by simp only;rw [this.2 h]⟩
  ·rw [zhj _ _ _ _ _ _ b h0 c,zhj _ _ _ _ _ _ b h0 c];have:=d (i - yo n) (n - yo n) ps.dropLast;exact⟨this.1,fun h=>by simp only;rw [this.2 h]⟩
theorem z4v (z a:zc)(d:z.length≤8)(e:a.length≤8)(f i n:Nat)(ps:za):(zbe z f a i n ps).1.length≤8:=by
 cases f with
 | zero=>exact d
 | succ f =>
  by_cases b:n=1
  ·subst b;rw [zlb];exact e
  by_cases h0:ps.length=0
  ·rw [zkn _ _ _ _ _ _ b h0];exact d
  by_cases c:i < yo n
  ·rw [ziz _ _ _ _ _ _ b h0 c];exact zfi (vb _ _)
  ·rw [zhj _ _ _ _ _ _ b h0 c];exact zfi (vb _ _)
theorem ztk (z a:zc)(d:z.length=8)(e:a.length=8)(f i n:Nat)(ps:za):(zbe z f a i n ps).1.length=8:=by
 cases f with
 | zero=>exact d
 | succ f =>
  by_cases b:n=1
  ·subst b;rw [zlb];exact e
  by_cases h0:ps.length=0
  ·rw [zkn _ _ _ _ _ _ b h0];exact d
  by_cases c:i < yo n
  ·rw [ziz _ _ _ _ _ _ b h0 c];exact vb _ _
  ·rw [zhj _ _ _ _ _ _ b h0 c];exact vb _ _
theorem zdk {α:Type}(l:List α)(m:Nat)(h:l.length=m+1)(d:α):l.getLastD d=l[m]∧l.dropLast=l.take m:=by
 refine⟨?_,?_⟩
 ·rw [List.getLastD_eq_getLast?,List.getLast?_eq_getElem?,show l.length - 1=m by omega,zt (by omega)];rfl
 ·rw [List.dropLast_eq_take,h,Nat.add_sub_cancel]
section
def j2 (z a:zc):Nat→Nat→Nat→za→Bool→zc×zc×Bool
 | 0,_,_,_,_=>(z,z,false)
 | f+1,m,n,ps,whole =>
  if m=n then (if whole=true then (a,a,decide (ps.length=0)) else if ps.length=1 then (ps.headD [],ps.headD [],true) else (z,z,false))
  else if ps.length=0 then (z,z,false)
  else if m≤yo n then ((j2 z a f m (yo n) ps.dropLast whole).1,jx (j2 z a f m (yo n) ps.dropLast whole).2.1 (ps.getLastD []),(j2 z a f m (yo n) ps.dropLast whole).2.2)
  else (jx (ps.getLastD []) (j2 z a f (m - yo n) (n - yo n) ps.dropLast false).1,jx (ps.getLastD []) (j2 z a f (m - yo n) (n - yo n) ps.dropLast false).2.1,(j2 z a f (m - yo n) (n - yo n) ps.dropLast false).2.2)
variable (z a : zc) (f m n : Nat) (ps : za) (whole : Bool)
theorem zhl:j2 z a (f+1) n n ps true=(a,a,decide (ps.length=0)):=by
 rw [j2,if_pos rfl,if_pos rfl]
theorem zi3 (h:ps.length=1):j2 z a (f+1) n n ps false=(ps.headD [],ps.headD [],true):=by
 rw [j2,if_pos rfl,if_neg (by simp),if_pos h]
theorem zmn (h:ps.length≠1):j2 z a (f+1) n n ps false=(z,z,false):=by
 rw [j2,if_pos rfl,if_neg (by simp),if_neg h]
theorem zkp (b:m≠n)(h:ps.length=0):j2 z a (f+1) m n ps whole=(z,z,false):=by
 rw [j2,if_neg b,if_pos h]
theorem zi2 (c:m≠n)(h:ps.length≠0)(b:m≤yo n):j2 z a (f+1) m n ps whole=((j2 z a f m (yo n) ps.dropLast whole).1,jx (j2 z a f m (yo n) ps.dropLast whole).2.1 (ps.getLastD []),(j2 z a f m (yo n) ps.dropLast whole).2.2):=by
 rw [j2,if_neg c,if_neg h,if_pos b]
theorem zhk (c:m≠n)(h:ps.length≠0)(b:¬ m≤yo n):j2 z a (f+1) m n ps whole=(jx (ps.getLastD []) (j2 z a f (m - yo n) (n - yo n) ps.dropLast false).1,jx (ps.getLastD []) (j2 z a f (m - yo n) (n - yo n) ps.dropLast false).2.1,(j2 z a f (m - yo n) (n - yo n) ps.dropLast false).2.2):=by
 rw [j2,if_neg c,if_neg h,if_neg b]
theorem z86 (z e a:zc)(f:Nat):∀(m n:Nat) (ps:za) (whole:Bool),(j2 z a f m n ps whole).2.2=(j2 e a f m n ps whole).2.2∧((j2 z a f m n ps whole).2.2=true→j2 z a f m n ps whole=j2 e a f m n ps whole):=by
 induction f with
 | zero=>intro m n ps whole;simp [j2]
 | succ f d =>
  intro m n ps whole
  by_cases b:m=n
  ·subst b;cases whole with
   | true=>rw [zhl,zhl];simp
   | false =>
    by_cases h:ps.length=1
    ·rw [zi3 _ _ _ _ _ h,zi3 _ _ _ _ _ h];simp
    ·rw [zmn _ _ _ _ _ h,zmn _ _ _ _ _ h];simp
  by_cases h0:ps.length=0
  ·rw [zkp _ _ _ _ _ _ _ b h0,zkp _ _ _ _ _ _ _ b h0];simp
  by_cases c:m≤yo n
  ·rw [zi2 _ _ _ _ _ _ _ b h0 c,zi2 _ _ _ _ _ _ _ b h0 c];have:=d m (yo n) ps.dropLast whole;exact⟨this.1,fun h=>by rw [this.2 h]⟩
  ·rw [zhk _ _ _ _ _ _ _ b h0 c,zhk _ _ _ _ _ _ _ b h0 c];have:=d (m - yo n) (n - yo n) ps.dropLast false;exact⟨this.1,fun h=>by rw [this.2 h]⟩
theorem z3h (ps:za)(h:ps.length=1)(a:∀ p∈ps,p.length=8):(ps.headD []).length=8:=by
 match ps,h with
 | [p],_=>exact a p (by simp)
theorem zpz (z a:zc)(b:z.length=8)(g:a.length=8)(f:Nat):∀(m n:Nat) (ps:za) (whole:Bool),(∀ p∈ps,p.length=8)→(j2 z a f m n ps whole).1.length=8∧(j2 z a f m n ps whole).2.1.length=8:=by
 induction f with
 | zero=>exact fun m n ps whole _=>⟨b,b⟩
 | succ f k =>
  intro m n ps whole d;have e:∀ p∈ps.dropLast,p.length=8:=fun p j=>d p (zhy _ j)
  by_cases c:m=n
  ·subst c;cases whole with
   | true=>rw [zhl];exact⟨g,g⟩
   | false =>
    by_cases h:ps.length=1
    ·rw [zi3 _ _ _ _ _ h];exact⟨z3h ps h d,z3h ps h d⟩
    ·rw [zmn _ _ _ _ _ h];exact⟨b,b⟩
  by_cases h0:ps.length=0
  ·rw [zkp _ _ _ _ _ _ _ c h0];exact⟨b,b⟩
  by_cases i:m≤yo n
  ·rw [zi2 _ _ _ _ _ _ _ c h0 i];exact⟨(k m (yo n) ps.dropLast whole e).1,vb _ _⟩
  ·rw [zhk _ _ _ _ _ _ _ c h0 i];exact⟨vb _ _,vb _ _⟩
theorem yag (ps:za)(h:ps.length=1)(a:∀ p∈ps,p.length≤8):(ps.headD []).length≤8:=by
 match ps,h with
 | [p],_=>exact a p (by simp)
theorem z5e (z a:zc)(b:z.length≤8)(g:a.length≤8)(f:Nat):∀(m n:Nat) (ps:za) (whole:Bool),(∀ p∈ps,p.length≤8)→(j2 z a f m n ps whole).1.length≤8∧(j2 z a f m n ps whole).2.1.length≤8:=by
 induction f with
 | zero=>exact fun m n ps whole _=>⟨b,b⟩
 | succ f k =>
  intro m n ps whole d;have e:∀ p∈ps.dropLast,p.length≤8:=fun p j=>d p (zhy _ j)
  by_cases c:m=n
  ·subst c;cases whole with
   | true=>rw [zhl];exact⟨g,g⟩
   | false =>
    by_cases h:ps.length=1
    ·rw [zi3 _ _ _ _ _ h];exact⟨yag ps h d,yag ps h d⟩
    ·rw [zmn _ _ _ _ _ h];exact⟨b,b⟩
  by_cases h0:ps.length=0
  ·rw [zkp _ _ _ _ _ _ _ c h0];exact⟨b,b⟩
  by_cases i:m≤yo n
  ·rw [zi2 _ _ _ _ _ _ _ c h0 i];exact⟨(k m (yo n) ps.dropLast whole e).1,zfi (vb _ _)⟩
  ·rw [zhk _ _ _ _ _ _ _ c h0 i];exact⟨zfi (vb _ _),zfi (vb _ _)⟩
end
def ze3:Nat→za→Nat→za
 | 0,_,_=>[]
 | f+1,a,i =>
  if a.length≤1 then []
  else if i < yo a.length then ze3 f (a.take (yo a.length)) i++[zaf f (a.drop (yo a.length))]
  else ze3 f (a.drop (yo a.length)) (i - yo a.length)++[zaf f (a.take (yo a.length))]
theorem zkk (f:Nat)(a:za)(i:Nat)(h:a.length≤1):ze3 f a i=[]:=by
 cases f with
 | zero=>rfl
 | succ f=>rw [ze3,if_pos h]
theorem zk8 (f:Nat)(a:za)(i:Nat)(h:2≤a.length)(b:i < yo a.length):ze3 (f+1) a i=ze3 f (a.take (yo a.length)) i++[zaf f (a.drop (yo a.length))]:=by
 rw [ze3,if_neg (by omega),if_pos b]
theorem zjo (f:Nat)(a:za)(i:Nat)(h:2≤a.length)(b:¬ i < yo a.length):ze3 (f+1) a i=ze3 f (a.drop (yo a.length)) (i - yo a.length)++[zaf f (a.take (yo a.length))]:=by
 rw [ze3,if_neg (by omega),if_neg b]
theorem zt4 (f:Nat):∀(a:za) (i:Nat),(ze3 f a i).length≤f:=by
 induction f with
 | zero=>intro a i;simp [ze3]
 | succ f c =>
  intro a i
  by_cases d:a.length≤1
  ·rw [zkk _ _ _ d];simp
  by_cases b:i < yo a.length
  ·rw [zk8 _ _ _ (by omega) b];have:=c (a.take (yo a.length)) i;simp;omega
  ·rw [zjo _ _ _ (by omega) b];have:=c (a.drop (yo a.length)) (i - yo a.length);simp;omega
def zpa:Nat→Nat→za→Bool→za
 | 0,_,_,_=>[]
 | f+1,m,a,whole =>
  if m=a.length then (if whole=true then [] else [zaf (f+1) a])
  else if m≤yo a.length then zpa f m (a.take (yo a.length)) whole++[zaf f (a.drop (yo a.length))]
  else zpa f (m - yo a.length) (a.drop (yo a.length)) false++[zaf f (a.take (yo a.length))]
theorem znd (f:Nat)(a:za):zpa (f+1) a.length a true=[]:=by
 rw [zpa,if_pos rfl,if_pos rfl]
theorem zr5 (f:Nat)(a:za):zpa (f+1) a.length a false=[zaf (f+1) a]:=by
 rw [zpa,if_pos rfl,if_neg (by simp)]
theorem ztj (f m:Nat)(a:za)(whole:Bool)(h:m≠a.length)(b:m≤yo a.length):zpa (f+1) m a whole=zpa f m (a.take (yo a.length)) whole++[zaf f (a.drop (yo a.length))]:=by
 rw [zpa,if_neg h,if_pos b]
theorem zq5 (f m:Nat)(a:za)(whole:Bool)(h:m≠a.length)(b:¬ m≤yo a.length):zpa (f+1) m a whole=zpa f (m - yo a.length) (a.drop (yo a.length)) false++[zaf f (a.take (yo a.length))]:=by
 rw [zpa,if_neg h,if_neg b]
def qm (l:za):zc:=zaf l.length l
theorem zsa (l:za):(qm l).length=8:=zbv _ _
theorem zep:∀(f g:Nat) (l:za),l.length≤f→l.length≤g→zaf f l=zaf g l:=by
 intro f
 induction f with
 | zero =>
  intro g l d _;rw [ze1 0 l (by omega),ze1 g l (by omega)]
 | succ f b =>
  intro g l d e
  by_cases h0:l.length=0
  ·rw [ze1 _ l h0,ze1 _ l h0]
  ·obtain⟨g,rfl⟩:∃ c,g=c+1:=⟨g - 1,by omega⟩
   by_cases a:l.length=1
   ·rw [zi0 f l a,zi0 g l a]
   ·obtain⟨h,i,j⟩:=vz l.length (by omega);rw [zdl f l (by omega),zdl g l (by omega),b g (l.take (yo l.length)) (by simp;omega) (by simp;omega),b g (l.drop (yo l.length)) (by simp;omega) (by simp;omega)]
theorem zub (l:za)(h:2≤l.length):qm l=jx (qm (l.take (yo l.length))) (qm (l.drop (yo l.length))):=by
 obtain⟨b,c,d⟩:=vz l.length h;unfold qm;obtain⟨f,a⟩:∃ f,l.length=f+1:=⟨l.length - 1,by omega⟩;rw [a,zdl f l h,← a];rw [zep f (l.take (yo l.length)).length (l.take (yo l.length)) (by simp;omega) (zm _),zep f (l.drop (yo l.length)).length (l.drop (yo l.length)) (by simp;omega) (zm _)]
theorem zus (p:Nat):yo (2 ^ (p+1))=2 ^ p:=by
 obtain⟨c,d,e⟩:=vz (2 ^ (p+1)) (by rw [qy];have:0 < 2 ^ p:=jp (by omega);omega);unfold yo at *;generalize (2 ^ (p+1) - 1).log2=q at *;have a:q < p+1:=(zat (by omega:1 < 2)).1 c;have b:p+1≤q+1:=(zcr (by omega:1 < 2)).1 (by rw [qy 2 q];omega);congr 1;omega
theorem yea (e:zc):qm [e]=zae e:=rfl
def run (es:za)(s:Nat×Nat):za:=(es.drop s.1).take s.2
theorem zje (es:za)(a n:Nat)(h:a+n≤es.length):(run es (a,n)).length=n:=by simp [run];omega
theorem zmp (es:za)(a n k:Nat)(h:k≤n):(run es (a,n)).take k=run es (a,k):=by
 simp only [run,zkv];congr 1;omega
theorem zmo (es:za)(a n k:Nat):(run es (a,n)).drop k=run es (a+k,n - k):=by
 simp only [run,zvb,List.drop_drop]
def qz:Nat→Nat→Nat→Nat→List (Nat×Nat)
 | 0,_,_,_=>[]
 | f+1,a,n,i =>
  if n≤1 then []
  else if i < a+yo n then qz f a (yo n) i++[(a+yo n,n - yo n)]
  else qz f (a+yo n) (n - yo n) i++[(a,yo n)]
def qk:Nat→Nat→Nat→Nat→Bool→List (Nat×Nat)
 | 0,m,a,n,whole=>if m=a+n then (if whole=true then [] else [(a,n)]) else []
 | f+1,m,a,n,whole =>
  if m=a+n then (if whole=true then [] else [(a,n)])
  else if m≤a+yo n then qk f m a (yo n) whole++[(a+yo n,n - yo n)]
  else qk f m (a+yo n) (n - yo n) false++[(a,yo n)]
theorem zkl (f a n i:Nat)(h:n≤1):qz f a n i=[]:=by
 cases f with
 | zero=>rfl
 | succ f=>rw [qz,if_pos h]
theorem ziy (f a n i:Nat)(h:2≤n)(b:i < a+yo n):qz (f+1) a n i=qz f a (yo n) i++[(a+yo n,n - yo n)]:=by
 rw [qz,if_neg (by omega),if_pos b]
theorem zht (f a n i:Nat)(h:2≤n)(b:¬ i < a+yo n):qz (f+1) a n i=qz f (a+yo n) (n - yo n) i++[(a,yo n)]:=by
 rw [qz,if_neg (by omega),if_neg b]
theorem zef (f m a n:Nat)(whole:Bool)(h:m=a+n):qk f m a n whole=if whole=true then [] else [(a,n)]:=by
 cases f with
 | zero=>rw [qk,if_pos h]
 | succ f=>rw [qk,if_pos h]
theorem zge (f m a n:Nat)(whole:Bool)(h:m≠a+n)(b:m≤a+yo n):qk (f+1) m a n whole=qk f m a (yo n) whole++[(a+yo n,n - yo n)]:=by
 rw [qk,if_neg h,if_pos b]
theorem zgf (f m a n:Nat)(whole:Bool)(h:m≠a+n)(b:¬ m≤a+yo n):qk (f+1) m a n whole=qk f m (a+yo n) (n - yo n) false++[(a,yo n)]:=by
 rw [qk,if_neg h,if_neg b]
theorem zcx (f:Nat):∀ a n i,(qz f a n i).length≤f:=by
 induction f with
 | zero=>intro a n i;simp [qz]
 | succ f c =>
  intro a n i
  by_cases h:n≤1
  ·rw [zkl _ _ _ _ h];simp
  by_cases b:i < a+yo n
  ·rw [ziy f a n i (by omega) b];have:=c a (yo n) i;simp;omega
  ·rw [zht f a n i (by omega) b];have:=c (a+yo n) (n - yo n) i;simp;omega
theorem zdd (f:Nat):∀ m a n whole,(qk f m a n whole).length≤f+1:=by
 induction f with
 | zero =>
  intro m a n whole
  by_cases h:m=a+n
  ·rw [zef _ _ _ _ _ h];split<;>simp
  ·rw [qk,if_neg h];simp
 | succ f c =>
  intro m a n whole
  by_cases h:m=a+n
  ·rw [zef _ _ _ _ _ h];split<;>simp
  by_cases b:m≤a+yo n
  ·rw [zge f m a n whole h b];have:=c m a (yo n) whole;simp;omega
  ·rw [zgf f m a n whole h b];have:=c m (a+yo n) (n - yo n) false;simp;omega
theorem zaw (n f:Nat)(a:2≤n)(h:n≤2 ^ (f+1)):yo n≤2 ^ f∧n - yo n≤2 ^ f∧1≤yo n∧1≤n - yo n∧yo n < n∧n≤2*yo n:=by
 obtain⟨b,d,e⟩:=vz n a;have c:yo n≤2 ^ f:=by
  unfold yo at *;refine js (by omega) ?_;have:(n - 1).log2 < f+1:=(zat (by omega:1 < 2)).1 (zx b h);omega
 omega
theorem z4k (es:za):∀(f g a n i:Nat),n≤2 ^ f→n≤g→a+n≤es.length→a≤i→i < a+n→ze3 g (run es (a,n)) (i - a)=(qz f a n i).map (fun s=>qm (run es s)):=by
 intro f
 induction f with
 | zero =>
  intro g a n i h q e j p;have b:=zje es a n e;have c:n≤1:=by simpa using h
  rw [zkk _ _ _ (by omega)];rfl
 | succ f k =>
  intro g a n i h q e j p;have b:=zje es a n e
  by_cases c:n≤1
  ·rw [zkk _ _ _ (by omega),zkl _ _ _ _ c];rfl
  obtain⟨g,rfl⟩:∃ o,g=o+1:=⟨g - 1,by omega⟩;obtain⟨l,m,r,t,u,v⟩:=zaw n f (by omega) h;have w:=zje es a (yo n) (by omega);have x:=zje es (a+yo n) (n - yo n) (by omega)
  by_cases d:i < a+yo n
  ·rw [ziy f a n i (by omega) d,zk8 g _ _ (by omega) (by rw [b];omega),b,zmp es a n _ (by omega),zmo,k g a (yo n) i l (by omega) (by omega) j d,yy];congr 2;exact zep _ _ _ (by omega) (zm _)
  ·rw [zht f a n i (by omega) d,zjo g _ _ (by omega) (by rw [b];omega),b,zmp es a n _ (by omega),zmo,show i - a - yo n=i - (a+yo n) by omega,k g (a+yo n) (n - yo n) i m (by omega) (by omega) (by omega) (by omega),yy];congr 2;exact zep _ _ _ (by omega) (zm _)
theorem z4j (es:za):∀(f g m a n:Nat) (whole:Bool),n≤2 ^ f→n≤g→a+n≤es.length→a < m→m≤a+n→zpa g (m - a) (run es (a,n)) whole=(qk f m a n whole).map (fun s=>qm (run es s)):=by
 intro f
 induction f with
 | zero =>
  intro g m a n whole h q e j p;have b:=zje es a n e;have r:n≤1:=by simpa using h
  obtain⟨g,rfl⟩:∃ c,g=c+1:=⟨g - 1,by omega⟩;rw [zef 0 m a n whole (by omega),show m - a=(run es (a,n)).length by omega];cases whole with
  | true=>rw [znd];rfl
  | false=>rw [zr5];simp [qm];exact zep _ _ _ (by omega) (zm _)
 | succ f k =>
  intro g m a n whole h q e j p;have b:=zje es a n e;obtain⟨g,rfl⟩:∃ c,g=c+1:=⟨g - 1,by omega⟩
  by_cases i:m=a+n
  ·rw [zef _ m a n whole i,show m - a=(run es (a,n)).length by omega];cases whole with
   | true=>rw [znd];rfl
   | false=>rw [zr5];simp [qm];exact zep _ _ _ (by omega) (zm _)
  obtain⟨l,o,t,u,v,w⟩:=zaw n f (by omega) h;have x:=zje es a (yo n) (by omega);have y:=zje es (a+yo n) (n - yo n) (by omega)
  by_cases d:m≤a+yo n
  ·rw [zge f m a n whole i d,ztj g _ _ _ (by omega) (by rw [b];omega),b,zmp es a n _ (by omega),zmo,k g m a (yo n) whole l (by omega) (by omega) j d,yy];congr 2;exact zep _ _ _ (by omega) (zm _)
  ·rw [zgf f m a n whole i d,zq5 g _ _ _ (by omega) (by rw [b];omega),b,zmp es a n _ (by omega),zmo,show m - a - yo n=m - (a+yo n) by omega,k g m (a+yo n) (n - yo n) false o (by omega) (by omega) (by omega) (by omega),yy];congr 2;exact zep _ _ _ (by omega) (zm _)
end Go.Proofs.YtlcllcgngjhoaaaGreatDoor
