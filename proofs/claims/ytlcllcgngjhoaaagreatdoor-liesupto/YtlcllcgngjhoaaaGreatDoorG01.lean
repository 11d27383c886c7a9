import Derived.WalkSpells
import Derived.OpenShut
import Derived.Test.YtlcllcgngjhoaaaGreatDoorRows
import Derived.WalkLawsBesides
import Derived.BigQuiet
import Derived.Laws.CopyOwn
import Derived.Deep.WholeRow
import Derived.Deep.MidRow
set_option maxHeartbeats 8000000
set_option maxRecDepth 100000
set_option linter.all false
namespace Go.Proofs.YtlcllcgngjhoaaaGreatDoor
open Go.RowKit Go.Proofs.Tryz
def zm:=@Nat.le_refl
def zr:=@Option.some.injEq
def zu:=@Nat.le_trans
def zx:=@Nat.lt_of_lt_of_le
def zz:=@Option.map_eq_some_iff
def yd:=@List.getElem_mem
def yf:=@Below.refl
def yl:=@List.mem_map
def yv:=@Nat.zero_le
def y9:=@List.length_cons
def qu:=@Nat.lt_or_ge
def qy:=@Nat.pow_succ
def jr:=@List.mem_cons
def ve:=@List.map_cons
def vk:=@Nat.le_succ
def vv:=@List.getElem_take
def vw:=@Obj.cells.injEq
def zak:=@List.cons_append
def zao:=@List.nodup_append
def zas:=@Bool.false_eq_true
def zbg:=@Array.getElem?_eq_none
def zbj:=@List.nodup_cons
def zbr:=@Bool.and_eq_true
def zbw:=@Value.slice.injEq
def zb7:=@World.cell?_of_block
def zcd:=@List.all_eq_true
def zcn:=@List.getElem_drop
def zco:=@Array.getElem?_toList
def zc0:=@List.mem_cons_of_mem
def zdi:=@run_loadVar_row
def zd1:=@Nat.mul_le_mul_right
def zd3:=@if_false
def zed:=@Nat.not_lt_zero
def zes:=@Nat.add_assoc
def zew:=@List.mem_range
def zf3:=@List.not_mem_nil
def zf5:=@Tryz.underlying3
def zgw:=@Nat.one_le_two_pow
def zhb:=@Addr.mk.injEq
def zhs:=@of_decide_eq_true
def zhz:=@below_drewN
def zjy:=@UInt8.toNat_ofNat'
def zku:=@List.map_nil
def zoa:=@List.set_cons_succ
def zoc:=@Nat.eq_zero_or_pos
def zp5:=@List.pairwise_iff_getElem
def zqf:=@Result.andThen_ok
def zre:=@List.ext_getElem
def zyj:=@Bool.true_and
def z14:=@List.foldl_append
def z4f:=@or_false
def yba:=@Option.map_some
theorem _root_.Go.RowKit.Hid.o {p:Prop}(h:Go.RowKit.Hid p):p:=h
abbrev za:=List (List UInt8)
abbrev zc:=List UInt8
abbrev ze (w w':World):Prop:=Below w.heap.size w w'
variable {b cap off:Nat}{l:zc}{ls:za}{v:Value}{w w':World}
def st (m z:Int):Int:=IntKind.u64.wrap (bits BinOp.xor IntKind.u64 m z*1099511628211)
def fnv (n:Int)(l:zc):Int:=l.foldl (fun m b=>st m b.toNat) n
def zta (n:Int):zc :=
 [UInt8.ofNat (n / 72057594037927936 % 256).toNat,UInt8.ofNat (n / 281474976710656 % 256).toNat,UInt8.ofNat (n / 1099511627776 % 256).toNat,UInt8.ofNat (n / 4294967296 % 256).toNat,
  UInt8.ofNat (n / 16777216 % 256).toNat,UInt8.ofNat (n / 65536 % 256).toNat,UInt8.ofNat (n / 256 % 256).toNat,UInt8.ofNat (n % 256).toNat]
def zdb:Int:=14695981039346656037
def hash (l:zc):zc:=zta (fnv zdb l)
def zae (e:zc):zc:=hash (0::e)
def jx (a b:zc):zc:=hash (1::(a++b))
def yo (n:Nat):Nat:=2 ^ (n - 1).log2
def bv (b:UInt8):Value:= .int .u8 b.toNat
def hv (l:zc):Array Value:=(l.map bv).toArray
theorem z5m (m z:Int):0≤st m z∧st m z≤18446744073709551615:=by
 have h:=wf_wrap IntKind.u64 (bits BinOp.xor IntKind.u64 m z*1099511628211);exact bounds_u64 h
theorem zsz (n:Int)(l:zc)(h0:0≤n)(a:n≤18446744073709551615):0≤fnv n l∧fnv n l≤18446744073709551615:=by
 induction l generalizing n with
 | nil=>exact⟨h0,a⟩
 | cons b l c=>exact c _ (z5m n b.toNat).1 (z5m n b.toNat).2
theorem zv2 (n:Int)(a b:zc):fnv n (a++b)=fnv (fnv n a) b:=z14
theorem ygy (n:Int)(a:zc)(b:UInt8):fnv n (a++[b])=st (fnv n a) b.toNat:=by rw [zv2];rfl
theorem zh4:0≤zdb∧zdb≤18446744073709551615:=by decide
theorem zjk (l:zc):(hash l).length=8:=rfl
theorem zru (l:zc):(zae l).length=8:=rfl
theorem vb (a b:zc):(jx a b).length=8:=rfl
theorem zlm (x:Int)(h0:0≤x)(a:x≤255):((UInt8.ofNat x.toNat).toNat:Int)=x:=by
 rw [zjy];omega
theorem yaj (n:Int)(h0:0≤n)(a:n≤18446744073709551615):hv (zta n) =
  #[.int .u8 (n / 72057594037927936),.int .u8 (n / 281474976710656 % 256),.int .u8 (n / 1099511627776 % 256),.int .u8 (n / 4294967296 % 256),
   .int .u8 (n / 16777216 % 256),.int .u8 (n / 65536 % 256),.int .u8 (n / 256 % 256),.int .u8 (n % 256)]:=by
 have e:n / 72057594037927936 % 256=n / 72057594037927936:=by omega
 simp only [hv,zta,ve,zku,bv];rw [zlm _ (by omega) (by omega),zlm _ (by omega) (by omega),zlm _ (by omega) (by omega),zlm _ (by omega) (by omega),zlm _ (by omega) (by omega),zlm _ (by omega) (by omega),zlm _ (by omega) (by omega),zlm _ (by omega) (by omega),e]
theorem zay (l:zc):(hv l).size=l.length:=by simp [hv]
theorem zcz (l:zc):(hv l).all (·.oneCell')=true:=by
 simp [hv,bv,Value.oneCell']
theorem hv8 (l:zc)(h:l.length=8):∃ a b c d e f g i:UInt8,l=[a,b,c,d,e,f,g,i]:=by
 match l,h with
 | [a,b,c,d,e,f,g,i],_=>exact⟨a,b,c,d,e,f,g,i,rfl⟩
theorem vz (n:Nat)(h:2≤n):yo n < n∧n≤2*yo n∧1≤yo n:=by
 have h0:n - 1≠0:=by omega
 have b:=Nat.log2_self_le h0;have a:n - 1 < 2 ^ ((n - 1).log2+1):=Nat.lt_log2_self;rw [qy] at a;unfold yo;refine⟨by omega,by omega,zgw⟩
theorem yhd (n j:Nat)(h:2 ^ j < n)(a:n≤2 ^ (j+1)):2 ^ j=yo n:=by
 have b:=@zgw j;have h0:n - 1≠0:=by omega
 have e:(n - 1).log2=j:=(Nat.log2_eq_iff h0).2 ⟨by omega,by omega⟩;unfold yo;rw [e]
def Bs (w:World)(v:Value)(l:zc):Prop :=
 ∃ a d,v= .slice a l.length d∧(l=[]∨∃ b c,a=some ⟨b,c,none⟩∧∀ i (h:i < l.length),w.cell? ⟨b,c+i,none⟩=some (bv l[i]))
def Bss (w:World)(v:Value)(d:za):Prop :=
 ∃ a c,v= .slice a d.length c∧d.length≤c∧(d=[]∨∃ b e,a=some ⟨b,e,none⟩∧∀ i (h:i < d.length),∃ x,w.cell? ⟨b,e+i,none⟩=some x∧Bs w x d[i])
def Sss (w:World)(v:Value)(d:List ByteArray):Prop :=
 ∃ a c,v= .slice a d.length c∧d.length≤c∧(d=[]∨∃ b e,a=some ⟨b,e,none⟩∧∀ i (h:i < d.length),w.cell? ⟨b,e+i,none⟩=some (.string d[i]))
theorem yg {p:Addr}(h:w.cell? p=some v):p.block < w.heap.size:=by
 rcases qu p.block w.heap.size with a | a
 ·exact a
 ·simp [World.cell?,zbg a] at h
theorem Bs.below (h:Bs w v l)(e:Below w.heap.size w w'):Bs w' v l:=by
 obtain⟨a,d,rfl,h⟩:=h;refine⟨a,d,rfl,?_⟩;rcases h with h | ⟨b,c,rfl,f⟩
 ·exact .inl h
 ·exact .inr ⟨b,c,rfl,fun i g=>by have:=f i g;rw [e.cell (p:=⟨b,c+i,none⟩) (yg (p:=⟨b,c+i,none⟩) this)];exact this⟩
theorem Bss.below (h:Bss w v ls)(g:Below w.heap.size w w'):Bss w' v ls:=by
 obtain⟨a,e,rfl,d,h⟩:=h;refine⟨a,e,rfl,d,?_⟩;rcases h with h | ⟨b,c,rfl,k⟩
 ·exact .inl h
 ·exact .inr ⟨b,c,rfl,fun i l=>by obtain⟨x,j,f⟩:=k i l;exact⟨x,by rw [g.cell (p:=⟨b,c+i,none⟩) (yg (p:=⟨b,c+i,none⟩) j)];exact j,f.below g⟩⟩
theorem Sss.below {f:List ByteArray}(h:Sss w v f)(g:Below w.heap.size w w'):Sss w' v f:=by
 obtain⟨a,e,rfl,d,h⟩:=h;refine⟨a,e,rfl,d,?_⟩;rcases h with h | ⟨b,c,rfl,j⟩
 ·exact .inl h
 ·exact .inr ⟨b,c,rfl,fun i k=>by have:=j i k;rw [g.cell (p:=⟨b,c+i,none⟩) (yg (p:=⟨b,c+i,none⟩) this)];exact this⟩
def zaf:Nat→za→zc
 | 0,_=>hash []
 | f+1,l=>if l.length=0 then hash [] else if l.length=1 then zae (l.headD []) else jx (zaf f (l.take (yo l.length))) (zaf f (l.drop (yo l.length)))
theorem zbv (f:Nat)(l:za):(zaf f l).length=8:=by
 cases f with
 | zero=>rfl
 | succ f =>
  unfold zaf;split
  ·rfl
  ·split<;>rfl
theorem ze1 (f:Nat)(l:za)(h:l.length=0):zaf f l=hash []:=by
 cases f with
 | zero=>rfl
 | succ f=>unfold zaf;rw [if_pos h]
theorem zi0 (f:Nat)(l:za)(h:l.length=1):zaf (f+1) l=zae (l.headD []):=by
 unfold zaf;rw [if_neg (by omega),if_pos h]
theorem zdl (f:Nat)(l:za)(h:2≤l.length):zaf (f+1) l=jx (zaf f (l.take (yo l.length))) (zaf f (l.drop (yo l.length))):=by
 rw [zaf,if_neg (by omega),if_neg (by omega)]
theorem Bss.take {n:Nat}(h:Bss w (.slice (some ⟨b,off,none⟩) n cap) ls)(k:Nat)(q:k≤ls.length):Bss w (.slice (some ⟨b,off,none⟩) k cap) (ls.take k):=by
 obtain⟨a,c,e,f,h⟩:=h;simp only [zbw] at e;obtain⟨rfl,rfl,rfl⟩:=e;have d:(ls.take k).length=k:=by simp;omega
 refine⟨some ⟨b,off,none⟩,cap,by rw [d],by rw [d];omega,?_⟩;rcases h with h | ⟨p,g,e,l⟩
 ·left;simp [h]
 ·simp only [zr,zhb] at e;obtain⟨rfl,rfl,_⟩:=e;refine .inr ⟨b,off,rfl,fun i m=>?_⟩;obtain⟨x,o,j⟩:=l i (by rw [d] at m;omega);exact⟨x,o,by rw [vv];exact j⟩
theorem Bss.drop {n:Nat}(h:Bss w (.slice (some ⟨b,off,none⟩) n cap) ls)(k:Nat)(q:k≤ls.length):Bss w (.slice (some ⟨b,off+k,none⟩) (n - k) (cap - k)) (ls.drop k):=by
 obtain⟨a,c,e,f,h⟩:=h;simp only [zbw] at e;obtain⟨rfl,rfl,rfl⟩:=e;have d:(ls.drop k).length=ls.length - k:=by simp
 refine⟨some ⟨b,off+k,none⟩,cap - k,by rw [d],by rw [d];omega,?_⟩;rcases h with h | ⟨p,g,e,l⟩
 ·left;simp [h]
 ·simp only [zr,zhb] at e;obtain⟨rfl,rfl,_⟩:=e;refine .inr ⟨b,off+k,rfl,fun i m=>?_⟩;obtain⟨x,o,j⟩:=l (k+i) (by rw [d] at m;omega);exact⟨x,by rw [zes];exact o,by rw [zcn];exact j⟩
theorem Sss.take {n:Nat}{d:List ByteArray}(h:Sss w (.slice (some ⟨b,off,none⟩) n cap) d)(k:Nat)(p:k≤d.length):Sss w (.slice (some ⟨b,off,none⟩) k cap) (d.take k):=by
 obtain⟨a,c,e,g,h⟩:=h;simp only [zbw] at e;obtain⟨rfl,rfl,rfl⟩:=e;have f:(d.take k).length=k:=by simp;omega
 refine⟨some ⟨b,off,none⟩,cap,by rw [f],by rw [f];omega,?_⟩;rcases h with h | ⟨o,j,e,l⟩
 ·left;simp [h]
 ·simp only [zr,zhb] at e;obtain⟨rfl,rfl,_⟩:=e;refine .inr ⟨b,off,rfl,fun i m=>?_⟩;rw [l i (by rw [f] at m;omega),vv]
theorem Sss.drop {n:Nat}{d:List ByteArray}(h:Sss w (.slice (some ⟨b,off,none⟩) n cap) d)(k:Nat)(p:k≤d.length):Sss w (.slice (some ⟨b,off+k,none⟩) (n - k) (cap - k)) (d.drop k):=by
 obtain⟨a,c,e,g,h⟩:=h;simp only [zbw] at e;obtain⟨rfl,rfl,rfl⟩:=e;have f:(d.drop k).length=d.length - k:=by simp
 refine⟨some ⟨b,off+k,none⟩,cap - k,by rw [f],by rw [f];omega,?_⟩;rcases h with h | ⟨o,j,e,l⟩
 ·left;simp [h]
 ·simp only [zr,zhb] at e;obtain⟨rfl,rfl,_⟩:=e;refine .inr ⟨b,off+k,rfl,fun i m=>?_⟩;rw [zes,l (k+i) (by rw [f] at m;omega),zcn]
variable {B k o s:Nat}{O O':Nat→Prop}{T T':List Nat}{a:World}{e t:TypeId}{xs:List Value}
def Tob (T:List Nat)(o:Option Obj):Prop:=(∃ c t x,o=some (.cells c t x)∧t∈T)∨∃ es c,o=some (.map es c)
theorem Tob.more {o:Option Obj}(h:Tob T o)(a:∀ t∈T,t∈T'):Tob T' o:=by
 rcases h with ⟨c,t,x,e,b⟩ | h
 ·exact .inl ⟨c,t,x,e,a t b⟩
 ·exact .inr h
structure zq (O:Nat→Prop)(T:List Nat)(w w':World):Prop where
 os:w'.os=w.os
 tape:w'.tape=w.tape
 output:w'.output=w.output
 size:w.heap.size≤w'.heap.size
 block:∀ k,k < w.heap.size→w'.heap[k]?=w.heap[k]?∨(O k∧Tob T w.heap[k]?)
def jz (O:Nat→Prop)(w a:World):Nat→Prop:=fun k=>O k∨(w.heap.size≤k∧k < a.heap.size)
theorem zi {o:Obj}(h:w.heap[k]?=some o):k < w.heap.size:=by
 rcases qu k w.heap.size with a | a
 ·exact a
 ·simp [zbg a] at h
theorem zq.refl (O:Nat→Prop)(T:List Nat)(w:World):zq O T w w:=⟨rfl,rfl,rfl,zm _,fun _ _=> .inl rfl⟩
theorem zq.of_below (h:Below w.heap.size w w'):zq O T w w':=⟨h.os,h.tape,h.output,h.size,fun k a=> .inl (h.block k a)⟩
theorem zq.mono (h:zq O T w w')(b:∀ k,O k→O' k)(c:∀ t∈T,t∈T'):zq O' T' w w' :=
 ⟨h.os,h.tape,h.output,h.size,fun k d=>by
  rcases h.block k d with e | ⟨a,e⟩
  ·exact .inl e
  ·exact .inr ⟨b k a,e.more c⟩⟩
theorem zq.trans {b c:World}(h:zq O T a b)(k:zq (jz O a b) T b c):zq O T a c :=
 ⟨k.os.trans h.os,k.tape.trans h.tape,k.output.trans h.output,zu h.size k.size,fun i g=>by
  rcases h.block i g with e | e
  ·rcases k.block i (zx g h.size) with f | ⟨d,f⟩
   ·exact .inl (f.trans e)
   ·rcases d with d | d
    ·exact .inr ⟨d,e▸f⟩
    ·omega
  ·exact .inr e⟩
theorem zq.drew (h:zq O T a w):zq O T a w.drew:=⟨h.os,h.tape,h.output,h.size,h.block⟩
theorem zq.drewN (h:zq O T a w)(n:Nat):zq O T a (w.drewN n):=⟨h.os,h.tape,h.output,h.size,h.block⟩
theorem zq.undrew (h:zq O T a.drew w):zq O T a w:=⟨h.os,h.tape,h.output,h.size,h.block⟩
theorem zq.then_below {b c:World}(h:zq O T a b)(k:Below b.heap.size b c):zq O T a c:=h.trans (.of_below k)
theorem zq.keep (h:zq O T w w'){c:Array Value}{x:Nat×Nat}(e:w.heap[k]?=some (.cells c t x))(g:t∉T):w'.heap[k]?=some (.cells c t x):=by
 rcases h.block k (zi e) with a | ⟨-,⟨d,i,j,a,b⟩ | ⟨f,d,a⟩⟩
 ·rw [a];exact e
 ·rw [e] at a;simp only [zr,vw] at a;exact absurd (a.2.1▸b) g
 ·rw [e] at a;simp at a
theorem zq.stay (h:zq O T w w'){o:Obj}(e:w.heap[k]?=some o)(b:¬ O k):w'.heap[k]?=some o:=by
 rcases h.block k (zi e) with a | ⟨c,-⟩
 ·rw [a];exact e
 ·exact absurd c b
theorem zq.set (h:zq O T a w){c:Array Value}{x:Nat×Nat}(f:jz O a w b)(e:w.heap[b]?=some (.cells c t x))(g:t∈T)(u:Value):zq O T a (w.setCell ⟨b,o,none⟩ u):=by
 refine h.trans ⟨rfl,rfl,rfl,by simp [World.setCell],fun k i=>?_⟩
 by_cases d:k=b
 ·subst d;exact .inr ⟨f,.inl ⟨c,t,x,e,g⟩⟩
 ·exact .inl (Below.heap_setCell _ _ _ _ d)
theorem zq.alloc (h:zq O T a w)(o:Obj):zq O T a (w.alloc o):=h.then_below ((yf _ w).alloc (zm _) o)
theorem zq.setNew (h:zq O T a w)(d:a.heap.size≤b)(o:Nat)(u:Value):zq O T a (w.setCell ⟨b,o,none⟩ u) :=
 ⟨h.os,h.tape,h.output,by simpa [World.setCell] using h.size,fun k c=>by
  rw [Below.heap_setCell _ _ _ _ (by show k≠b;omega)];exact h.block k c⟩
theorem zq.grown (h:zq O T a w){c:Nat}{n:Nat}(o:w.ownsRow c e s v n xs)(d:w.grownBy w' v.ownBlock)(j:∀ g,v.ownBlock=some g→jz O a w g)(p:e∈T):zq O T a w':=by
 refine h.trans ⟨d.os,d.tape,d.output,d.size,fun k m=>?_⟩
 by_cases b:some k=v.ownBlock
 ·rcases o.2 with ⟨rfl,_⟩ | ⟨g,i,f,rfl,-,l,-⟩
  ·simp [Value.ownBlock] at b
  ·simp only [Value.ownBlock,zr] at b;subst b;exact .inr ⟨j k rfl,.inl ⟨f,e,(0,0),l,p⟩⟩
 ·exact .inl (d.block k m b)
theorem zo {n:Nat}(h:w.ownsRow B e s v n xs)(j:zq O T w w')(i:e∉T):w'.ownsRow B e s v n xs:=by
 refine⟨h.1,?_⟩;rcases h.2 with h | ⟨g,a,b,c,d,f,r⟩
 ·exact .inl h
 ·exact .inr ⟨g,a,b,c,d,j.keep f i,r⟩
theorem zdq {n:Nat}(h:w.ownsRow B e s v n xs)(j:zq O T w w')(i:∀ g,v.ownBlock=some g→¬ O g):w'.ownsRow B e s v n xs:=by
 refine⟨h.1,?_⟩;rcases h.2 with h | ⟨c,a,b,rfl,d,f,r⟩
 ·exact .inl h
 ·exact .inr ⟨c,a,b,rfl,d,j.stay f (i c rfl),r⟩
theorem zq.below (h:zq O T w w')(b:∀ k,O k→B≤k)(c:B≤w.heap.size):Below B w w' :=
 ⟨h.os,h.tape,h.output,h.size,fun k d=>by
  rcases h.block k (by omega) with e | ⟨a,-⟩
  ·exact e
  ·have:=b k a;omega⟩
theorem jz.base (a:∀ k,O k→B≤k)(b:B≤w.heap.size):∀ k,jz O w w' k→B≤k:=by
 rintro k (h | h)
 ·exact a k h
 ·omega
theorem jz.old (h:O k):jz O w w' k:= .inl h
theorem jz.trans {b c:World}(d:a.heap.size≤b.heap.size)(e:b.heap.size≤c.heap.size):∀ k,jz (jz O a b) b c k→jz O a c k:=by
 rintro k ((h | h) | h)
 ·exact .inl h
 ·exact .inr (by omega)
 ·exact .inr (by omega)
theorem jz.more {b c:World}(d:b.heap.size≤c.heap.size):∀ k,jz O a b k→jz O a c k:=by
 rintro k (h | h)
 ·exact .inl h
 ·exact .inr (by omega)
theorem zf {p:Prop}(h:p):Hid p:=h
theorem zj {o:Obj}{x:Obj}(h:w.heap[k]?=some x):(w.alloc o).heap[k]?=some x:=by
 have b:k < w.heap.size:=by
  rcases qu k w.heap.size with a | a
  ·exact a
  ·simp [zbg a] at h
 show(w.heap.push o)[k]?=_;simp only [Array.getElem?_push,Nat.ne_of_lt b,zd3];exact h
abbrev Fs:=List (zc×zc)
def je:Fs→zc→Option (zc)
 | [],_=>none
 | f::r,p=>if f.1=p then some f.2 else je r p
def ixF:Fs→zc→Option Nat
 | [],_=>none
 | f::r,p=>if f.1=p then some 0 else (ixF r p).map (·+1)
def zfn (fs:Fs)(p d:zc):Fs:=match ixF fs p with
 | some i=>fs.set i (p,d)
 | none=>fs++[(p,d)]
def zff (fs:Fs):Prop:=(fs.map (·.1)).Nodup
theorem zb8:∀ {fs:Fs}{p:zc}{i:Nat} ,ixF fs p=some i→∃ h:i < fs.length,fs[i].1=p∧je fs p=some fs[i].2∧∀ j (b:j < i),(fs[j]'(by omega)).1≠p
 | [],p,i,h=>by simp [ixF] at h
 | f::r,p,i,h=>by
  unfold ixF at h
  by_cases a:f.1=p
  ·rw [if_pos a] at h;obtain rfl:0=i:=by simpa using h
   exact⟨by simp,a,by simp [je,a],fun j b=>absurd b (zed _)⟩
  ·rw [if_neg a] at h;obtain⟨k,g,rfl⟩:=zz.1 h;obtain⟨l,c,d,e⟩:=zb8 g;refine⟨by simp;omega,by simpa using c,by simp [je,a];simpa using d,fun j b=>?_⟩;cases j with
   | zero=>simpa using a
   | succ j=>simpa using e j (by omega)
theorem zci:∀ {fs:Fs}{p:zc} ,ixF fs p=none→je fs p=none∧∀ f∈fs,f.1≠p
 | [],p,_=>⟨rfl,fun f a=>by simp at a⟩
 | f::r,p,h=>by
  unfold ixF at h
  by_cases a:f.1=p
  ·rw [if_pos a] at h;simp at h
  ·rw [if_neg a] at h;have c:ixF r p=none:=by simpa using h
   obtain⟨d,e⟩:=zci c;exact⟨by simp [je,a,d],fun g b=>by
    rcases jr.1 b with rfl | b
    ·exact a
    ·exact e g b⟩
theorem z7f:∀ {fs:Fs}{p:zc}{i:Nat}(h:i < fs.length) ,fs[i].1=p→(∀ j (d:j < i),(fs[j]'(by omega)).1≠p)→ixF fs p=some i
 | [],p,i,h,_,_=>by simp at h
 | f::r,p,0,_,a,_=>by simp [ixF];simpa using a
 | f::r,p,i+1,h,a,b=>by
  have c:f.1≠p:=by simpa using b 0 (by omega)
  unfold ixF;rw [if_neg c,z7f (fs:=r) (p:=p) (i:=i) (by simp at h;omega) (by simpa using a) (fun j d=>by simpa using b (j+1) (by omega))]
  rfl
theorem zou {fs:Fs}{p:zc}(h:∀ f∈fs,f.1≠p):ixF fs p=none:=by
 cases e:ixF fs p with
 | none=>rfl
 | some i =>
  obtain⟨a,b,_⟩:=zb8 e;exact absurd b (h _ (yd a))
theorem zy9 {fs:Fs}{p:zc}:je fs p=none↔∀ f∈fs,f.1≠p:=by
 refine⟨fun h=>?_,fun h=>(zci (zou h)).1⟩;cases e:ixF fs p with
 | none=>exact(zci e).2
 | some i =>
  obtain⟨b,c,a,_⟩:=zb8 e;rw [a] at h;simp at h
theorem zrx {fs:Fs}{p d:zc}(h:je fs p=some d):(p,d)∈fs:=by
 cases e:ixF fs p with
 | none=>rw [(zci e).1] at h;simp at h
 | some i =>
  obtain⟨a,b,c,_⟩:=zb8 e;rw [c] at h;obtain rfl:fs[i].2=d:=by simpa using h
  rw [← b];exact yd a
theorem zo5:∀ {fs:Fs}{p d:zc} ,zff fs→(p,d)∈fs→je fs p=some d
 | [],p,d,_,h=>by simp at h
 | f::r,p,d,a,h=>by
  unfold zff at a;simp only [ve,zbj] at a;rcases jr.1 h with rfl | h
  ·simp [je]
  ·have b:f.1≠p:=fun e=>a.1 (by rw [e];exact yl.2 ⟨_,h,rfl⟩);simp only [je,b,zd3];exact zo5 a.2 h
theorem zgm {fs a:Fs}(b:zff fs)(h:a.Perm fs)(p:zc):je a p=je fs p:=by
 have c:zff a:=(List.Perm.nodup_iff (h.map _)).2 b;cases e:je fs p with
 | none =>
  rw [zy9] at e ⊢;exact fun f g=>e f (h.mem_iff.1 g)
 | some d=>exact zo5 c (h.mem_iff.2 (zrx e))
theorem ydi (fs:Fs)(p d:zc):(zfn fs p d).map (·.1)=if ixF fs p=none then fs.map (·.1)++[p] else fs.map (·.1):=by
 unfold zfn;cases e:ixF fs p with
 | none=>simp
 | some i =>
  obtain⟨f,b,_⟩:=zb8 e;simp only [List.map_set,reduceCtorEq,zd3];rw [← b];apply zre
  ·simp
  ·intro j g c;rw [List.getElem_set];split
   ·rename_i a;subst a;simp
   ·rfl
theorem zff.set {fs:Fs}(h:zff fs)(p d:zc):zff (zfn fs p d):=by
 unfold zff at *;rw [ydi];split
 ·rename_i e;rw [zao];refine⟨h,by simp,fun a c b g=>?_⟩;obtain rfl:b=p:=by simpa using g
  obtain⟨f,i,rfl⟩:=yl.1 c;exact(zci e).2 f i
 ·exact h
theorem zl2 (fs:Fs)(p d:zc):je (zfn fs p d) p=some d:=by
 have:∀ fs:Fs,je (zfn fs p d) p=some d:=by
  intro fs
  induction fs with
  | nil=>simp [zfn,ixF,je]
  | cons f r a =>
   unfold zfn;unfold ixF
   by_cases b:f.1=p
   ·rw [if_pos b];simp [je]
   ·rw [if_neg b];unfold zfn at a;cases e:ixF r p with
    | none=>rw [e] at a;simpa [je,b] using a
    | some i=>rw [e] at a;simpa [je,b] using a
 exact this fs
theorem zo1 (fs:Fs)(p d q:zc)(h:q≠p):je (zfn fs p d) q=je fs q:=by
 induction fs with
 | nil=>simp [zfn,ixF,je,h.symm]
 | cons f r a =>
  unfold zfn;unfold ixF
  by_cases b:f.1=p
  ·rw [if_pos b];have c:¬ f.1=q:=fun e=>h (e.symm.trans b);simp [je,h.symm,c]
  ·rw [if_neg b];unfold zfn at a;cases e:ixF r p with
   | none=>rw [e] at a;simp only [Option.map_none,zak,je];simp only at a;rw [a]
   | some i=>rw [e] at a;simp only [yba,zoa,je];simp only at a;rw [a]
theorem z30 (fs:Fs)(p d q:zc):je (zfn fs p d) q=if q=p then some d else je fs q:=by
 split
 ·rename_i h;rw [h];exact zl2 fs p d
 ·rename_i h;exact zo1 fs p d q h
theorem zpg (fs:Fs)(p d:zc):(zfn fs p d).length≤fs.length+1:=by
 unfold zfn;split<;>simp
theorem yit:∀(l s:List Nat),l.Nodup→(∀ x∈l,x∈s)→l.length≤s.length
 | [],s,_,_=>yv _
 | a::r,s,b,f=>by
  rw [zbj] at b;have d:=f a (by simp);have h:=yit r (s.erase a) b.2 (fun x g=>by
   have c:x≠a:=fun e=>b.1 (by rw [← e];exact g);exact(List.mem_erase_of_ne c).2 (f x (by simp [g])))
  have i:=List.length_erase_of_mem d;have j:0 < s.length:=List.length_pos_of_mem d;simp only [y9];omega
theorem z1d (n:Nat)(s:List Nat)(h:∀ j,j < n→j∈s):n≤s.length:=by
 have:=yit (List.range n) s List.nodup_range (fun x a=>h x (zew.1 a));simpa using this
variable {fs':Fs}
structure Dk where
 fs:Fs
 calls:Int
 failAt:Int
 dead:Bool
 once:Bool
 half:Bool
 hit:Bool
 turned:Bool
def zzi (d:Dk):Int:=wrap64 (d.calls+1)
def zag (d:Dk):Int:=if d.dead then 2 else if 0 < d.failAt∧zzi d=d.failAt then (if d.half then 1 else 2) else 0
def jb (d:Dk):Dk:=if d.dead then { d with calls:=zzi d } else if 0 < d.failAt∧zzi d=d.failAt then { d with calls:=zzi d,dead:=!d.once,hit:=true } else { d with calls:=zzi d }
def zp8 (d:Dk)(p x:zc):Bool:=match je d.fs p with
 | some y=>if y=x then decide (0 < zag d) else true
 | none=>decide (0 < zag d)
def zgg (d:Dk)(p x:zc):Dk:=match je d.fs p with
 | some y=>if y=x then (if zag d < 2 then { jb d with fs:=zfn d.fs p x } else jb d) else { jb d with turned:=true }
 | none=>if zag d < 2 then { jb d with fs:=zfn d.fs p x } else jb d
def zj4 (d:Dk)(p x:zc):Dk:=if zag d < 2 then { jb d with fs:=zfn d.fs p x } else jb d
def bad (d:Dk):Bool:=decide (0 < zag d)
def zp4 (d:Dk):Prop:=d.dead=false∧d.hit=false
theorem jf (d:Dk):(jb d).fs=d.fs:=by unfold jb;split<;>(try split)<;>rfl
theorem zfr (d:Dk):(jb d).turned=d.turned:=by unfold jb;split<;>(try split)<;>rfl
def tk (d:Dk):Bool×Int×Bool×Bool:=(d.turned,d.failAt,decide (d.failAt=0)&&d.dead,decide (d.failAt=0)&&d.hit)
theorem zpm (d:Dk):tk (jb d)=tk d:=by
 unfold jb tk;split
 ·rfl
 ·split
  ·rename_i h;have:¬ d.failAt=0:=by omega
   simp [this]
  ·rfl
theorem zz6 {d e:Dk}(h:tk d=tk e):d.turned=e.turned:=congrArg Prod.fst h
theorem zpn (d:Dk):0≤zag d∧zag d≤2:=by
 unfold zag;split
 ·omega
 ·split
  ·split<;>omega
  ·omega
theorem zm1 {d:Dk}(h:zp4 d):(zag d=0∧zp4 (jb d))∨(0 < zag d∧(jb d).hit=true):=by
 unfold zag jb zp4 at *;rw [h.1];simp only [zas,zd3];split
 ·refine .inr ⟨?_,rfl⟩;split<;>omega
 ·exact .inl ⟨rfl,rfl,h.2⟩
def cpF:zc:=[99,104,101,99,107,112,111,105,110,116]
def zk0 (j8:Fs)(c:zc)(fs a:Fs):Prop :=
 ∀ q,je a q=je fs q∨(je fs q=none∧∃ x,(q,x)∈j8∧je a q=some x)∨(q=cpF∧je a q=some c)
theorem zk0.refl (j8:Fs)(c:zc)(fs:Fs):zk0 j8 c fs fs:=fun _=> .inl rfl
theorem zk0.trans {j8:Fs}{c:zc}{f g h:Fs}(a:zk0 j8 c f g)(b:zk0 j8 c g h):zk0 j8 c f h:=by
 intro q;rcases a q with a | ⟨i,x,j,a⟩ | ⟨rfl,a⟩
 ·rcases b q with b | ⟨d,y,e,b⟩ | b
  ·exact .inl (b.trans a)
  ·exact .inr (.inl ⟨a▸d,y,e,b⟩)
  ·exact .inr (.inr b)
 ·rcases b q with b | ⟨d,y,e,b⟩ | b
  ·exact .inr (.inl ⟨i,x,j,b.trans a⟩)
  ·rw [a] at d;simp at d
  ·exact .inr (.inr b)
 ·rcases b cpF with b | ⟨d,y,e,b⟩ | b
  ·exact .inr (.inr ⟨rfl,b.trans a⟩)
  ·rw [a] at d;simp at d
  ·exact .inr (.inr b)
def zgk (fs j8:Fs):Prop:=∀ q x,(q,x)∈j8→je fs q=none∨je fs q=some x
def ya6 (j8:Fs):Prop:=(∀ q x y,(q,x)∈j8→(q,y)∈j8→x=y)∧∀ x,(cpF,x)∉j8
theorem zgk.went {j8:Fs}{c:zc}{fs:Fs}(b:ya6 j8)(h:zgk fs j8)(w:zk0 j8 c fs fs'):zgk fs' j8:=by
 intro q x a;rcases w q with e | ⟨_,y,d,e⟩ | ⟨rfl,_⟩
 ·rw [e];exact h q x a
 ·rw [e,b.1 q x y a d];exact .inr rfl
 ·exact absurd a (b.2 x)
theorem z58 {j8:Fs}{c:zc}{fs:Fs}{p x:zc}(h:zgk fs j8)(a:(p,x)∈j8):zk0 j8 c fs (zfn fs p x):=by
 intro q;rw [z30];split
 ·rename_i e;subst e;rcases h q x a with h | h
  ·exact .inr (.inl ⟨h,x,a,rfl⟩)
  ·exact .inl h.symm
 ·exact .inl rfl
theorem z0h (j8:Fs)(c:zc)(fs:Fs):zk0 j8 c fs (zfn fs cpF c):=by
 intro q;rw [z30];split
 ·rename_i e;exact .inr (.inr ⟨e,rfl⟩)
 ·exact .inl rfl
theorem zk0.stays {j8:Fs}{c:zc}{fs:Fs}(w:zk0 j8 c fs fs'){q x:zc}(h:je fs q=some x)(a:q≠cpF):je fs' q=some x:=by
 rcases w q with e | ⟨h0,_⟩ | ⟨e,_⟩
 ·rw [e];exact h
 ·rw [h] at h0;simp at h0
 ·exact absurd e a
def zbo:Fs→Dk→Option (zc) ×Dk
 | [],d=>(none,d)
 | f::r,d=>if zp8 d f.1 f.2 then (some f.1,zgg d f.1 f.2) else zbo r (zgg d f.1 f.2)
def zd4 (zah:Fs)(c:zc)(d:Dk):Option (zc)×Dk:=match zbo zah d with
 | (some p,d1)=>(some p,d1)
 | (none,d1)=>if bad d1 then (some cpF,zj4 d1 cpF c) else (none,zj4 d1 cpF c)
theorem zne (a b:Fs)(d:Dk):zbo (a++b) d=match zbo a d with
  | (some p,d1)=>(some p,d1)
  | (none,d1)=>zbo b d1:=by
 induction a generalizing d with
 | nil=>rfl
 | cons f r c =>
  simp only [zak,zbo];split
  ·rfl
  ·exact c _
theorem yl0 {j8:Fs}{c:zc}{d:Dk}{p x:zc}(k:zp4 d)(g:zff d.fs)(h:d.turned=false)(b:zgk d.fs j8)(f:(p,x)∈j8):
  zff (zgg d p x).fs∧(zgg d p x).turned=false∧zk0 j8 c d.fs (zgg d p x).fs∧((zp8 d p x=false∧zp4 (zgg d p x)∧je (zgg d p x).fs p=some x)∨(zp8 d p x=true∧(zgg d p x).hit=true)):=by
 have j:zp8 d p x=decide (0 < zag d):=by
  unfold zp8;rcases b p x f with e | e<;>rw [e];simp
 have i:zgg d p x=if zag d < 2 then { jb d with fs:=zfn d.fs p x } else jb d:=by
  unfold zgg;rcases b p x f with e | e<;>rw [e];simp
 rw [j,i];rcases zm1 k with ⟨h0,a⟩ | ⟨h0,a⟩
 ·rw [if_pos (by omega),h0];exact⟨g.set p x,by simpa [zfr] using h,z58 b f,.inl ⟨rfl,a,zl2 _ _ _⟩⟩
 ·have l:decide (0 < zag d)=true:=by simpa using h0
  rw [l];split
  ·exact⟨g.set p x,by simpa [zfr] using h,z58 b f,.inr ⟨rfl,a⟩⟩
  ·exact⟨by rw [jf];exact g,by rw [zfr];exact h,by rw [jf];exact zk0.refl _ _ _,.inr ⟨rfl,a⟩⟩
theorem zzs {j8:Fs}{c:zc}(l:ya6 j8):∀(zah:Fs) (d:Dk),zp4 d→zff d.fs→d.turned=false→zgk d.fs j8→(∀ f∈zah,f∈j8) →
  zff (zbo zah d).2.fs∧(zbo zah d).2.turned=false∧zk0 j8 c d.fs (zbo zah d).2.fs ∧
   (((zbo zah d).1=none∧zp4 (zbo zah d).2∧∀ f∈zah,je (zbo zah d).2.fs f.1=some f.2)∨(∃ p x,(zbo zah d).1=some p∧(p,x)∈j8∧(zbo zah d).2.hit=true))
 | [],d,k,j,m,_,_=>⟨j,m,zk0.refl _ _ _,.inl ⟨rfl,k,fun f h=>by simp at h⟩⟩
 | f::r,d,k,j,m,s,t=>by
  have n:(f.1,f.2)∈j8:=t f (by simp);obtain⟨q,t1,o,b⟩:=yl0 (c:=c) k j m s n;unfold zbo;rcases b with ⟨e,w,A⟩ | ⟨e,b⟩
  ·rw [if_neg (by rw [e];simp)];obtain⟨v,t2,u,i⟩:=zzs l r (zgg d f.1 f.2) w q t1 (s.went l o) (fun g a=>t g (by simp [a]));refine⟨v,t2,o.trans u,?_⟩;rcases i with ⟨z,y,B⟩ | i
   ·refine .inl ⟨z,y,fun g a=>?_⟩;rcases jr.1 a with rfl | a
    ·exact u.stays A (fun e=>l.2 g.2 (by rw [← e];exact n))
    ·exact B g a
   ·exact .inr i
  ·rw [if_pos e];exact⟨q,t1,o,.inr ⟨f.1,f.2,rfl,n,b⟩⟩
theorem yav {j8 zah:Fs}{c:zc}{d:Dk}(j:ya6 j8)(s:zp4 d)(q:zff d.fs)(u:d.turned=false)(t:zgk d.fs j8)(k:∀ f∈zah,f∈j8):
  zff (zd4 zah c d).2.fs∧(zd4 zah c d).2.turned=false∧zk0 j8 c d.fs (zd4 zah c d).2.fs ∧
   (((zd4 zah c d).1=none∧zp4 (zd4 zah c d).2∧je (zd4 zah c d).2.fs cpF=some c∧∀ f∈zah,je (zd4 zah c d).2.fs f.1=some f.2) ∨
    ((∃ p,(zd4 zah c d).1=some p∧(p=cpF∨∃ x,(p,x)∈j8))∧(zd4 zah c d).2.hit=true)):=by
 obtain⟨a,t1,g,h⟩:=zzs (c:=c) j zah d s q u t k;unfold zd4;generalize zbo zah d=r at *;obtain⟨o,d1⟩:=r;simp only at a t1 g h;rcases h with ⟨rfl,l,w⟩ | ⟨p,x,rfl,v,h⟩
 ·simp only;have n:zj4 d1 cpF c=if zag d1 < 2 then { jb d1 with fs:=zfn d1.fs cpF c } else jb d1:=rfl
  have m:bad d1=decide (0 < zag d1):=rfl;rw [m,n];rcases zm1 l with ⟨h0,i⟩ | ⟨h0,i⟩
  ·rw [if_neg (by simp [h0]),if_pos (by omega)];refine⟨a.set _ _,by simpa [zfr] using t1,g.trans (z0h _ _ _),.inl ⟨rfl,i,zl2 _ _ _,fun f b=>?_⟩⟩;simp only;rw [zo1]
   ·exact w f b
   ·exact fun e=>j.2 f.2 (by rw [← e];exact k f b)
  ·rw [if_pos (by simpa using h0)];simp only;split
   ·exact⟨a.set _ _,by simpa [zfr] using t1,g.trans (z0h _ _ _),.inr ⟨⟨_,rfl,.inl rfl⟩,i⟩⟩
   ·exact⟨by rw [jf];exact a,by rw [zfr];exact t1,by rw [jf];exact g,.inr ⟨⟨_,rfl,.inl rfl⟩,i⟩⟩
 ·exact⟨a,t1,g,.inr ⟨⟨p,rfl,.inr ⟨x,v⟩⟩,h⟩⟩
def zfv (before j8:Fs):Bool:=j8.any fun f=>match je before f.1 with
 | some y=>decide (y≠f.2)
 | none=>false
def zqk (a b j8:Fs)(c:zc):Bool :=
 (a.all fun f=>match je b f.1 with
  | some y=>decide (y=f.2)||(decide (f.1=cpF)&&decide (y=c))
  | none=>false) &&
 (b.all fun f=>match je a f.1 with
  | some _=>true
  | none=>(match je j8 f.1 with | some y=>decide (f.2=y) | none=>false)||(decide (f.1=cpF)&&decide (f.2=c)))
def zi5 (after j8:Fs):Bool:=j8.all fun f=>match je after f.1 with
 | some y=>decide (y=f.2)
 | none=>false
theorem z0s {a j8:Fs}(h:zfv a j8=false):zgk a j8:=by
 intro q x b;unfold zfv at h;rw [List.any_eq_false] at h;have:=h (q,x) b;simp only at this;cases e:je a q with
 | none=>exact .inl rfl
 | some y=>rw [e] at this;simp at this;rw [this];exact .inr rfl
theorem z7g {b a fs j8:Fs}{c:zc}(n:b.Perm fs)(m:a.Perm fs')(k:zff fs)(l:zff fs')(p:ya6 j8)(w:zk0 j8 c fs fs'):zqk b a j8 c=true:=by
 have r:=zgm k n;have q:=zgm l m;unfold zqk;rw [zbr,zcd,zcd];refine⟨fun f g=>?_,fun f g=>?_⟩
 ·have e:je fs f.1=some f.2:=zo5 k (n.mem_iff.1 g);rw [q];rcases w f.1 with d | ⟨h0,_⟩ | ⟨i,d⟩
  ·rw [d,e];simp
  ·rw [e] at h0;simp at h0
  ·rw [d];simp [i]
 ·have e:je fs' f.1=some f.2:=zo5 l (m.mem_iff.1 g);rw [r];rcases w f.1 with d | ⟨h0,x,o,d⟩ | ⟨i,d⟩
  ·rw [← d,e]
  ·rw [h0];rw [e] at d;obtain h:f.2=x:=by simpa using d
   have:je j8 f.1=some x:=by
    cases j:je j8 f.1 with
    | none=>exact absurd rfl (zy9.1 j (f.1,x) o)
    | some y=>rw [p.1 f.1 y x (zrx j) o]
   simp [this,h]
  ·rw [e] at d;obtain h:f.2=c:=by simpa using d
   cases je fs f.1<;>simp [i,h]
theorem z5p {a j8:Fs}(c:a.Perm fs')(b:zff fs')(h:∀ f∈j8,je fs' f.1=some f.2):zi5 a j8=true:=by
 unfold zi5;rw [zcd];intro f d;rw [zgm b c,h f d];simp
end Go.Proofs.YtlcllcgngjhoaaaGreatDoor
