import Derived.Test.YtfdbeldiomkdiaaGreatDoorRows
import Derived.WalkSpells
import Derived.WalkLawsBesides
import Derived.BigQuiet
import Derived.Laws.CopyOwn
import Derived.Deep.WholeRow
import Derived.Deep.MidRow
import Derived.OpenShut
import Derived.Lib.Strings
import Derived.Lib.Slices
import Derived.Lib.Small
import Derived.Lib.Walk
import Derived.Lib.BitFns
import Derived.Deep.AppendLies
set_option maxHeartbeats 8000000
set_option maxRecDepth 100000
set_option linter.all false
namespace Go.Proofs.YtfdbeldiomkdiaaGreatDoor
open Go.RowKit Go.Proofs.Tryz
def zf:=@heap_alloc_last
def zk:=@Nat.le_refl
def zn:=@Option.some.injEq
def zt:=@Nat.le_trans
def zu:=@Below.refl
def zv:=@bodyPost_ret
def zx:=@Option.map_eq_some_iff
def ye:=@List.getElem_mem
def yk:=@Nat.zero_le
def yp:=@beq_eq_false_iff_ne
def yw:=@wpList_store_row
def yz:=@List.take_succ_eq_append_getElem
def xe:=@cell_of_row
def xk:=@Nat.zero_add
def xm:=@World.news_of_block
def xn:=@List.take_of_length_le
def xp:=@Nat.pow_succ
def xt:=@Tryz.underlying9
def qa:=@List.mem_of_mem_take
def qf:=@Nat.lt_or_ge
def qh:=@List.getElem?_append_left
def qi:=@List.getElem?_take
def qq:=@List.getElem?_append_right
def jc:=@Tryz.underlying5
def jf:=@wpList_append_lies
def jk:=@Value.slice.injEq
def js:=@List.getElem_take
def jz:=@List.mem_of_mem_drop
def j2:=@Nat.pow_le_pow_right
def j4:=@List.map_cons
def vp:=@Addr.add_mid
def vu:=@rounds_succ
def vw:=@List.length_eq_zero_iff
def Af:=@List.getElem_cons_zero
def Ag:=@below_setRow
def Ai:=@List.getElem_drop
def Av:=@setRow_heap
def A7:=@Array.getElem?_eq_none
def AI:=@run_bytes_of_string
def AM:=@List.length_take
def AP:=@Nat.add_assoc
def Ba:=@Nat.mul_one
def BB:=@run_convert_bytes_back
def BX:=@Tryz.underlying3
def Ca:=@results_cell_row
def Ce:=@Addr.mk.injEq
def Ch:=@of_decide_eq_true
def Cu:=@List.length_singleton
def CM:=@if_false
def Dt:=@Array.getElem?_append_left
def D4:=@Array.getElem?_toList
def D9:=@Array.getElem?_eq_getElem
def DQ:=@List.map_nil
def Ej:=@List.flatten_append
def FB:=@wp_loop_rounds
def GH:=@UInt8.toNat_ofNat'
def Ij:=@List.foldl_append
def KW:=@Nat.one_le_two_pow
theorem _root_.Go.Proofs.kq {α:Type}{x:Option α}{a b:α}(h:x=some a)(e:a=b):x=some b:=h.trans (congrArg some e)
theorem _root_.Go.RowKit.Hid.o {p:Prop}(h:Go.RowKit.Hid p):p:=h
abbrev za:=List (List UInt8)
abbrev zb:=List UInt8
abbrev zc (w w':World):Prop:=Below w.heap.size w w'
variable {k:Nat}{w:World}
def ze {p:Prop}(h:p):Hid p:=h
def zr {o:Obj}{x:Obj}(h:w.heap[k]?=some x):(w.alloc o).heap[k]?=some x:=by
 have b:k<w.heap.size:=by
  rcases qf k w.heap.size with a|a
  ·exact a
  ·simp[A7 a]at h
 show(w.heap.push o)[k]?=_;simp only[Array.getElem?_push,Nat.ne_of_lt b,CM];exact h
variable {cap off:Nat}{l:zb}{ls:za}{v:Value}{w':World}
def st (m z:Int):Int:=IntKind.u64.wrap (bits BinOp.xor IntKind.u64 m z*1099511628211)
def Pd (n:Int)(l:zb):Int:=l.foldl (λm b=>st m b.toNat) n
def O2 (n:Int):zb:=
 [UInt8.ofNat (n/72057594037927936%256).toNat,UInt8.ofNat (n/281474976710656%256).toNat,UInt8.ofNat (n/1099511627776%256).toNat,UInt8.ofNat (n/4294967296%256).toNat,
  UInt8.ofNat (n/16777216%256).toNat,UInt8.ofNat (n/65536%256).toNat,UInt8.ofNat (n/256%256).toNat,UInt8.ofNat (n%256).toNat]
def Cg:Int:=14695981039346656037
def hash (l:zb):zb:=O2 (Pd Cg l)
def AH (e:zb):zb:=hash (0::e)
def vf (a b:zb):zb:=hash (1::(a++b))
def yo (n:Nat):Nat:=2^(n-1).log2
def bv (b:UInt8):Value:=.int .u8 b.toNat
def hv (l:zb):Array Value:=(l.map bv).toArray
def Xo (m z:Int):0<=st m z/\st m z<=18446744073709551615:=by
 have h:=wf_wrap IntKind.u64 (bits BinOp.xor IntKind.u64 m z*1099511628211);exact bounds_u64 h
def Oo (n:Int)(l:zb)(h0:0<=n)(a:n<=18446744073709551615):0<=Pd n l/\Pd n l<=18446744073709551615:=by
 induction l generalizing n with
 |nil=>exact⟨h0,a⟩
 |cons b l c=>exact c _ (Xo n b.toNat).1 (Xo n b.toNat).2
def Q3 (n:Int)(a b:zb):Pd n (a++b)=Pd (Pd n a) b:=Ij
def zgg (n:Int)(a:zb)(b:UInt8):Pd n (a++[b])=st (Pd n a) b.toNat:=by rw[Q3];rfl
def F6:0<=Cg/\Cg<=18446744073709551615:=by decide
def Jc (l:zb):(hash l).length=8:=rfl
def Nx (l:zb):(AH l).length=8:=rfl
def vm (a b:zb):(vf a b).length=8:=rfl
def IW (x:Int)(h0:0<=x)(a:x<=255):((UInt8.ofNat x.toNat).toNat:Int)=x:=by
 rw[GH];omega
def ZQ (n:Int)(h0:0<=n)(a:n<=18446744073709551615):hv (O2 n) =
  #[.int .u8 (n/72057594037927936),.int .u8 (n/281474976710656%256),.int .u8 (n/1099511627776%256),.int .u8 (n/4294967296%256),
   .int .u8 (n/16777216%256),.int .u8 (n/65536%256),.int .u8 (n/256%256),.int .u8 (n%256)]:=by
 have e:n/72057594037927936%256=n/72057594037927936:=by omega
 simp only[hv,O2,j4,DQ,bv];rw[IW _ (by omega) (by omega),IW _ (by omega) (by omega),IW _ (by omega) (by omega),IW _ (by omega) (by omega),IW _ (by omega) (by omega),IW _ (by omega) (by omega),IW _ (by omega) (by omega),IW _ (by omega) (by omega),e]
def BU (l:zb):(hv l).size=l.length:=by simp[hv]
def Cr (l:zb):(hv l).all (·.oneCell')=true:=by
 simp[hv,bv,Value.oneCell']
def XC (l:zb)(h:l.length=8):∃a b c d e f g i:UInt8,l=[a,b,c,d,e,f,g,i]:=by
 match l,h with
 |[a,b,c,d,e,f,g,i],_=>exact⟨a,b,c,d,e,f,g,i,rfl⟩
def Be (n:Nat)(h:2<=n):yo n<n/\n<=2*yo n/\1<=yo n:=by
 have h0:n-1≠0:=by omega
 have b:=Nat.log2_self_le h0;have a:n-1<2^((n-1).log2+1):=Nat.lt_log2_self;rw[xp]at a;unfold yo;refine⟨by omega,by omega,KW⟩
def zgt (n j:Nat)(h:2^j<n)(a:n<=2^(j+1)):2^j=yo n:=by
 have b:=@KW j;have h0:n-1≠0:=by omega
 have e:(n-1).log2=j:=(Nat.log2_eq_iff h0).2 ⟨by omega,by omega⟩;unfold yo;rw[e]
def Bs (w:World)(v:Value)(l:zb):Prop:=
 ∃a d,v=.slice a l.length d/\(l=[]\/∃b c,a=some ⟨b,c,none⟩/\∀i (h:i<l.length),w.cell? ⟨b,c+i,none⟩=some (bv l[i]))
def JW (w:World)(v:Value)(d:za):Prop:=
 ∃a c,v=.slice a d.length c/\d.length<=c/\(d=[]\/∃b e,a=some ⟨b,e,none⟩/\∀i (h:i<d.length),∃x,w.cell? ⟨b,e+i,none⟩=some x/\Bs w x d[i])
def CT (w:World)(v:Value)(d:List ByteArray):Prop:=
 ∃a c,v=.slice a d.length c/\d.length<=c/\(d=[]\/∃b e,a=some ⟨b,e,none⟩/\∀i (h:i<d.length),w.cell? ⟨b,e+i,none⟩=some (.string d[i]))
def yf {p:Addr}(h:w.cell? p=some v):p.block<w.heap.size:=by
 rcases qf p.block w.heap.size with a|a
 ·exact a
 ·simp[World.cell?,A7 a]at h
def Bs.below (h:Bs w v l)(e:zc w w'):Bs w' v l:=by
 obtain⟨a,d,rfl,h⟩:=h;refine⟨a,d,rfl,?_⟩;rcases h with h|⟨b,c,rfl,f⟩
 ·exact .inl h
 ·exact .inr ⟨b,c,rfl,λi g=>by have:=f i g;rw[e.cell (p:=⟨b,c+i,none⟩) (yf (p:=⟨b,c+i,none⟩) this)];exact this⟩
def JW.below (h:JW w v ls)(g:zc w w'):JW w' v ls:=by
 obtain⟨a,e,rfl,d,h⟩:=h;refine⟨a,e,rfl,d,?_⟩;rcases h with h|⟨b,c,rfl,k⟩
 ·exact .inl h
 ·exact .inr ⟨b,c,rfl,λi l=>by obtain⟨x,j,f⟩:=k i l;exact⟨x,by rw[g.cell (p:=⟨b,c+i,none⟩) (yf (p:=⟨b,c+i,none⟩) j)];exact j,f.below g⟩⟩
def CT.below {f:List ByteArray}(h:CT w v f)(g:zc w w'):CT w' v f:=by
 obtain⟨a,e,rfl,d,h⟩:=h;refine⟨a,e,rfl,d,?_⟩;rcases h with h|⟨b,c,rfl,j⟩
 ·exact .inl h
 ·exact .inr ⟨b,c,rfl,λi k=>by have:=j i k;rw[g.cell (p:=⟨b,c+i,none⟩) (yf (p:=⟨b,c+i,none⟩) this)];exact this⟩
def j7:Nat->za->zb
 |0,_=>hash []
 |f+1,l=>if l.length=0 then hash [] else if l.length=1 then AH (l.headD []) else vf (j7 f (l.take (yo l.length))) (j7 f (l.drop (yo l.length)))
def j5 (f:Nat)(l:za):(j7 f l).length=8:=by
 cases f with
 |zero=>rfl
 |succ f =>
  unfold j7;split
  ·rfl
  ·split<;>rfl
def Dd (f:Nat)(l:za)(h:l.length=0):j7 f l=hash []:=by
 cases f with
 |zero=>rfl
 |succ f=>unfold j7;rw[if_pos h]
def Gm (f:Nat)(l:za)(h:l.length=1):j7 (f+1) l=AH (l.headD []):=by
 unfold j7;rw[if_neg (by omega),if_pos h]
def Ct (f:Nat)(l:za)(h:2<=l.length):j7 (f+1) l=vf (j7 f (l.take (yo l.length))) (j7 f (l.drop (yo l.length))):=by
 rw[j7,if_neg (by omega),if_neg (by omega)]
def JW.take {b n:Nat}(h:JW w (.slice (some ⟨b,off,none⟩) n cap) ls)(k:Nat)(q:k<=ls.length):JW w (.slice (some ⟨b,off,none⟩) k cap) (ls.take k):=by
 obtain⟨a,c,e,f,h⟩:=h;simp only[jk]at e;obtain⟨rfl,rfl,rfl⟩:=e;have d:(ls.take k).length=k:=by simp;omega
 refine⟨some ⟨b,off,none⟩,cap,by rw[d],by rw[d];omega,?_⟩;rcases h with h|⟨p,g,e,l⟩
 ·left;simp[h]
 ·simp only[zn,Ce]at e;obtain⟨rfl,rfl,_⟩:=e;refine .inr ⟨b,off,rfl,λi m=>?_⟩;obtain⟨x,o,j⟩:=l i (by rw[d]at m;omega);exact⟨x,o,by rw[js];exact j⟩
def JW.drop {b n:Nat}(h:JW w (.slice (some ⟨b,off,none⟩) n cap) ls)(k:Nat)(q:k<=ls.length):JW w (.slice (some ⟨b,off+k,none⟩) (n-k) (cap-k)) (ls.drop k):=by
 obtain⟨a,c,e,f,h⟩:=h;simp only[jk]at e;obtain⟨rfl,rfl,rfl⟩:=e;have d:(ls.drop k).length=ls.length-k:=by simp
 refine⟨some ⟨b,off+k,none⟩,cap-k,by rw[d],by rw[d];omega,?_⟩;rcases h with h|⟨p,g,e,l⟩
 ·left;simp[h]
 ·simp only[zn,Ce]at e;obtain⟨rfl,rfl,_⟩:=e;refine .inr ⟨b,off+k,rfl,λi m=>?_⟩;obtain⟨x,o,j⟩:=l (k+i) (by rw[d]at m;omega);exact⟨x,by rw[AP];exact o,by rw[Ai];exact j⟩
def CT.take {b n:Nat}{d:List ByteArray}(h:CT w (.slice (some ⟨b,off,none⟩) n cap) d)(k:Nat)(p:k<=d.length):CT w (.slice (some ⟨b,off,none⟩) k cap) (d.take k):=by
 obtain⟨a,c,e,g,h⟩:=h;simp only[jk]at e;obtain⟨rfl,rfl,rfl⟩:=e;have f:(d.take k).length=k:=by simp;omega
 refine⟨some ⟨b,off,none⟩,cap,by rw[f],by rw[f];omega,?_⟩;rcases h with h|⟨o,j,e,l⟩
 ·left;simp[h]
 ·simp only[zn,Ce]at e;obtain⟨rfl,rfl,_⟩:=e;refine .inr ⟨b,off,rfl,λi m=>?_⟩;rw[l i (by rw[f]at m;omega),js]
def CT.drop {b n:Nat}{d:List ByteArray}(h:CT w (.slice (some ⟨b,off,none⟩) n cap) d)(k:Nat)(p:k<=d.length):CT w (.slice (some ⟨b,off+k,none⟩) (n-k) (cap-k)) (d.drop k):=by
 obtain⟨a,c,e,g,h⟩:=h;simp only[jk]at e;obtain⟨rfl,rfl,rfl⟩:=e;have f:(d.drop k).length=d.length-k:=by simp
 refine⟨some ⟨b,off+k,none⟩,cap-k,by rw[f],by rw[f];omega,?_⟩;rcases h with h|⟨o,j,e,l⟩
 ·left;simp[h]
 ·simp only[zn,Ce]at e;obtain⟨rfl,rfl,_⟩:=e;refine .inr ⟨b,off+k,rfl,λi m=>?_⟩;rw[AP,l (k+i) (by rw[f]at m;omega),Ai]
def zlo {k:IntKind}{a b:Int}(h:a=b):Ending.returned (.int k a)=.returned (.int k b):=by rw[h]
def VN (n:Int)(l:zb)(k:Nat)(h:k<l.length):Pd n (l.take (k+1))=st (Pd n (l.take k)) l[k].toNat:=by
 rw[yz h,zgg]
def zi4 (n:Int)(v:Value)(l:zb)(w:World)(d:l.length<=maxLen)(h0:0<=n)(s:n<=18446744073709551615)(hv:Bs w v l):
  Calls prog 153 #[.int .u64 n,v] w λe u=>e=.returned (.int .u64 (Pd n l))/\u=w:=by
 unfold maxLen at d;obtain⟨a,r,rfl,hv⟩:=hv;have j:l.length=0\/∃b c,a=some ⟨b,c,none⟩/\∀i (h:i<l.length),w.cell? ⟨b,c+i,none⟩=some (bv l[i]):=by
  rcases hv with h|h
  ·exact .inl (by simp[h])
  ·exact .inr h
 have g:=ze j;go_enter func153,ntmps153
 go_wp2
 go_loop [0,9] (λt i=>∃k:Nat,k<=l.length/\i=.int .i64 k/\t=.int .u64 (Pd n (l.take k))) (λ_ i=>l.length-(intOf i).toNat)
 case atStart=>exact⟨0,yk _,rfl,rfl⟩
 case round =>
  obtain⟨k,y,rfl,rfl⟩:=hrel;obtain⟨B,C⟩:=Oo n (l.take k) h0 s
  by_cases f:k<l.length
  ·rcases g.o with h|⟨b,c,rfl,p⟩
   ·omega
   ·have A:w.cell? ⟨b,c+k,none⟩=some (.int .u8 (l[k].toNat)):=p k f;have x:(l[k].toNat:Int)<=255:=by have:=l[k].toNat_lt;omega
    have q:=ze (VN n l k f);clear p g;generalize l[k].toNat=z at *;generalize Pd n (l.take k)=m at *
    go_wp2
    go_round
    case rel=>exact⟨k+1,by omega,by go_num,by rw[q.o];rfl⟩
    case measure=>simp[intOf];omega
  ·clear g
   go_wp2
   go_ret;exact⟨zlo (by rw[xn (by omega)]),rfl⟩
def zgl (n:Int)(w:World)(h0:0<=n)(b:n<=18446744073709551615):
  Calls prog 126 #[.int .u64 n] w λe c=>e=.returned (.agg (hv (O2 n)))/\zc w c:=by
 have a:=ze (ZQ n h0 b);go_enter func126,ntmps126
 go_wp2
 refine FB 9 ?_;rw[vu]
 go_wp2
 rw[vu]
 go_wp2
 rw[vu]
 go_wp2
 rw[vu]
 go_wp2
 rw[vu]
 go_wp2
 rw[vu]
 go_wp2
 rw[vu]
 go_wp2
 rw[vu]
 go_wp2
 rw[vu]
 go_wp2
 refine zv (v:=.agg #[.int .u8 (n/72057594037927936),.int .u8 (n/281474976710656%256),.int .u8 (n/1099511627776%256),.int .u8 (n/4294967296%256),.int .u8 (n/16777216%256),.int .u8 (n/65536%256),.int .u8 (n/256%256),.int .u8 (n%256)]) (by simp[results,results126,go_sem]) rfl ⟨by rw[a.o],((zu _ _).alloc (zk _) _).alloc (by simp) _⟩
def zgf (n:Int)(a:za)(k:Nat)(h:k<a.length):Pd n (a.take (k+1)).flatten=Pd (Pd n (a.take k).flatten) a[k]:=by
 rw[yz h,Ej,Q3];simp
def Kl (v:Value)(c:za)(w:World)(r:c.length<=maxLen)(H:∀l∈c,l.length<=maxLen)(z:JW w v c):
  Calls prog 108 #[v] w λe u=>e=.returned (.agg (hv (hash c.flatten)))/\zc w u:=by
 unfold maxLen at r;have M:=ze H;clear H;obtain⟨a,N,rfl,F,f⟩:=z;have s:c.length=0\/∃b d,a=some ⟨b,d,none⟩/\∀i (h:i<c.length),∃x,w.cell? ⟨b,d+i,none⟩=some x/\Bs w x c[i]:=by
  rcases f with h|h
  ·exact .inl (by simp[h])
  ·exact .inr h
 have C:=ze s;clear f s;go_enter func108,ntmps108
 go_wp2
 go_loop [3,8] (λt i=>∃k:Nat,k<=c.length/\i=.int .i64 k/\t=.int .u64 (Pd Cg (c.take k).flatten)) (λ_ i=>c.length-(intOf i).toNat)
 case atStart=>exact⟨0,yk _,rfl,rfl⟩
 case round =>
  obtain⟨k,P,rfl,rfl⟩:=hrel;obtain⟨I,J⟩:=Oo Cg (c.take k).flatten F6.1 F6.2
  by_cases g:k<c.length
  ·rcases C.o with h|⟨b,d,rfl,E⟩
   ·omega
   ·obtain⟨x,A,j⟩:=E k g;have Q:∀o,(w.alloc o).cell? ⟨b,d+k,none⟩=some x:=λo=>by rw[((zu _ _).alloc (zk _) o:zc w (w.alloc o)).cell (yf (p:=⟨b,d+k,none⟩) A)];exact A
    have n:Hid (∀o,Bs (w.alloc o) x c[k]):=λo=>j.below ((zu _ _).alloc (zk _) o);have K:=ze (zgf Cg c k g);have y:=ze (M.o c[k] (ye g));clear E C j A;generalize c[k]=O at *;generalize Pd Cg (c.take k).flatten=m at *;go_wp2_with fail;refine(zi4 m x O _ y.o I J (n.out _)).mono ?_;rintro e u ⟨rfl,rfl⟩
    go_wp2
    go_round
    case rel=>exact⟨k+1,by omega,by go_num,by rw[K.o]⟩
    case measure=>simp[intOf];omega
  ·have q:c.take k=c:=xn (by omega);have L:=ze q;clear q;go_wp2_with fail;refine(zgl _ _ I J).mono ?_;rintro e u ⟨rfl,D⟩;have G:u.heap[w.heap.size]?=some (.cells #[Value.int IntKind.u8 0,Value.int IntKind.u8 0,Value.int IntKind.u8 0,Value.int IntKind.u8 0,Value.int IntKind.u8 0,Value.int IntKind.u8 0,Value.int IntKind.u8 0,Value.int IntKind.u8 0] 91 (0,0)):=by
    rw[D.block _ (by simp)];exact zf _ _
   have B:=ze G;clear G;go_wp2_with (refine yw rfl 91 _ _ rfl w.heap.size (hv (O2 (Pd Cg (List.take k c).flatten))) rfl rfl 91 _ B.o (by kernel_rfl) rfl (Cr _) ?_);refine zv (v:=.agg (hv (O2 (Pd Cg (List.take k c).flatten)))) (Ca results108 _ _ w.heap.size 91 _ (0,0) _ rfl (Av _ _ _ _ _ _ B.o) underlying91 rfl (by kernel_rfl)) rfl ⟨?_,?_⟩
   ·rw[L.o];rfl
   ·exact Ag (((zu _ _).alloc (zk _) _).trans (D.mono (by simp))) (zk _) _
def F5 (w:World)(c:Array Value)(t:TypeId)(i n:Nat)(a:n=w.heap.size):(w.alloc (.cells c t)).cell? ⟨n,i,none⟩=c[i]?:=by
 subst a;rw[xe _ _ _ c t (0,0) (zf _ _)]
def xg (w:World)(o:Obj)(p:Addr)(h:p.block<w.heap.size):(w.alloc o).cell? p=w.cell? p:=
 ((zu _ _).alloc (zk _) o:zc w (w.alloc o)).cell h
def Ze (w:World)(o:Obj):(w.alloc o).heap.size=w.heap.size+1:=by simp
def zi (w:World)(o:Obj):zc w (w.alloc o):=(zu _ _).alloc (zk _) o
def qg (w:World)(o p:Obj):zc w ((w.alloc o).alloc p):=(zi w o).trans ((zi _ p).mono (by simp))
def Bv (w:World)(o p q:Obj):zc w (((w.alloc o).alloc p).alloc q):=(qg w o p).trans ((zi _ q).mono (by simp;omega))
def Bs.fresh (w:World)(l:zb)(t:TypeId)(n:Nat)(b:n=w.heap.size)(a:Nat):Bs (w.alloc (.cells (hv l) t)) (.slice (some ⟨n,0,none⟩) l.length a) l:=
 ⟨_,_,rfl,.inr ⟨_,_,rfl,λi h=>by rw[F5 _ _ _ _ _ b];simp[hv,h]⟩⟩
def Yx (w:World)(o:Obj)(v:Value)(e:zb)(h:Bs w v e):
  JW (((w.alloc o).alloc (.cells #[.int .u8 0] 5)).alloc (.cells #[.slice (some ⟨w.heap.size+1,0,none⟩) 1 1,v] 94)) (.slice (some ⟨w.heap.size+1+1,0,none⟩) 2 2) [[0],e]:=by
 refine⟨_,_,rfl,zk _,.inr ⟨_,_,rfl,λi a=>?_⟩⟩
 match i,a with
 |0,_ =>
  refine⟨.slice (some ⟨w.heap.size+1,0,none⟩) 1 1,by rw[F5 _ _ _ _ _ (by simp)];rfl,?_⟩;exact(Bs.fresh (w.alloc o) [0] _ _ (by simp) 1).below (zi _ _)
 |1,_ =>
  refine⟨v,by rw[F5 _ _ _ _ _ (by simp)];rfl,?_⟩;exact h.below (Bv _ _ _ _)
def QB (v:Value)(e:zb)(w:World)(c:e.length<=maxLen)(h:Bs w v e):
  Calls prog 64 #[v] w λr d=>r=.returned (.agg (hv (AH e)))/\zc w d:=by
 have H:=ze h;have b:=ze c;obtain⟨a,k,rfl,n⟩:=h;go_enter func64,ntmps64;go_wp2_with fail;refine(Kl _ [[0],e] _ (by unfold maxLen;simp) (λl i=>by simp at i;rcases i with rfl|rfl;(simp[maxLen]);exact b.o) (Yx w _ _ e H.o)).mono ?_;rintro r d ⟨j,g⟩;rw[show hash [[0],e].flatten=AH e by simp[AH]]at j;subst j;have m:d.heap[w.heap.size]?=some (.cells #[Value.int IntKind.u8 0,Value.int IntKind.u8 0,Value.int IntKind.u8 0,Value.int IntKind.u8 0,Value.int IntKind.u8 0,Value.int IntKind.u8 0,Value.int IntKind.u8 0,Value.int IntKind.u8 0] 91 (0,0)):=by
  rw[g.block _ (by simp;omega)];exact zr (zr (zf _ _))
 have f:=ze m;go_wp2_with (refine yw rfl 91 _ _ rfl w.heap.size (hv (AH e)) rfl rfl 91 _ f.o (by kernel_rfl) rfl (Cr _) ?_);refine zv (v:=.agg (hv (AH e))) (Ca results64 _ _ w.heap.size 91 _ (0,0) _ rfl (Av _ _ _ _ _ _ f.o) underlying91 rfl (by kernel_rfl)) rfl ⟨?_,?_⟩
 ·rfl
 ·exact Ag ((Bv _ _ _ _).trans (g.mono (by simp;omega))) (zk _) _
def AL (l:zb):Value:=.string ⟨l.toArray⟩
def G2 (w:World)(g:Nat)(a n:Nat)(l:zb)(t:TypeId)(b:Nat×Nat)(e:l.length=n)(c:w.heap[g]?=some (.cells (hv l) t b)):
  (convert 94 9 (.slice (some ⟨g,0,none⟩) n a)).run prog w=.ok (AL l) w:=by
 subst e;refine BB w _ _ 5 ⟨g,0,none⟩ a l underlying94 jc xt (λj d=>?_);rw[vp,xk,xe _ _ _ _ _ _ c];simp[hv,bv,d]
def zm9 (m:Int)(a:0<=m)(b:m<=18446744073709551615):(#[Value.int IntKind.u8 (m/256/256/256/256/256/256/256),
        Value.int IntKind.u8 (m/256/256/256/256/256/256%256),
        Value.int IntKind.u8 (m/256/256/256/256/256%256),
        Value.int IntKind.u8 (m/256/256/256/256%256),
        Value.int IntKind.u8 (m/256/256/256%256),Value.int IntKind.u8 (m/256/256%256),
        Value.int IntKind.u8 (m/256%256),Value.int IntKind.u8 (m%256)]:Array Value)=hv (O2 m):=by
 rw[ZQ m a b];rw[show m/256/256/256/256/256/256/256=m/72057594037927936 by omega,show m/256/256/256/256/256/256=m/281474976710656 by omega,show m/256/256/256/256/256=m/1099511627776 by omega,show m/256/256/256/256=m/4294967296 by omega,show m/256/256/256=m/16777216 by omega,show m/256/256=m/65536 by omega]
def G6 (s:ByteArray)(w:World)(j:s.size<=maxLen):
  Calls prog 61 #[.string s] w λe l=>e=.returned (AL (hash s.data.toList))/\zc w l:=by
 unfold maxLen at j;have h:∀w,(Instr.makeSlice 94 (.int .i64 8) (.int .i64 8)).run prog w=.ok (.slice (some ⟨w.heap.size,0,none⟩) 8 8) (w.alloc (.cells #[Value.int IntKind.u8 0,Value.int IntKind.u8 0,Value.int IntKind.u8 0,Value.int IntKind.u8 0,Value.int IntKind.u8 0,Value.int IntKind.u8 0,Value.int IntKind.u8 0,Value.int IntKind.u8 0] 5)):=λ_=>by kernel_rfl
 go_enter func61,ntmps61
 go_wp2
 go_loop [3,4] (λt i=>∃k:Nat,k<=s.size/\i=.int .i64 k/\t=.int .u64 (Pd Cg (s.data.toList.take k))) (λ_ i=>s.size-(intOf i).toNat)
 case atStart=>exact⟨0,yk _,rfl,rfl⟩
 case round =>
  obtain⟨k,p,rfl,rfl⟩:=hrel;obtain⟨c,d⟩:=Oo Cg (s.data.toList.take k) F6.1 F6.2
  by_cases b:k<s.size
  ·have f:Hid (Pd Cg (s.data.toList.take (k+1))=st (Pd Cg (s.data.toList.take k)) (s[k]).toNat):=VN Cg s.data.toList k (by simpa using b);have n:((s[k]).toNat:Int)<=255:=by have:=(s[k]).toNat_lt;omega
   generalize Pd Cg (s.data.toList.take k)=m at *
   go_wp2
   go_round
   case rel=>exact⟨k+1,by omega,by go_num,by rw[f.o];unfold st;rfl⟩
   case measure=>simp[intOf];omega
  ·have a:s.data.toList.take k=s.data.toList:=xn (by simp;show s.size<=k;omega);rw[a]at c d ⊢;have g:Hid (hash s.data.toList=O2 (Pd Cg s.data.toList)):=rfl;generalize Pd Cg s.data.toList=m at *;go_wp2_with fail;refine FB 9 ?_;rw[vu]
   go_wp2
   rw[vu]
   go_wp2
   rw[vu]
   go_wp2
   rw[vu]
   go_wp2
   rw[vu]
   go_wp2
   rw[vu]
   go_wp2
   rw[vu]
   go_wp2
   rw[vu]
   go_wp2
   rw[vu]
   go_wp2
   rw[zm9 m c d,G2 _ w.heap.size 8 8 (O2 m) 5 (0,0) rfl (zf _ _)]
   go_wp2
   go_ret;exact⟨by rw[g.o];rfl,(zu _ _).alloc (zk _) _⟩
def F4 (a b:ByteArray):(a++b).data.toList=a.data.toList++b.data.toList:=by simp
def G9 (a b:ByteArray):(a++b).size=a.size+b.size:=by simp
def LM (s:ByteArray)(w:World)(c:s.size<maxLen):
  Calls prog 18 #[.string s] w λe d=>e=.returned (AL (AH s.data.toList))/\zc w d:=by
 have f:=ze c;have h:¬9223372036854775807<1+s.size:=by unfold maxLen at c;omega
 go_enter func18,ntmps18;go_wp2_with fail;refine(G6 _ w (by rw[G9];have:=f.o;show 1+s.size<=maxLen;omega)).mono ?_;rintro e d ⟨b,g⟩;rw[F4]at b;have a:=b;subst a
 go_wp2
 go_ret;exact⟨rfl,g⟩
def E4 (a b:zb)(w:World)(h:a.length<=8)(i:b.length<=8):
  Calls prog 63 #[AL a,AL b] w λe g=>e=.returned (AL (vf a b))/\zc w g:=by
 unfold AL;go_enter func63,ntmps63;go_wp2_with fail;refine(G6 _ w (by rw[G9,G9];show 1+a.toArray.size+b.toArray.size<=maxLen;simp[maxLen];omega)).mono ?_;rintro e g ⟨f,c⟩;rw[F4,F4]at f;have d:e=.returned (AL (vf a b)):=by rw[f];simp[vf]
 subst d
 go_wp2
 go_ret;exact⟨rfl,c⟩
def WW (a b:zb)(w:World)(d:a.length=8)(f:b.length=8):
  Calls prog 63 #[AL a,AL b] w λe c=>e=.returned (AL (vf a b))/\zc w c:=
 E4 a b w (by omega) (by omega)
def XR (m:Nat)(h:m≠0)(a:m<2^64):Lib.bitLen m=m.log2+1:=by
 have b:=Nat.log2_self_le h;have c:m<2^(m.log2+1):=Nat.lt_log2_self;rw[Lib.bitLen_shift m.log2 m b a];have e:m/2^m.log2=1:=by
  have d:0<2^m.log2:=Nat.two_pow_pos _;rw[xp]at c;exact Nat.div_eq_of_lt_le (by omega) (by omega)
 rw[e]
 rfl
def zns (q:Int)(h0:0<=q)(b:q<256)(a:q.toNat<Lib.len8tab.size):((Lib.len8tab[q.toNat]'a).toNat:Int)=Lib.bitLen q.toNat:=by
 rw[<- Lib.len8_of q h0 (by omega)];unfold Lib.len8;rw[getElem?_pos Lib.len8tab q.toNat a]
 rfl
def Jf (c:Nat)(q:Int)(x:Nat)(e:c<=56)(h0:0<=q)(b:q<256)(a:q.toNat<Lib.len8tab.size)(d:Lib.bitLen x=c+Lib.bitLen q.toNat):
  wrap64 (c+wrap64 ((Lib.len8tab[q.toNat]'a).toNat:Int))=(Lib.bitLen x:Int):=by
 rw[zns q h0 b a,d];have:=Lib.bitLen_le8' q h0 (by omega);rw[show wrap64 (Lib.bitLen q.toNat:Int)=(Lib.bitLen q.toNat:Int) by unfold wrap64;omega];unfold wrap64;omega
def zb5 (x:Int)(w:World)(h0:0<=x)(c:x<=18446744073709551615):
  Calls prog 196 #[.int .u64 x] w λe b=>e=.returned (.int .i64 (Lib.bitLen x.toNat))/\b=w:=by
 have a:=Lib.len8tab_size;go_enter func196,ntmps196
 go_wp2
 all_goals go_ret
 all_goals refine⟨congrArg Ending.returned (congrArg (Value.int IntKind.i64) ?_),rfl⟩
 ·exact Jf 56 _ _ (by omega) (by omega) (by omega) (by omega) (by rw[Lib.bitLen_shift56 x.toNat (by omega) (by omega)];congr 2;omega)
 ·exact Jf 48 _ _ (by omega) (by omega) (by omega) (by omega) (by rw[Lib.bitLen_shift48 x.toNat (by omega) (by omega)];congr 2;omega)
 ·exact Jf 40 _ _ (by omega) (by omega) (by omega) (by omega) (by rw[Lib.bitLen_shift40 x.toNat (by omega) (by omega)];congr 2;omega)
 ·exact Jf 32 _ _ (by omega) (by omega) (by omega) (by omega) (by rw[Lib.bitLen_shift32 x.toNat (by omega) (by omega)];congr 2;omega)
 ·exact Jf 24 _ _ (by omega) (by omega) (by omega) (by omega) (by rw[Lib.bitLen_shift24 x.toNat (by omega) (by omega)];congr 2;omega)
 ·exact Jf 16 _ _ (by omega) (by omega) (by omega) (by omega) (by rw[Lib.bitLen_shift16 x.toNat (by omega) (by omega)];congr 2;omega)
 ·exact Jf 8 _ _ (by omega) (by omega) (by omega) (by omega) (by rw[Lib.bitLen_shift8 x.toNat (by omega) (by omega)];congr 2;omega)
 ·have:=Jf 0 x x.toNat (by omega) (by omega) (by omega) (by omega) (by simp);simpa using this
def zkx (x:Int)(w:World)(h0:0<=x)(b:x<=18446744073709551615):
  Calls prog 154 #[.int .u64 x] w λe a=>e=.returned (.int .i64 (Lib.bitLen x.toNat))/\a=w:=by
 go_enter func154,ntmps154;go_wp2_with fail;refine(zb5 x w h0 b).mono ?_;rintro e a ⟨rfl,rfl⟩
 go_wp2
 go_ret;exact⟨rfl,rfl⟩
def Mi (n:Nat)(w:World)(h0:2<=n)(h:n<=9223372036854775807):
  Calls prog 109 #[.int .i64 n] w λe c=>e=.returned (.int .i64 (yo n))/\c=w:=by
 go_enter func109,ntmps109;go_wp2_with fail;refine(zkx ((n:Int)-1) w (by omega) (by omega)).mono ?_;rintro e c ⟨b,rfl⟩;have g:Lib.bitLen ((n:Int)-1).toNat=(n-1).log2+1:=by
  rw[show((n:Int)-1).toNat=n-1 by omega];exact XR _ (by omega) (by omega)
 have a:(n-1).log2<=62:=by
  have:=(Nat.log2_lt (n:=n-1) (k:=63) (by omega)).2 (by omega);omega
 rw[g]at b;subst b;have d:Hid (yo n=2^(n-1).log2):=rfl;generalize (n-1).log2=j at *
 go_wp2
 go_ret;refine⟨congrArg Ending.returned (congrArg (Value.int IntKind.i64) ?_),rfl⟩;have i:2^j<=2^62:=j2 (by omega) a;have f:((2:Int)^j)=((2^j:Nat):Int):=by simp
 rw[d.o];show wrap64 ((2:Int)^j)=_;rw[f];generalize 2^j=p at *;unfold wrap64;omega
def Fk (n:Nat)(w:World)(h0:2<=n)(g:n<=9223372036854775807):
  Calls prog 62 #[.int .i64 n] w λe f=>e=.returned (.int .i64 (yo n))/\f=w:=by
 go_enter func62,ntmps62
 go_wp2
 go_loop [3] (λt=>∃j:Nat,∃k:Nat,k=2^j/\k<n/\t=.int .i64 k) (λt=>n-(intOf t).toNat)
 case atStart=>exact⟨0,1,rfl,by omega,rfl⟩
 case round =>
  obtain⟨j,k,b,d,rfl⟩:=hrel;have a:=ze b;have c:1<=k:=by rw[b];exact KW
  clear b
  by_cases h:2*k<n
  ·go_wp2
   go_round
   case rel=>exact⟨j+1,2*k,by rw[a.o,xp];omega,by omega,by go_num⟩
   case measure=>simp[intOf];omega
  ·go_wp2
   go_ret;refine⟨congrArg Ending.returned (congrArg (Value.int IntKind.i64) (congrArg Int.ofNat ?_)),rfl⟩;rw[a.o];exact zgt n j (by rw[<- a.o];omega) (by rw[xp,<- a.o];omega)
def A0 (a:List ByteArray):za:=a.map λs=>s.data.toList
def jd (a:List ByteArray):(A0 a).length=a.length:=by simp[A0]
def F3 (a:List ByteArray)(k:Nat):A0 (a.take k)=(A0 a).take k:=by simp[A0]
def Lj (a:List ByteArray)(k:Nat):A0 (a.drop k)=(A0 a).drop k:=by simp[A0]
def ND (f:Nat)(v:Value)(b:List ByteArray)(w:World)(h0:b.length=0)(h:CT w v b):
  Calls prog 16 #[v] w λr e=>r=.returned (AL (j7 f (A0 b)))/\zc w e:=by
 obtain⟨a,g,rfl,d,-⟩:=h;rw[Dd f (A0 b) (by rw[jd];exact h0),h0];go_enter func16,ntmps16;go_wp2_with fail;refine(G6 _ _ (by decide)).mono ?_;rintro r e ⟨j,i⟩;have c:=j;subst c
 go_wp2
 go_ret;exact⟨rfl,i⟩
def WX (f:Nat)(v:Value)(d:List ByteArray)(w:World)(i:d.length=1)(k:∀s∈d,s.size<maxLen)(h:CT w v d):
  Calls prog 16 #[v] w λr l=>r=.returned (AL (j7 (f+1) (A0 d)))/\zc w l:=by
 rw[Gm f (A0 d) (by rw[jd];exact i)];obtain⟨s,rfl⟩:=List.length_eq_one_iff.1 i;obtain⟨a,n,rfl,c,h⟩:=h;rcases h with h|⟨b,e,rfl,j⟩
 ·simp at h
 have q:w.cell? ⟨b,e,none⟩=some (.string s):=j 0 (by simp);have m:=ze (k s (by simp));clear c j k;have g:A0 [s]=[s.data.toList]:=rfl;rw[g];clear g;simp only[Cu,List.headD_cons]at *;go_enter func16,ntmps16;go_wp2_with fail;refine(LM s _ m.o).mono ?_;rintro r l ⟨rfl,p⟩
 go_wp2
 go_ret;exact⟨rfl,p⟩
def UG (f:Nat)(b j c:Nat)(a:List ByteArray)(w:World)(n:2<=a.length)(A:a.length<=1000000)(y:a.length<=c)(i:∀s∈a,s.size<maxLen)(h:CT w (.slice (some ⟨b,j,none⟩) a.length c) a)
 (B:∀(v:Value) (a:List ByteArray) (w:World),a.length<=f->a.length<=1000000->(∀s∈a,s.size<maxLen)->CT w v a->Calls prog 16 #[v] w λr k=>r=.returned (AL (j7 f (A0 a)))/\zc w k) (G:a.length<=f+1) :
  Calls prog 16 #[.slice (some ⟨b,j,none⟩) a.length c] w λr k=>r=.returned (AL (j7 (f+1) (A0 a)))/\zc w k:=by
 obtain⟨I,J,K⟩:=Be a.length n;rw[Ct f (A0 a) (by rw[jd];exact n),jd,<- F3,<- Lj];have z:yo a.length<=a.length:=by omega
 have u:=ze i;have H:=ze h;have x:=ze B;have f1:(a.take (yo a.length)).length<=f:=by simp;omega
 have f2:(a.drop (yo a.length)).length<=f:=by simp;omega
 have f3:(a.take (yo a.length)).length<=1000000:=by simp;omega
 have f4:(a.drop (yo a.length)).length<=1000000:=by simp;omega
 have F:=ze (And.intro f1 (And.intro f2 (And.intro f3 f4)));have L:((a.length:Int)==0)=false:=yp.2 (by omega);have M:((a.length:Int)==1)=false:=yp.2 (by omega);go_enter func16,ntmps16;go_wp2_with fail;refine(Fk a.length _ n (zt A (by decide))).mono ?_;rintro e k ⟨rfl,rfl⟩;have C:(yo a.length:Int)<=(c:Int):=by omega
 have D:(yo a.length:Int)<=(a.length:Int):=by omega
 have E:(0:Int)<=(yo a.length:Int):=by omega
 go_wp2_with fail;refine(x.out _ (a.take (yo a.length)) _ F.out.1 F.out.2.2.1 (λl i=>u.o l (qa i)) (by exact H.o.take _ z)).mono ?_;rintro e N ⟨rfl,p⟩;have d:=ze p;go_wp2_with fail;refine(x.out _ (a.drop (yo a.length)) _ F.out.2.1 F.out.2.2.2 (λl i=>u.o l (jz i)) (by exact(H.o.drop _ z).below d.o)).mono ?_;rintro e O ⟨rfl,q⟩;have g:=ze (d.o.trans (q.mono d.o.size));go_wp2_with fail;refine(WW _ _ _ (j5 _ _) (j5 _ _)).mono ?_;rintro e P ⟨rfl,t⟩;have m:=ze (g.o.trans (t.mono g.o.size))
 go_wp2
 go_ret;exact⟨rfl,m.o⟩
def G7 (f:Nat):∀(v:Value) (c:List ByteArray) (w:World),c.length<=f->c.length<=1000000->(∀s∈c,s.size<maxLen)->CT w v c ->
  Calls prog 16 #[v] w λr o=>r=.returned (AL (j7 f (A0 c)))/\zc w o:=by
 induction f with
 |zero=>exact λv c w i _ _ h=>ND 0 v c w (by omega) h
 |succ f n =>
  intro v c w i m j h
  by_cases h0:c.length=0
  ·exact ND _ v c w h0 h
  by_cases l:c.length=1
  ·exact WX f v c w l j h
  ·have k:=h;obtain⟨a,e,rfl,d,h⟩:=h;rcases h with h|⟨b,g,rfl,-⟩
   ·exact absurd (by simp[h]) h0
   ·exact UG f b g e c w (by omega) m d j k n i
variable {B cap' g:Nat}{e:TypeId}{o2:Obj}{u x:Value}{w1 wr:World}
def zfl (a:List ByteArray)(k:Nat)(h:k<a.length):(A0 a).take (k+1)=(A0 a).take k++[a[k].data.toList]:=by
 rw[yz (by rw[jd];exact h)];simp[A0]
def EB (w:World)(B:Nat)(x:Value)(l:zb):Prop:=
 ∃g a C b,x=.slice (some ⟨g,0,none⟩) l.length a/\B<=g/\w.heap[g]?=some (.cells C 5 b)/\(∀i (h:i<l.length),C[i]?=some (bv l[i]))/\l.length<=b.1
def EBs (w:World)(B:Nat)(v:Value)(a:za):Prop:=
 ∃b:List Value,w.ownsRow B 94 1 v a.length b/\∀j (h:j<a.length),∃x,b[j]?=some x/\EB w B x a[j]
def vk {o:Obj}(h:w.heap[g]?=some o):g<w.heap.size:=by
 rcases qf g w.heap.size with a|a
 ·exact a
 ·simp[A7 a]at h
def EB.below (h:EB w B x l)(f:zc w w'):EB w' B x l:=by
 obtain⟨g,a,C,c,e,d,b,i,j⟩:=h;exact⟨g,a,C,c,e,d,by rw[f.block g (vk b)];exact b,i,j⟩
def EB.grown {n:Nat}{xs:List Value}(h:EB w B x l)(p:w.ownsRow B 94 1 v n xs)(d:w.grownBy w' v.ownBlock):EB w' B x l:=by
 obtain⟨g,b,C,j,e,k,c,m,o⟩:=h;refine⟨g,b,C,j,e,k,?_,m,o⟩;rw[d.block g (vk c) ?_]
 ·exact c
 ·intro f;rcases p.2 with ⟨rfl,_⟩|⟨r,q,i,rfl,_,a,_⟩
  ·simp[Value.ownBlock]at f
  ·simp only[Value.ownBlock,zn]at f;subst f;rw[c]at a;simp at a
def yx {s:Nat}{n:Nat}{d:List Value}(h:w.ownsRow B e s v n d)(j:zc w w'):w'.ownsRow B e s v n d:=by
 refine⟨h.1,?_⟩;rcases h.2 with h|⟨g,a,b,f,i,c,r⟩
 ·exact .inl h
 ·exact .inr ⟨g,a,b,f,i,by rw[j.block g (vk c)];exact c,r⟩
def EB.bs (h:EB w B x l):Bs w x l:=by
 obtain⟨g,a,C,e,rfl,f,c,b,j⟩:=h;refine⟨_,_,rfl,.inr ⟨g,0,rfl,λi d=>?_⟩⟩;rw[xk,xe _ _ _ _ _ _ c];exact b i d
def EBs.cg (h:EBs w B v ls):JW w v ls:=by
 obtain⟨r,⟨o,k⟩,m⟩:=h;rcases k with ⟨rfl,h0⟩|⟨g,b,c,rfl,n,f,j,p,q,l⟩
 ·exact⟨none,0,by rw[h0],by rw[h0];exact zk _,.inl (vw.1 h0)⟩
 ·refine⟨_,_,rfl,j,.inr ⟨g,0,rfl,λi a=>?_⟩⟩;obtain⟨x,e,d⟩:=m i a;refine⟨x,?_,d.bs⟩;rw[xk,xe _ _ _ _ _ _ f];rw[<- l,Ba]at e;rw[qi,if_pos a]at e;simpa using e
def EB.conv (w:World)(s:ByteArray)(B a:Nat)(c:B<=w.heap.size):
  EB (w.alloc (.cells (bytesRow s a) 5 ((bytesRow s a).size,(bytesRow s a).size+1))) B (.slice (some ⟨w.heap.size,0,none⟩) s.size a) s.data.toList:=by
 refine⟨w.heap.size,a,_,_,by simp,c,zf _ _,λi d=>?_,?_⟩
 ·have b:i<s.data.size:=by simpa using d
  rw[bytesRow,Dt (by simpa using b)];rw[Array.getElem?_map,D9 b]
  rfl
 ·simp[bytesRow]
def zf7 {f:List Value}{s:ByteArray}(hB:B<=wr.heap.size)(k:wr.ownsRow B 94 1 u ls.length f)
 (n:∀j (h:j<ls.length),∃x,f[j]?=some x/\EB wr B x ls[j])
 (d:w1.ownsRow B 94 1 (.slice (some ⟨g,0,none⟩) (ls.length+1) cap') (ls.length+1) (f++[.slice (some ⟨wr.heap.size,0,none⟩) s.size cap]))
 (a:(((wr.alloc (.cells (bytesRow s cap) 5 ((bytesRow s cap).size,(bytesRow s cap).size+1))).alloc o2).drew).grownBy w1 u.ownBlock) :
  EBs w1 B (.slice (some ⟨g,0,none⟩) (ls.length+1) cap') (ls++[s.data.toList]):=by
 have i:f.length=ls.length:=by rw[k.1,Ba]
 refine⟨f++[.slice (some ⟨wr.heap.size,0,none⟩) s.size cap],by simpa using d,λj m=>?_⟩;have c:=yx k (w':=((wr.alloc (.cells (bytesRow s cap) 5 ((bytesRow s cap).size,(bytesRow s cap).size+1))).alloc o2).drew) (qg _ _ _).drew
 by_cases b:j<ls.length
 ·obtain⟨x,e,l⟩:=n j b;refine⟨x,by rw[qh (by omega)];exact e,?_⟩;rw[List.getElem_append_left b];exact(l.below (qg _ _ _).drew).grown c a
 ·obtain rfl:j=ls.length:=by simp at m;omega
  refine⟨.slice (some ⟨wr.heap.size,0,none⟩) s.size cap,by rw[qq (by omega),i];simp,?_⟩;rw[List.getElem_append_right (zk _)];simp only[Nat.sub_self,Af];exact EB.grown (w:=((wr.alloc (.cells (bytesRow s cap) 5 ((bytesRow s cap).size,(bytesRow s cap).size+1))).alloc o2).drew) ((EB.conv wr s B cap hB).below (zi _ _).drew) c a
def vg {s:Nat}{n:Nat}{d:List Value}(h:w.ownsRow B e s v n d):∀k,v.ownBlock=some k->B<=k:=by
 intro k a;rcases h.2 with ⟨rfl,_⟩|⟨g,b,c,rfl,f,_⟩
 ·simp[Value.ownBlock]at a
 ·simp only[Value.ownBlock,zn]at a;omega
def JH:(prog.info? 94).map (λi=>(i.zero,i.size,i.bytes))=some (some (.slice none 0 0),1,24):=by kernel_rfl
def Ja (v:Value)(d:List ByteArray)(w:World)(hn:d.length<=1000000)(h:CT w v d):
  Calls prog 58 #[v] w λr Z=>∃x,r=.returned x/\zc w Z/\EBs Z w.heap.size x (A0 d):=by
 obtain⟨i,V,z⟩:=zx.1 JH;obtain⟨D,E,F⟩:i.zero=some (.slice none 0 0)/\i.size=1/\i.bytes=24:=by simpa using z
 clear z;have HI:=ze V;have K:=ze (And.intro D (And.intro E F));clear V D E F;obtain⟨a,aa,rfl,U,T⟩:=h;have Hc:Hid (d.length=0\/∃b f,a=some ⟨b,f,none⟩/\∀i (h:i<d.length),w.cell? ⟨b,f+i,none⟩=some (.string d[i])):=by
  rcases T with h|h
  ·exact .inl (by simp[h])
  ·exact .inr h
 clear T;go_enter func58,ntmps58
 go_wp2
 go_loopw [3,8] (λt i wr=>∃k:Nat,k<=d.length/\i=.int .i64 k/\zc w wr/\EBs wr w.heap.size t ((A0 d).take k)) (λ_ i _=>d.length-(intOf i).toNat)
 case atStart=>exact⟨0,yk _,rfl,zu _ _,⟨[],⟨rfl,.inl ⟨rfl,rfl⟩⟩,λj hj=>by simp at hj⟩⟩
 case round =>
  obtain⟨k,hk,rfl,y,l⟩:=hrel;have n:=ze y;have O:=ze l;clear y l
  by_cases A:k<d.length
  ·rcases Hc.o with h0|⟨b,f,rfl,e⟩
   ·omega
   have W:=e k A;rw[<- n.o.cell (yf (p:=⟨b,f+k,none⟩) W)]at W;clear e;have Hs:=ze (zfl d k A);have ab:=λw0=>AI (P:=prog) w0 9 94 5 d[k] xt underlying94 jc;generalize d[k]=s at *;obtain⟨N,G,C⟩:=O.o;have q:((A0 d).take k).length=k:=by rw[AM,jd];omega
   have HX:=ze C;have R:Hid (wr.ownsRow w.heap.size 94 1 u3 ((A0 d).take k).length N):=G;rw[q]at G;have I:Hid (∀X Y,((wr.alloc X).alloc Y).drew.ownsRow w.heap.size 94 1 u3 k N):=λX Y=>yx G (qg _ _ _).drew;have Q:=ze q;clear G C q;have M:Hid (w.heap.size<=wr.heap.size):=n.o.size;go_wp2_with (at_builtin;refine jf _ rfl _ _ _ rfl w.heap.size 94 i (.slice none 0 0) 1 24 underlying88 HI.o K.o.1 K.o.2.1 K.o.2.2 rfl (by omega) u3 k N rfl (I.o _ _) ⟨wr.heap.size+1,0,none⟩ 1 1 [.slice (some ⟨wr.heap.size,0,none⟩) s.size (grownCap wr s.size 0 5)] rfl rfl (xm (by rw[show wr.heap.size+1=(wr.alloc (.cells (bytesRow s (grownCap wr s.size 0 5)) 5 ((bytesRow s (grownCap wr s.size 0 5)).size,(bytesRow s (grownCap wr s.size 0 5)).size+1))).heap.size by simp];exact zf _ _)) (by simp[Value.oneCell']) (by omega) (by unfold maxLen;omega) (by omega) (by have:=M.out;simp;omega) (wr.heap.size+1+1) (by simp) ?_;intro g S w1 m c L B);have u:=zf7 (s:=s) (hB:=n.o.size) R.o HX.o (by rw[Q.o];exact m) c;have H:Hid (zc w w1):=((n.o.trans ((qg wr _ _).drew.mono n.o.size)).grown c (by have:=n.o.size;simp;omega) (vg R.o));rw[Q.o]at u;have J:=ze u;clear u c L B m
   go_wp2
   go_roundw
   case rel=>exact⟨k+1,by omega,by go_num,H.o,by rw[Hs.o];exact J.o⟩
   case measure=>simp[intOf];omega
  ·go_wp2
   go_ret;refine⟨_,rfl,n.o,?_⟩;have:=O.o;rw[xn (by rw[jd];omega)]at this;exact this
end Go.Proofs.YtfdbeldiomkdiaaGreatDoor
