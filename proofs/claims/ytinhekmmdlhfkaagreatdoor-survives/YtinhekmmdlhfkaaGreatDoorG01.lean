import Derived.Test.YtinhekmmdlhfkaaGreatDoorRows
import Derived.WalkKit
import Derived.WalkSpells
import Derived.WalkLawsBesides
import Derived.LaidEql
import Derived.BigQuiet
import Derived.Deep.QuietTactic
import Derived.Laws.Rows
import Derived.Laws.Tables
import Derived.Laws.CopyOwn
import Derived.Deep.WholeRow
import Derived.Deep.MidRow
import Derived.OpenShut
import Derived.Laws.OwnMore
import Derived.Deep.Draws
namespace Go.Proofs.YtinhekmmdlhfkaaGreatDoor
theorem _root_.Go.RowKit.Hid.o {p:Prop} (h:Go.RowKit.Hid p):p:=h
section
open Go.RowKit
theorem za {p:Prop}(h:p):Hid p:=h
theorem zc {w:World}{o:Obj}{k:Nat}{x:Obj}(h:w.heap[k]?=some x):(w.alloc o).heap[k]?=some x:=by
 have hlt:k < w.heap.size:=by
  rcases Nat.lt_or_ge k w.heap.size with h' | h'
  ·exact h'
  ·simp [Array.getElem?_eq_none h'] at h
 show(w.heap.push o)[k]?=_
 simp only [Array.getElem?_push,Nat.ne_of_lt hlt,if_false]
 exact h
end
section
abbrev Fs:=List (List UInt8×List UInt8)
def zx:Fs→List UInt8→Option (List UInt8)
 | [],_=>none
 | f::r,p=>if f.1=p then some f.2 else zx r p
def ixF:Fs→List UInt8→Option Nat
 | [],_=>none
 | f::r,p=>if f.1=p then some 0 else (ixF r p).map (·+1)
def zac (fs:Fs)(p d:List UInt8):Fs:=match ixF fs p with
 | some i=>fs.set i (p,d)
 | none=>fs++[(p,d)]
def zbq (fs:Fs):Prop:=(fs.map (·.1)).Nodup
theorem zbg:∀ {fs:Fs}{p:List UInt8}{i:Nat} ,ixF fs p=some i→∃ h:i < fs.length,fs[i].1=p∧zx fs p=some fs[i].2∧∀ j (hj:j < i),(fs[j]'(by omega)).1≠p
 | [],p,i,h=>by simp [ixF] at h
 | f::r,p,i,h=>by
  unfold ixF at h
  by_cases hf:f.1=p
  ·rw [if_pos hf] at h
   obtain rfl:0=i:=by simpa using h
   exact⟨by simp,hf,by simp [zx,hf],fun j hj=>absurd hj (Nat.not_lt_zero _)⟩
  ·rw [if_neg hf] at h
   obtain⟨k,hk,rfl⟩:=Option.map_eq_some_iff.1 h
   obtain⟨h1,h2,h3,h4⟩:=zbg hk
   refine⟨by simp;omega,by simpa using h2,by simp [zx,hf];simpa using h3,fun j hj=>?_⟩
   cases j with
   | zero=>simpa using hf
   | succ j=>simpa using h4 j (by omega)
theorem zb3:∀ {fs:Fs}{p:List UInt8} ,ixF fs p=none→zx fs p=none∧∀ f∈fs,f.1≠p
 | [],p,_=>⟨rfl,fun f hf=>by simp at hf⟩
 | f::r,p,h=>by
  unfold ixF at h
  by_cases hf:f.1=p
  ·rw [if_pos hf] at h;simp at h
  ·rw [if_neg hf] at h
   have h':ixF r p=none:=by simpa using h
   obtain⟨h1,h2⟩:=zb3 h'
   exact⟨by simp [zx,hf,h1],fun g hg=>by
    rcases List.mem_cons.1 hg with rfl | hg
    ·exact hf
    ·exact h2 g hg⟩
theorem z2d:∀ {fs:Fs}{p:List UInt8}{i:Nat}(h:i < fs.length) ,fs[i].1=p→(∀ j (hj:j < i),(fs[j]'(by omega)).1≠p)→ixF fs p=some i
 | [],p,i,h,_,_=>by simp at h
 | f::r,p,0,_,h1,_=>by simp [ixF];simpa using h1
 | f::r,p,i+1,h,h1,h2=>by
  have hf:f.1≠p:=by simpa using h2 0 (by omega)
  unfold ixF
  rw [if_neg hf,z2d (fs:=r) (p:=p) (i:=i) (by simp at h;omega) (by simpa using h1) (fun j hj=>by simpa using h2 (j+1) (by omega))]
  rfl
theorem zkr {fs:Fs}{p:List UInt8}(h:∀ f∈fs,f.1≠p):ixF fs p=none:=by
 cases e:ixF fs p with
 | none=>rfl
 | some i =>
  obtain⟨h1,h2,_⟩:=zbg e
  exact absurd h2 (h _ (List.getElem_mem h1))
theorem zx8 {fs:Fs}{p:List UInt8}:zx fs p=none↔∀ f∈fs,f.1≠p:=by
 refine⟨fun h=>?_,fun h=>(zb3 (zkr h)).1⟩
 cases e:ixF fs p with
 | none=>exact(zb3 e).2
 | some i =>
  obtain⟨h1,h2,h3,_⟩:=zbg e
  rw [h3] at h;simp at h
theorem znp {fs:Fs}{p d:List UInt8}(h:zx fs p=some d):(p,d)∈fs:=by
 cases e:ixF fs p with
 | none=>rw [(zb3 e).1] at h;simp at h
 | some i =>
  obtain⟨h1,h2,h3,_⟩:=zbg e
  rw [h3] at h
  obtain rfl:fs[i].2=d:=by simpa using h
  rw [← h2]
  exact List.getElem_mem h1
theorem zml:∀ {fs:Fs}{p d:List UInt8} ,zbq fs→(p,d)∈fs→zx fs p=some d
 | [],p,d,_,h=>by simp at h
 | f::r,p,d,ha,h=>by
  unfold zbq at ha
  simp only [List.map_cons,List.nodup_cons] at ha
  rcases List.mem_cons.1 h with rfl | h
  ·simp [zx]
  ·have hf:f.1≠p:=fun e=>ha.1 (by rw [e];exact List.mem_map.2 ⟨_,h,rfl⟩)
   simp only [zx,hf,if_false]
   exact zml ha.2 h
theorem zxq {fs gs:Fs}(ha:zbq fs)(h:gs.Perm fs)(p:List UInt8):zx gs p=zx fs p:=by
 have hb:zbq gs:=(List.Perm.nodup_iff (h.map _)).2 ha
 cases e:zx fs p with
 | none =>
  rw [zx8] at e ⊢
  exact fun f hf=>e f (h.mem_iff.1 hf)
 | some d=>exact zml hb (h.mem_iff.2 (znp e))
theorem z0k (fs:Fs)(p d:List UInt8):(zac fs p d).map (·.1)=if ixF fs p=none then fs.map (·.1)++[p] else fs.map (·.1):=by
 unfold zac
 cases e:ixF fs p with
 | none=>simp
 | some i =>
  obtain⟨h1,h2,_⟩:=zbg e
  simp only [List.map_set,reduceCtorEq,if_false]
  rw [← h2]
  apply List.ext_getElem
  ·simp
  ·intro j hj hj'
   rw [List.getElem_set]
   split
   ·rename_i hij;subst hij;simp
   ·rfl
theorem zbq.set {fs:Fs}(h:zbq fs)(p d:List UInt8):zbq (zac fs p d):=by
 unfold zbq at *
 rw [z0k]
 split
 ·rename_i e
  rw [List.nodup_append]
  refine⟨h,by simp,fun a ha b hb=>?_⟩
  obtain rfl:b=p:=by simpa using hb
  obtain⟨f,hf,rfl⟩:=List.mem_map.1 ha
  exact(zb3 e).2 f hf
 ·exact h
theorem vp (fs:Fs)(p d:List UInt8):zx (zac fs p d) p=some d:=by
 have:∀ fs:Fs,zx (zac fs p d) p=some d:=by
  intro fs
  induction fs with
  | nil=>simp [zac,ixF,zx]
  | cons f r ih =>
   unfold zac
   unfold ixF
   by_cases hf:f.1=p
   ·rw [if_pos hf];simp [zx]
   ·rw [if_neg hf]
    unfold zac at ih
    cases e:ixF r p with
    | none=>rw [e] at ih;simpa [zx,hf] using ih
    | some i=>rw [e] at ih;simpa [zx,hf] using ih
 exact this fs
theorem zaz (fs:Fs)(p d q:List UInt8)(h:q≠p):zx (zac fs p d) q=zx fs q:=by
 induction fs with
 | nil=>simp [zac,ixF,zx,h.symm]
 | cons f r ih =>
  unfold zac
  unfold ixF
  by_cases hf:f.1=p
  ·rw [if_pos hf]
   have hq:¬ f.1=q:=fun e=>h (e.symm.trans hf)
   simp [zx,h.symm,hq]
  ·rw [if_neg hf]
   unfold zac at ih
   cases e:ixF r p with
   | none=>rw [e] at ih;simp only [Option.map_none,List.cons_append,zx];simp only at ih;rw [ih]
   | some i=>rw [e] at ih;simp only [Option.map_some,List.set_cons_succ,zx];simp only at ih;rw [ih]
theorem zrb (fs:Fs)(p d q:List UInt8):zx (zac fs p d) q=if q=p then some d else zx fs q:=by
 split
 ·rename_i h;rw [h];exact vp fs p d
 ·rename_i h;exact zaz fs p d q h
theorem zf9 (fs:Fs)(p d:List UInt8):(zac fs p d).length≤fs.length+1:=by
 unfold zac
 split<;>simp
theorem z32:∀(l s:List Nat),l.Nodup→(∀ x∈l,x∈s)→l.length≤s.length
 | [],s,_,_=>Nat.zero_le _
 | a::r,s,hn,hs=>by
  rw [List.nodup_cons] at hn
  have ha:=hs a (by simp)
  have h:=z32 r (s.erase a) hn.2 (fun x hx=>by
   have hne:x≠a:=fun e=>hn.1 (by rw [← e];exact hx)
   exact(List.mem_erase_of_ne hne).2 (hs x (by simp [hx])))
  have hl:=List.length_erase_of_mem ha
  have hp:0 < s.length:=List.length_pos_of_mem ha
  simp only [List.length_cons]
  omega
theorem zc4 (n:Nat)(s:List Nat)(h:∀ j,j < n→j∈s):n≤s.length:=by
 have:=z32 (List.range n) s List.nodup_range (fun x hx=>h x (List.mem_range.1 hx))
 simpa using this
end
section
structure Ly where
 path:List UInt8
 data:List UInt8
 fails:Bool
 times:Int
structure Nt where
 lies:List Ly
 told:List Int
 fetches:Int
def Ly.none:Ly:=⟨[],[],false,0⟩
def zbm (n:Nt)(p:List UInt8)(k:Nat):Bool:=decide ((n.lies.getD k .none).path=p)&&!(decide (0 < (n.lies.getD k .none).times)&&decide ((n.lies.getD k .none).times≤n.told.getD k 0))
def zfs (n:Nt)(p:List UInt8):Option Nat:=(List.range n.lies.length).find? (zbm n p)
def zq (fs:Fs)(n:Nt)(p:List UInt8):(List UInt8×Bool)×Nt:=match zfs n p with
 | some k=>(((n.lies.getD k .none).data,!(n.lies.getD k .none).fails),{ n with told:=n.told.set k (n.told.getD k 0+1),fetches:=n.fetches+1 })
 | none=>match zx fs p with
  | some d=>((d,true),{ n with fetches:=n.fetches+1 })
  | none=>(([],false),{ n with fetches:=n.fetches+1 })
theorem z3f {n:Nt}{p:List UInt8}{k:Nat}(hk:k < n.lies.length)(h:zbm n p k=true)(hj:∀ j,j < k→zbm n p j=false):zfs n p=some k:=by
 unfold zfs
 rw [List.find?_range_eq_some]
 exact⟨h,by simpa using hk,fun j hjk=>by rw [hj j hjk];rfl⟩
theorem zuu {n:Nt}{p:List UInt8}(h:∀ j,j < n.lies.length→zbm n p j=false):zfs n p=none:=by
 unfold zfs
 rw [List.find?_eq_none]
 intro j hj
 rw [h j (by simpa using hj)]
 simp
theorem zvq {n:Nt}{p:List UInt8}{k:Nat}(h:zfs n p=some k):k < n.lies.length∧zbm n p k=true:=by
 unfold zfs at h
 exact⟨by simpa using List.mem_of_find?_eq_some h,List.find?_some h⟩
end
section
open Go.RowKit
def st (m z:Int):Int:=IntKind.u64.wrap (bits BinOp.xor IntKind.u64 m z*1099511628211)
def fnv (n:Int)(l:List UInt8):Int:=l.foldl (fun m b=>st m b.toNat) n
def zn4 (n:Int):List UInt8 :=
 [UInt8.ofNat (n / 72057594037927936 % 256).toNat,UInt8.ofNat (n / 281474976710656 % 256).toNat,UInt8.ofNat (n / 1099511627776 % 256).toNat,UInt8.ofNat (n / 4294967296 % 256).toNat,
  UInt8.ofNat (n / 16777216 % 256).toNat,UInt8.ofNat (n / 65536 % 256).toNat,UInt8.ofNat (n / 256 % 256).toNat,UInt8.ofNat (n % 256).toNat]
def zbz:Int:=14695981039346656037
def hash (l:List UInt8):List UInt8:=zn4 (fnv zbz l)
def qu (e:List UInt8):List UInt8:=hash (0::e)
def xa (a b:List UInt8):List UInt8:=hash (1::(a++b))
def kOf (n:Nat):Nat:=2 ^ (n - 1).log2
def bv (b:UInt8):Value:= .int .u8 b.toNat
def hv (l:List UInt8):Array Value:=(l.map bv).toArray
theorem ztn (m z:Int):0≤st m z∧st m z≤18446744073709551615:=by
 have h:=wf_wrap IntKind.u64 (bits BinOp.xor IntKind.u64 m z*1099511628211)
 exact bounds_u64 h
theorem zpn (n:Int)(l:List UInt8)(h0:0≤n)(h1:n≤18446744073709551615):0≤fnv n l∧fnv n l≤18446744073709551615:=by
 induction l generalizing n with
 | nil=>exact⟨h0,h1⟩
 | cons b l ih=>exact ih _ (ztn n b.toNat).1 (ztn n b.toNat).2
theorem zlt (n:Int)(a b:List UInt8):fnv n (a++b)=fnv (fnv n a) b:=List.foldl_append
theorem z07 (n:Int)(a:List UInt8)(b:UInt8):fnv n (a++[b])=st (fnv n a) b.toNat:=by rw [zlt];rfl
theorem zgj:0≤zbz∧zbz≤18446744073709551615:=by decide
theorem zsu (l:List UInt8):(hash l).length=8:=rfl
theorem zi6 (l:List UInt8):(qu l).length=8:=rfl
theorem qf (a b:List UInt8):(xa a b).length=8:=rfl
theorem zd6 (x:Int)(h0:0≤x)(h1:x≤255):((UInt8.ofNat x.toNat).toNat:Int)=x:=by
 rw [UInt8.toNat_ofNat'];omega
theorem z6a (n:Int)(h0:0≤n)(h1:n≤18446744073709551615):hv (zn4 n) =
  #[.int .u8 (n / 72057594037927936),.int .u8 (n / 281474976710656 % 256),.int .u8 (n / 1099511627776 % 256),.int .u8 (n / 4294967296 % 256),
   .int .u8 (n / 16777216 % 256),.int .u8 (n / 65536 % 256),.int .u8 (n / 256 % 256),.int .u8 (n % 256)]:=by
 have e:n / 72057594037927936 % 256=n / 72057594037927936:=by omega
 simp only [hv,zn4,List.map_cons,List.map_nil,bv]
 rw [zd6 _ (by omega) (by omega),zd6 _ (by omega) (by omega),zd6 _ (by omega) (by omega),zd6 _ (by omega) (by omega),zd6 _ (by omega) (by omega),zd6 _ (by omega) (by omega),zd6 _ (by omega) (by omega),zd6 _ (by omega) (by omega),e]
theorem qd (l:List UInt8):(hv l).size=l.length:=by simp [hv]
theorem jp (l:List UInt8):(hv l).all (·.oneCell')=true:=by
 simp [hv,bv,Value.oneCell']
theorem hv8 (l:List UInt8)(h:l.length=8):∃ b0 b1 b2 b3 b4 b5 b6 b7:UInt8,l=[b0,b1,b2,b3,b4,b5,b6,b7]:=by
 match l,h with
 | [b0,b1,b2,b3,b4,b5,b6,b7],_=>exact⟨b0,b1,b2,b3,b4,b5,b6,b7,rfl⟩
theorem jy (n:Nat)(h:2≤n):kOf n < n∧n≤2*kOf n∧1≤kOf n:=by
 have h0:n - 1≠0:=by omega
 have h1:=Nat.log2_self_le h0
 have h2:n - 1 < 2 ^ ((n - 1).log2+1):=Nat.lt_log2_self
 rw [Nat.pow_succ] at h2
 unfold kOf
 refine⟨by omega,by omega,Nat.one_le_two_pow⟩
theorem z82 (n j:Nat)(h:2 ^ j < n)(h':n≤2 ^ (j+1)):2 ^ j=kOf n:=by
 have hp:=@Nat.one_le_two_pow j
 have h0:n - 1≠0:=by omega
 have e:(n - 1).log2=j:=(Nat.log2_eq_iff h0).2 ⟨by omega,by omega⟩
 unfold kOf
 rw [e]
def Bs (w:World)(v:Value)(l:List UInt8):Prop :=
 ∃ a cap,v= .slice a l.length cap∧(l=[]∨∃ b off,a=some ⟨b,off,none⟩∧∀ i (h:i < l.length),w.cell? ⟨b,off+i,none⟩=some (bv l[i]))
def Bss (w:World)(v:Value)(ls:List (List UInt8)):Prop :=
 ∃ a cap,v= .slice a ls.length cap∧ls.length≤cap∧(ls=[]∨∃ b off,a=some ⟨b,off,none⟩∧∀ i (h:i < ls.length),∃ x,w.cell? ⟨b,off+i,none⟩=some x∧Bs w x ls[i])
def Sss (w:World)(v:Value)(ls:List ByteArray):Prop :=
 ∃ a cap,v= .slice a ls.length cap∧ls.length≤cap∧(ls=[]∨∃ b off,a=some ⟨b,off,none⟩∧∀ i (h:i < ls.length),w.cell? ⟨b,off+i,none⟩=some (.string ls[i]))
theorem zj {w:World}{p:Addr}{v:Value}(h:w.cell? p=some v):p.block < w.heap.size:=by
 rcases Nat.lt_or_ge p.block w.heap.size with h' | h'
 ·exact h'
 ·simp [World.cell?,Array.getElem?_eq_none h'] at h
theorem Bs.below {w w':World}{v:Value}{l:List UInt8}(h:Bs w v l)(hb:Below w.heap.size w w'):Bs w' v l:=by
 obtain⟨a,cap,rfl,h⟩:=h
 refine⟨a,cap,rfl,?_⟩
 rcases h with h | ⟨b,off,rfl,hc⟩
 ·exact .inl h
 ·exact .inr ⟨b,off,rfl,fun i hi=>by have:=hc i hi;rw [hb.cell (p:=⟨b,off+i,none⟩) (zj (p:=⟨b,off+i,none⟩) this)];exact this⟩
theorem Bss.below {w w':World}{v:Value}{ls:List (List UInt8)}(h:Bss w v ls)(hb:Below w.heap.size w w'):Bss w' v ls:=by
 obtain⟨a,cap,rfl,hcap,h⟩:=h
 refine⟨a,cap,rfl,hcap,?_⟩
 rcases h with h | ⟨b,off,rfl,hc⟩
 ·exact .inl h
 ·exact .inr ⟨b,off,rfl,fun i hi=>by obtain⟨x,hx,hbs⟩:=hc i hi;exact⟨x,by rw [hb.cell (p:=⟨b,off+i,none⟩) (zj (p:=⟨b,off+i,none⟩) hx)];exact hx,hbs.below hb⟩⟩
theorem Sss.below {w w':World}{v:Value}{ls:List ByteArray}(h:Sss w v ls)(hb:Below w.heap.size w w'):Sss w' v ls:=by
 obtain⟨a,cap,rfl,hcap,h⟩:=h
 refine⟨a,cap,rfl,hcap,?_⟩
 rcases h with h | ⟨b,off,rfl,hc⟩
 ·exact .inl h
 ·exact .inr ⟨b,off,rfl,fun i hi=>by have:=hc i hi;rw [hb.cell (p:=⟨b,off+i,none⟩) (zj (p:=⟨b,off+i,none⟩) this)];exact this⟩
def qb:Nat→List (List UInt8) →List UInt8
 | 0,_=>hash []
 | f+1,l=>if l.length=0 then hash [] else if l.length=1 then qu (l.headD []) else xa (qb f (l.take (kOf l.length))) (qb f (l.drop (kOf l.length)))
theorem jn (f:Nat)(l:List (List UInt8)):(qb f l).length=8:=by
 cases f with
 | zero=>rfl
 | succ f =>
  unfold qb
  split
  ·rfl
  ·split<;>rfl
theorem zal (f:Nat)(l:List (List UInt8))(h:l.length=0):qb f l=hash []:=by
 cases f with
 | zero=>rfl
 | succ f=>unfold qb;rw [if_pos h]
theorem zdi (f:Nat)(l:List (List UInt8))(h:l.length=1):qb (f+1) l=qu (l.headD []):=by
 unfold qb;rw [if_neg (by omega),if_pos h]
theorem j9 (f:Nat)(l:List (List UInt8))(h:2≤l.length):qb (f+1) l=xa (qb f (l.take (kOf l.length))) (qb f (l.drop (kOf l.length))):=by
 rw [qb,if_neg (by omega),if_neg (by omega)]
theorem Bss.take {w:World}{b off n cap:Nat}{ls:List (List UInt8)}(h:Bss w (.slice (some ⟨b,off,none⟩) n cap) ls)(k:Nat)(hk:k≤ls.length):Bss w (.slice (some ⟨b,off,none⟩) k cap) (ls.take k):=by
 obtain⟨a,c,e,hcap,h⟩:=h
 simp only [Value.slice.injEq] at e
 obtain⟨rfl,rfl,rfl⟩:=e
 have hl:(ls.take k).length=k:=by simp;omega
 refine⟨some ⟨b,off,none⟩,cap,by rw [hl],by rw [hl];omega,?_⟩
 rcases h with h | ⟨b',off',e,hc⟩
 ·left;simp [h]
 ·simp only [Option.some.injEq,Addr.mk.injEq] at e
  obtain⟨rfl,rfl,_⟩:=e
  refine .inr ⟨b,off,rfl,fun i hi=>?_⟩
  obtain⟨x,hx,hb⟩:=hc i (by rw [hl] at hi;omega)
  exact⟨x,hx,by rw [List.getElem_take];exact hb⟩
theorem Bss.drop {w:World}{b off n cap:Nat}{ls:List (List UInt8)}(h:Bss w (.slice (some ⟨b,off,none⟩) n cap) ls)(k:Nat)(hk:k≤ls.length):Bss w (.slice (some ⟨b,off+k,none⟩) (n - k) (cap - k)) (ls.drop k):=by
 obtain⟨a,c,e,hcap,h⟩:=h
 simp only [Value.slice.injEq] at e
 obtain⟨rfl,rfl,rfl⟩:=e
 have hl:(ls.drop k).length=ls.length - k:=by simp
 refine⟨some ⟨b,off+k,none⟩,cap - k,by rw [hl],by rw [hl];omega,?_⟩
 rcases h with h | ⟨b',off',e,hc⟩
 ·left;simp [h]
 ·simp only [Option.some.injEq,Addr.mk.injEq] at e
  obtain⟨rfl,rfl,_⟩:=e
  refine .inr ⟨b,off+k,rfl,fun i hi=>?_⟩
  obtain⟨x,hx,hb⟩:=hc (k+i) (by rw [hl] at hi;omega)
  exact⟨x,by rw [Nat.add_assoc];exact hx,by rw [List.getElem_drop];exact hb⟩
theorem Sss.take {w:World}{b off n cap:Nat}{ls:List ByteArray}(h:Sss w (.slice (some ⟨b,off,none⟩) n cap) ls)(k:Nat)(hk:k≤ls.length):Sss w (.slice (some ⟨b,off,none⟩) k cap) (ls.take k):=by
 obtain⟨a,c,e,hcap,h⟩:=h
 simp only [Value.slice.injEq] at e
 obtain⟨rfl,rfl,rfl⟩:=e
 have hl:(ls.take k).length=k:=by simp;omega
 refine⟨some ⟨b,off,none⟩,cap,by rw [hl],by rw [hl];omega,?_⟩
 rcases h with h | ⟨b',off',e,hc⟩
 ·left;simp [h]
 ·simp only [Option.some.injEq,Addr.mk.injEq] at e
  obtain⟨rfl,rfl,_⟩:=e
  refine .inr ⟨b,off,rfl,fun i hi=>?_⟩
  rw [hc i (by rw [hl] at hi;omega),List.getElem_take]
theorem Sss.drop {w:World}{b off n cap:Nat}{ls:List ByteArray}(h:Sss w (.slice (some ⟨b,off,none⟩) n cap) ls)(k:Nat)(hk:k≤ls.length):Sss w (.slice (some ⟨b,off+k,none⟩) (n - k) (cap - k)) (ls.drop k):=by
 obtain⟨a,c,e,hcap,h⟩:=h
 simp only [Value.slice.injEq] at e
 obtain⟨rfl,rfl,rfl⟩:=e
 have hl:(ls.drop k).length=ls.length - k:=by simp
 refine⟨some ⟨b,off+k,none⟩,cap - k,by rw [hl],by rw [hl];omega,?_⟩
 rcases h with h | ⟨b',off',e,hc⟩
 ·left;simp [h]
 ·simp only [Option.some.injEq,Addr.mk.injEq] at e
  obtain⟨rfl,rfl,_⟩:=e
  refine .inr ⟨b,off+k,rfl,fun i hi=>?_⟩
  rw [Nat.add_assoc,hc (k+i) (by rw [hl] at hi;omega),List.getElem_drop]
end
section
open Go.RowKit
def Tob (T:List Nat)(o:Option Obj):Prop:=(∃ c t x,o=some (.cells c t x)∧t∈T)∨∃ es c,o=some (.map es c)
theorem Tob.more {T T':List Nat}{o:Option Obj}(h:Tob T o)(hT:∀ t∈T,t∈T'):Tob T' o:=by
 rcases h with ⟨c,t,x,e,ht⟩ | h
 ·exact .inl ⟨c,t,x,e,hT t ht⟩
 ·exact .inr h
structure zf (O:Nat→Prop)(T:List Nat)(w w':World):Prop where
 os:w'.os=w.os
 tape:w'.tape=w.tape
 output:w'.output=w.output
 size:w.heap.size≤w'.heap.size
 block:∀ k,k < w.heap.size→w'.heap[k]?=w.heap[k]?∨(O k∧Tob T w.heap[k]?)
def Ext (O:Nat→Prop)(w w':World):Nat→Prop:=fun k=>O k∨(w.heap.size≤k∧k < w'.heap.size)
theorem zb {w:World}{k:Nat}{o:Obj}(h:w.heap[k]?=some o):k < w.heap.size:=by
 rcases Nat.lt_or_ge k w.heap.size with h' | h'
 ·exact h'
 ·simp [Array.getElem?_eq_none h'] at h
theorem zf.refl (O:Nat→Prop)(T:List Nat)(w:World):zf O T w w:=⟨rfl,rfl,rfl,Nat.le_refl _,fun _ _=> .inl rfl⟩
theorem zf.of_below {O:Nat→Prop}{T:List Nat}{w w':World}(h:Below w.heap.size w w'):zf O T w w':=⟨h.os,h.tape,h.output,h.size,fun k hk=> .inl (h.block k hk)⟩
theorem zf.mono {O O':Nat→Prop}{T T':List Nat}{w w':World}(h:zf O T w w')(hO:∀ k,O k→O' k)(hT:∀ t∈T,t∈T'):zf O' T' w w' :=
 ⟨h.os,h.tape,h.output,h.size,fun k hk=>by
  rcases h.block k hk with e | ⟨a,e⟩
  ·exact .inl e
  ·exact .inr ⟨hO k a,e.more hT⟩⟩
theorem zf.trans {O:Nat→Prop}{T:List Nat}{a b c:World}(h:zf O T a b)(k:zf (Ext O a b) T b c):zf O T a c :=
 ⟨k.os.trans h.os,k.tape.trans h.tape,k.output.trans h.output,Nat.le_trans h.size k.size,fun i hi=>by
  rcases h.block i hi with e | e
  ·rcases k.block i (Nat.lt_of_lt_of_le hi h.size) with e' | ⟨hO,e'⟩
   ·exact .inl (e'.trans e)
   ·rcases hO with hO | hO
    ·exact .inr ⟨hO,e▸e'⟩
    ·omega
  ·exact .inr e⟩
theorem zf.drew {O:Nat→Prop}{T:List Nat}{a w:World}(h:zf O T a w):zf O T a w.drew:=⟨h.os,h.tape,h.output,h.size,h.block⟩
theorem zf.drewN {O:Nat→Prop}{T:List Nat}{a w:World}(h:zf O T a w)(n:Nat):zf O T a (w.drewN n):=⟨h.os,h.tape,h.output,h.size,h.block⟩
theorem zf.undrew {O:Nat→Prop}{T:List Nat}{a w:World}(h:zf O T a.drew w):zf O T a w:=⟨h.os,h.tape,h.output,h.size,h.block⟩
theorem zf.then_below {O:Nat→Prop}{T:List Nat}{a b c:World}(h:zf O T a b)(k:Below b.heap.size b c):zf O T a c:=h.trans (.of_below k)
theorem zf.keep {O:Nat→Prop}{T:List Nat}{w w':World}(h:zf O T w w'){k:Nat}{c:Array Value}{t:TypeId}{x:Nat×Nat}(e:w.heap[k]?=some (.cells c t x))(ht:t∉T):w'.heap[k]?=some (.cells c t x):=by
 rcases h.block k (zb e) with e' | ⟨-,⟨c',t',x',e',ht'⟩ | ⟨es',c',e'⟩⟩
 ·rw [e'];exact e
 ·rw [e] at e'
  simp only [Option.some.injEq,Obj.cells.injEq] at e'
  exact absurd (e'.2.1▸ht') ht
 ·rw [e] at e';simp at e'
theorem zf.stay {O:Nat→Prop}{T:List Nat}{w w':World}(h:zf O T w w'){k:Nat}{o:Obj}(e:w.heap[k]?=some o)(hO:¬ O k):w'.heap[k]?=some o:=by
 rcases h.block k (zb e) with e' | ⟨hk,-⟩
 ·rw [e'];exact e
 ·exact absurd hk hO
theorem zf.set {O:Nat→Prop}{T:List Nat}{a w:World}(h:zf O T a w){b o:Nat}{c:Array Value}{t:TypeId}{x:Nat×Nat}(hO:Ext O a w b)(e:w.heap[b]?=some (.cells c t x))(ht:t∈T)(u:Value):zf O T a (w.setCell ⟨b,o,none⟩ u):=by
 refine h.trans ⟨rfl,rfl,rfl,by simp [World.setCell],fun k hk=>?_⟩
 by_cases hkb:k=b
 ·subst hkb
  exact .inr ⟨hO,.inl ⟨c,t,x,e,ht⟩⟩
 ·exact .inl (Below.heap_setCell _ _ _ _ hkb)
theorem zf.alloc {O:Nat→Prop}{T:List Nat}{a w:World}(h:zf O T a w)(o:Obj):zf O T a (w.alloc o):=h.then_below ((Below.refl _ w).alloc (Nat.le_refl _) o)
theorem zf.setNew {O:Nat→Prop}{T:List Nat}{a w:World}(h:zf O T a w){b:Nat}(hb:a.heap.size≤b)(o:Nat)(u:Value):zf O T a (w.setCell ⟨b,o,none⟩ u) :=
 ⟨h.os,h.tape,h.output,by simpa [World.setCell] using h.size,fun k hk=>by
  rw [Below.heap_setCell _ _ _ _ (by show k≠b;omega)]
  exact h.block k hk⟩
theorem zf.grown {O:Nat→Prop}{T:List Nat}{a w w':World}{v:Value}(h:zf O T a w){base:Nat}{e:TypeId}{s n:Nat}{xs:List Value}(ho:w.ownsRow base e s v n xs)(hg:w.grownBy w' v.ownBlock)(hO:∀ g,v.ownBlock=some g→Ext O a w g)(ht:e∈T):zf O T a w':=by
 refine h.trans ⟨hg.os,hg.tape,hg.output,hg.size,fun k hk=>?_⟩
 by_cases hkb:some k=v.ownBlock
 ·rcases ho.2 with ⟨rfl,_⟩ | ⟨g,cap,cur,rfl,-,hh,-⟩
  ·simp [Value.ownBlock] at hkb
  ·simp only [Value.ownBlock,Option.some.injEq] at hkb
   subst hkb
   exact .inr ⟨hO k rfl,.inl ⟨cur,e,(0,0),hh,ht⟩⟩
 ·exact .inl (hg.block k hk hkb)
theorem zo {O:Nat→Prop}{T:List Nat}{w w':World}{B:Nat}{e:TypeId}{s:Nat}{v:Value}{n:Nat}{xs:List Value}(h:w.ownsRow B e s v n xs)(ht:zf O T w w')(he:e∉T):w'.ownsRow B e s v n xs:=by
 refine⟨h.1,?_⟩
 rcases h.2 with h | ⟨g',cap,cur,e1,e2,e3,r⟩
 ·exact .inl h
 ·exact .inr ⟨g',cap,cur,e1,e2,ht.keep e3 he,r⟩
theorem zit {O:Nat→Prop}{T:List Nat}{w w':World}{B:Nat}{e:TypeId}{s:Nat}{v:Value}{n:Nat}{xs:List Value}(h:w.ownsRow B e s v n xs)(ht:zf O T w w')(he:∀ g,v.ownBlock=some g→¬ O g):w'.ownsRow B e s v n xs:=by
 refine⟨h.1,?_⟩
 rcases h.2 with h | ⟨g',cap,cur,rfl,e2,e3,r⟩
 ·exact .inl h
 ·exact .inr ⟨g',cap,cur,rfl,e2,ht.stay e3 (he g' rfl),r⟩
theorem zf.below {O:Nat→Prop}{T:List Nat}{w w':World}{B:Nat}(h:zf O T w w')(hO:∀ k,O k→B≤k)(hB:B≤w.heap.size):Below B w w' :=
 ⟨h.os,h.tape,h.output,h.size,fun k hk=>by
  rcases h.block k (by omega) with e | ⟨a,-⟩
  ·exact e
  ·have:=hO k a;omega⟩
theorem Ext.base {O:Nat→Prop}{w w':World}{B:Nat}(hO:∀ k,O k→B≤k)(hB:B≤w.heap.size):∀ k,Ext O w w' k→B≤k:=by
 rintro k (h | h)
 ·exact hO k h
 ·omega
theorem Ext.old {O:Nat→Prop}{w w':World}{k:Nat}(h:O k):Ext O w w' k:= .inl h
theorem Ext.trans {O:Nat→Prop}{a b c:World}(h1:a.heap.size≤b.heap.size)(h2:b.heap.size≤c.heap.size):∀ k,Ext (Ext O a b) b c k→Ext O a c k:=by
 rintro k ((h | h) | h)
 ·exact .inl h
 ·exact .inr (by omega)
 ·exact .inr (by omega)
theorem Ext.more {O:Nat→Prop}{a b c:World}(h2:b.heap.size≤c.heap.size):∀ k,Ext O a b k→Ext O a c k:=by
 rintro k (h | h)
 ·exact .inl h
 ·exact .inr (by omega)
end
section
open Go.RowKit
structure Dk where
 fs:Fs
 calls:Int
 failAt:Int
 dead:Bool
 once:Bool
 half:Bool
 hit:Bool
 turned:Bool
def zob (d:Dk):Int:=wrap64 (d.calls+1)
def xc (d:Dk):Int:=if d.dead then 2 else if 0 < d.failAt∧zob d=d.failAt then (if d.half then 1 else 2) else 0
def ye (d:Dk):Dk:=if d.dead then { d with calls:=zob d } else if 0 < d.failAt∧zob d=d.failAt then { d with calls:=zob d,dead:=!d.once,hit:=true } else { d with calls:=zob d }
def zfv (d:Dk)(p x:List UInt8):Bool:=match zx d.fs p with
 | some y=>if y=x then decide (0 < xc d) else true
 | none=>decide (0 < xc d)
def zab (d:Dk)(p x:List UInt8):Dk:=match zx d.fs p with
 | some y=>if y=x then (if xc d < 2 then { ye d with fs:=zac d.fs p x } else ye d) else { ye d with turned:=true }
 | none=>if xc d < 2 then { ye d with fs:=zac d.fs p x } else ye d
def zbv (d:Dk)(p x:List UInt8):Dk:=if xc d < 2 then { ye d with fs:=zac d.fs p x } else ye d
def bad (d:Dk):Bool:=decide (0 < xc d)
def zau (d:Dk):Prop:=d.dead=false∧d.hit=false
theorem yg (d:Dk):(ye d).fs=d.fs:=by unfold ye;split<;>(try split)<;>rfl
theorem zak (d:Dk):(ye d).turned=d.turned:=by unfold ye;split<;>(try split)<;>rfl
def tk (d:Dk):Bool×Int×Bool×Bool:=(d.turned,d.failAt,decide (d.failAt=0)&&d.dead,decide (d.failAt=0)&&d.hit)
theorem za8 (d:Dk):tk (ye d)=tk d:=by
 unfold ye tk
 split
 ·rfl
 ·split
  ·rename_i h
   have:¬ d.failAt=0:=by omega
   simp [this]
  ·rfl
theorem zo3 {d e:Dk}(h:tk d=tk e):d.turned=e.turned:=congrArg Prod.fst h
theorem zet (d:Dk):0≤xc d∧xc d≤2:=by
 unfold xc
 split
 ·omega
 ·split
  ·split<;>omega
  ·omega
theorem za4 {d:Dk}(h:zau d):(xc d=0∧zau (ye d))∨(0 < xc d∧(ye d).hit=true):=by
 unfold xc ye zau at *
 rw [h.1]
 simp only [Bool.false_eq_true,if_false]
 split
 ·refine .inr ⟨?_,rfl⟩
  split<;>omega
 ·exact .inl ⟨rfl,rfl,h.2⟩
def cpF:List UInt8:=[99,104,101,99,107,112,111,105,110,116]
def zek (xj:Fs)(c:List UInt8)(fs fs':Fs):Prop :=
 ∀ q,zx fs' q=zx fs q∨(zx fs q=none∧∃ x,(q,x)∈xj∧zx fs' q=some x)∨(q=cpF∧zx fs' q=some c)
theorem zek.refl (xj:Fs)(c:List UInt8)(fs:Fs):zek xj c fs fs:=fun _=> .inl rfl
theorem zek.trans {xj:Fs}{c:List UInt8}{f g h:Fs}(a:zek xj c f g)(b:zek xj c g h):zek xj c f h:=by
 intro q
 rcases a q with a | ⟨a0,x,hx,a⟩ | ⟨rfl,a⟩
 ·rcases b q with b | ⟨b0,y,hy,b⟩ | b
  ·exact .inl (b.trans a)
  ·exact .inr (.inl ⟨a▸b0,y,hy,b⟩)
  ·exact .inr (.inr b)
 ·rcases b q with b | ⟨b0,y,hy,b⟩ | b
  ·exact .inr (.inl ⟨a0,x,hx,b.trans a⟩)
  ·rw [a] at b0;simp at b0
  ·exact .inr (.inr b)
 ·rcases b cpF with b | ⟨b0,y,hy,b⟩ | b
  ·exact .inr (.inr ⟨rfl,b.trans a⟩)
  ·rw [a] at b0;simp at b0
  ·exact .inr (.inr b)
def ve (fs xj:Fs):Prop:=∀ q x,(q,x)∈xj→zx fs q=none∨zx fs q=some x
def zvw (xj:Fs):Prop:=(∀ q x y,(q,x)∈xj→(q,y)∈xj→x=y)∧∀ x,(cpF,x)∉xj
theorem ve.went {xj:Fs}{c:List UInt8}{fs fs':Fs}(hf:zvw xj)(h:ve fs xj)(w:zek xj c fs fs'):ve fs' xj:=by
 intro q x hx
 rcases w q with e | ⟨_,y,hy,e⟩ | ⟨rfl,_⟩
 ·rw [e];exact h q x hx
 ·rw [e,hf.1 q x y hx hy];exact .inr rfl
 ·exact absurd hx (hf.2 x)
theorem zsr {xj:Fs}{c:List UInt8}{fs:Fs}{p x:List UInt8}(h:ve fs xj)(hx:(p,x)∈xj):zek xj c fs (zac fs p x):=by
 intro q
 rw [zrb]
 split
 ·rename_i e
  subst e
  rcases h q x hx with h | h
  ·exact .inr (.inl ⟨h,x,hx,rfl⟩)
  ·exact .inl h.symm
 ·exact .inl rfl
theorem zox (xj:Fs)(c:List UInt8)(fs:Fs):zek xj c fs (zac fs cpF c):=by
 intro q
 rw [zrb]
 split
 ·rename_i e;exact .inr (.inr ⟨e,rfl⟩)
 ·exact .inl rfl
theorem zek.stays {xj:Fs}{c:List UInt8}{fs fs':Fs}(w:zek xj c fs fs'){q x:List UInt8}(h:zx fs q=some x)(hq:q≠cpF):zx fs' q=some x:=by
 rcases w q with e | ⟨h0,_⟩ | ⟨e,_⟩
 ·rw [e];exact h
 ·rw [h] at h0;simp at h0
 ·exact absurd e hq
def qa:Fs→Dk→Option (List UInt8) ×Dk
 | [],d=>(none,d)
 | f::r,d=>if zfv d f.1 f.2 then (some f.1,zab d f.1 f.2) else qa r (zab d f.1 f.2)
def qt (yj:Fs)(c:List UInt8)(d:Dk):Option (List UInt8)×Dk:=match qa yj d with
 | (some p,d1)=>(some p,d1)
 | (none,d1)=>if bad d1 then (some cpF,zbv d1 cpF c) else (none,zbv d1 cpF c)
theorem zfa (a b:Fs)(d:Dk):qa (a++b) d=match qa a d with
  | (some p,d1)=>(some p,d1)
  | (none,d1)=>qa b d1:=by
 induction a generalizing d with
 | nil=>rfl
 | cons f r ih =>
  simp only [List.cons_append,qa]
  split
  ·rfl
  ·exact ih _
theorem zwg {xj:Fs}{c:List UInt8}{d:Dk}{p x:List UInt8}(hc:zau d)(ha:zbq d.fs)(ht:d.turned=false)(hn:ve d.fs xj)(hx:(p,x)∈xj):
  zbq (zab d p x).fs∧(zab d p x).turned=false∧zek xj c d.fs (zab d p x).fs∧((zfv d p x=false∧zau (zab d p x)∧zx (zab d p x).fs p=some x)∨(zfv d p x=true∧(zab d p x).hit=true)):=by
 have hE:zfv d p x=decide (0 < xc d):=by
  unfold zfv
  rcases hn p x hx with e | e<;>rw [e]
  simp
 have hD:zab d p x=if xc d < 2 then { ye d with fs:=zac d.fs p x } else ye d:=by
  unfold zab
  rcases hn p x hx with e | e<;>rw [e]
  simp
 rw [hE,hD]
 rcases za4 hc with ⟨h0,h1⟩ | ⟨h0,h1⟩
 ·rw [if_pos (by omega),h0]
  exact⟨ha.set p x,by simpa [zak] using ht,zsr hn hx,.inl ⟨rfl,h1,vp _ _ _⟩⟩
 ·have hd:decide (0 < xc d)=true:=by simpa using h0
  rw [hd]
  split
  ·exact⟨ha.set p x,by simpa [zak] using ht,zsr hn hx,.inr ⟨rfl,h1⟩⟩
  ·exact⟨by rw [yg];exact ha,by rw [zak];exact ht,by rw [yg];exact zek.refl _ _ _,.inr ⟨rfl,h1⟩⟩
theorem zog {xj:Fs}{c:List UInt8}(hf:zvw xj):∀(yj:Fs) (d:Dk),zau d→zbq d.fs→d.turned=false→ve d.fs xj→(∀ f∈yj,f∈xj) →
  zbq (qa yj d).2.fs∧(qa yj d).2.turned=false∧zek xj c d.fs (qa yj d).2.fs ∧
   (((qa yj d).1=none∧zau (qa yj d).2∧∀ f∈yj,zx (qa yj d).2.fs f.1=some f.2)∨(∃ p x,(qa yj d).1=some p∧(p,x)∈xj∧(qa yj d).2.hit=true))
 | [],d,hc,ha,ht,_,_=>⟨ha,ht,zek.refl _ _ _,.inl ⟨rfl,hc,fun f h=>by simp at h⟩⟩
 | f::r,d,hc,ha,ht,hn,hs=>by
  have hx:(f.1,f.2)∈xj:=hs f (by simp)
  obtain⟨a1,t1,w1,h1⟩:=zwg (c:=c) hc ha ht hn hx
  unfold qa
  rcases h1 with ⟨e,c1,l1⟩ | ⟨e,h1⟩
  ·rw [if_neg (by rw [e];simp)]
   obtain⟨a2,t2,w2,h2⟩:=zog hf r (zab d f.1 f.2) c1 a1 t1 (hn.went hf w1) (fun g hg=>hs g (by simp [hg]))
   refine⟨a2,t2,w1.trans w2,?_⟩
   rcases h2 with ⟨e2,c2,l2⟩ | h2
   ·refine .inl ⟨e2,c2,fun g hg=>?_⟩
    rcases List.mem_cons.1 hg with rfl | hg
    ·exact w2.stays l1 (fun e=>hf.2 g.2 (by rw [← e];exact hx))
    ·exact l2 g hg
   ·exact .inr h2
  ·rw [if_pos e]
   exact⟨a1,t1,w1,.inr ⟨f.1,f.2,rfl,hx,h1⟩⟩
theorem zwb {xj yj:Fs}{c:List UInt8}{d:Dk}(hf:zvw xj)(hc:zau d)(ha:zbq d.fs)(ht:d.turned=false)(hn:ve d.fs xj)(hs:∀ f∈yj,f∈xj):
  zbq (qt yj c d).2.fs∧(qt yj c d).2.turned=false∧zek xj c d.fs (qt yj c d).2.fs ∧
   (((qt yj c d).1=none∧zau (qt yj c d).2∧zx (qt yj c d).2.fs cpF=some c∧∀ f∈yj,zx (qt yj c d).2.fs f.1=some f.2) ∨
    ((∃ p,(qt yj c d).1=some p∧(p=cpF∨∃ x,(p,x)∈xj))∧(qt yj c d).2.hit=true)):=by
 obtain⟨a1,t1,w1,h1⟩:=zog (c:=c) hf yj d hc ha ht hn hs
 unfold qt
 generalize qa yj d=r at *
 obtain⟨o,d1⟩:=r
 simp only at a1 t1 w1 h1
 rcases h1 with ⟨rfl,c1,l1⟩ | ⟨p,x,rfl,hx,h1⟩
 ·simp only
  have hS:zbv d1 cpF c=if xc d1 < 2 then { ye d1 with fs:=zac d1.fs cpF c } else ye d1:=rfl
  have hB:bad d1=decide (0 < xc d1):=rfl
  rw [hB,hS]
  rcases za4 c1 with ⟨h0,h2⟩ | ⟨h0,h2⟩
  ·rw [if_neg (by simp [h0]),if_pos (by omega)]
   refine⟨a1.set _ _,by simpa [zak] using t1,w1.trans (zox _ _ _),.inl ⟨rfl,h2,vp _ _ _,fun f hf'=>?_⟩⟩
   simp only
   rw [zaz]
   ·exact l1 f hf'
   ·exact fun e=>hf.2 f.2 (by rw [← e];exact hs f hf')
  ·rw [if_pos (by simpa using h0)]
   simp only
   split
   ·exact⟨a1.set _ _,by simpa [zak] using t1,w1.trans (zox _ _ _),.inr ⟨⟨_,rfl,.inl rfl⟩,h2⟩⟩
   ·exact⟨by rw [yg];exact a1,by rw [zak];exact t1,by rw [yg];exact w1,.inr ⟨⟨_,rfl,.inl rfl⟩,h2⟩⟩
 ·exact⟨a1,t1,w1,.inr ⟨⟨p,rfl,.inr ⟨x,hx⟩⟩,h1⟩⟩
def zm3 (before xj:Fs):Bool:=xj.any fun f=>match zx before f.1 with
 | some y=>decide (y≠f.2)
 | none=>false
theorem zqi {before xj:Fs}(h:zm3 before xj=false):ve before xj:=by
 intro q x hx
 unfold zm3 at h
 rw [List.any_eq_false] at h
 have:=h (q,x) hx
 simp only at this
 cases e:zx before q with
 | none=>exact .inl rfl
 | some y=>rw [e] at this;simp at this;rw [this];exact .inr rfl
end
end Go.Proofs.YtinhekmmdlhfkaaGreatDoor
