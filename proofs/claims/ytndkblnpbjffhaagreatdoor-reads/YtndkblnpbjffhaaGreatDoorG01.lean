import Derived.Test.YtndkblnpbjffhaaGreatDoorRows
import Derived.WalkSpells
import Derived.WalkLawsBesides
import Derived.BigQuiet
import Derived.Laws.CopyOwn
import Derived.Deep.WholeRow
import Derived.Deep.MidRow
import Derived.OpenShut
open Go.RowKit
namespace Go.Proofs.YtndkblnpbjffhaaGreatDoor
theorem _root_.Go.RowKit.Hid.o {p:Prop} (h:Go.RowKit.Hid p):p:=h
theorem za {p:Prop}(h:p):Hid p:=h
theorem zc {w:World}{o:Obj}{k:Nat}{x:Obj}(h:w.heap[k]?=some x):(w.alloc o).heap[k]?=some x:=by
 have A:k < w.heap.size:=by
  rcases Nat.lt_or_ge k w.heap.size with r | r
  ·exact r
  ·simp [Array.getElem?_eq_none r] at h
 show(w.heap.push o)[k]?=_;simp only [Array.getElem?_push,Nat.ne_of_lt A,if_false];exact h
abbrev Fs:=List (List UInt8×List UInt8)
def yp:Fs→List UInt8→Option (List UInt8)
 | [],_=>none
 | f::r,p=>if f.1=p then some f.2 else yp r p
def ixF:Fs→List UInt8→Option Nat
 | [],_=>none
 | f::r,p=>if f.1=p then some 0 else (ixF r p).map (·+1)
def zan (fs:Fs)(p d:List UInt8):Fs:=match ixF fs p with
 | some i=>fs.set i (p,d)
 | none=>fs++[(p,d)]
def za1 (fs:Fs):Prop:=(fs.map (·.1)).Nodup
theorem j7:∀ {fs:Fs}{p:List UInt8}{i:Nat} ,ixF fs p=some i→∃ h:i < fs.length,fs[i].1=p∧yp fs p=some fs[i].2∧∀ j (D:j < i),(fs[j]'(by omega)).1≠p
 | [],p,i,h=>by simp [ixF] at h
 | f::r,p,i,h=>by
  unfold ixF at h;by_cases A:f.1=p
  ·rw [if_pos A] at h;obtain rfl:0=i:=by simpa using h
   exact⟨by simp,A,by simp [yp,A],fun j D=>absurd D (Nat.not_lt_zero _)⟩
  ·rw [if_neg A] at h;obtain⟨k,I,rfl⟩:=Option.map_eq_some_iff.1 h;obtain⟨h1,h2,E,H⟩:=j7 I;refine⟨by simp;omega,by simpa using h2,by simp [yp,A];simpa using E,fun j D=>?_⟩;cases j with
   | zero=>simpa using A
   | succ j=>simpa using H j (by omega)
theorem vd:∀ {fs:Fs}{p:List UInt8} ,ixF fs p=none→yp fs p=none∧∀ f∈fs,f.1≠p
 | [],p,_=>⟨rfl,fun f A=>by simp at A⟩
 | f::r,p,h=>by
  unfold ixF at h;by_cases A:f.1=p
  ·rw [if_pos A] at h;simp at h
  ·rw [if_neg A] at h;have E:ixF r p=none:=by simpa using h
   obtain⟨h1,h2⟩:=vd E;exact⟨by simp [yp,A,h1],fun g D=>by
    rcases List.mem_cons.1 D with rfl | D
    ·exact A
    ·exact h2 g D⟩
theorem zwd:∀ {fs:Fs}{p:List UInt8}{i:Nat}(h:i < fs.length) ,fs[i].1=p→(∀ j (D:j < i),(fs[j]'(by omega)).1≠p)→ixF fs p=some i
 | [],p,i,h,_,_=>by simp at h
 | f::r,p,0,_,h1,_=>by simp [ixF];simpa using h1
 | f::r,p,i+1,h,h1,h2=>by
  have A:f.1≠p:=by simpa using h2 0 (by omega)
  unfold ixF;rw [if_neg A,zwd (fs:=r) (p:=p) (i:=i) (by simp at h;omega) (by simpa using h1) (fun j D=>by simpa using h2 (j+1) (by omega))];rfl
theorem zhm {fs:Fs}{p:List UInt8}(h:∀ f∈fs,f.1≠p):ixF fs p=none:=by
 cases e:ixF fs p with
 | none=>rfl
 | some i =>
  obtain⟨h1,h2,_⟩:=j7 e;exact absurd h2 (h _ (List.getElem_mem h1))
theorem zo6 {fs:Fs}{p:List UInt8}:yp fs p=none↔∀ f∈fs,f.1≠p:=by
 refine⟨fun h=>?_,fun h=>(vd (zhm h)).1⟩;cases e:ixF fs p with
 | none=>exact(vd e).2
 | some i =>
  obtain⟨h1,h2,r,_⟩:=j7 e;rw [r] at h;simp at h
theorem zjb {fs:Fs}{p d:List UInt8}(h:yp fs p=some d):(p,d)∈fs:=by
 cases e:ixF fs p with
 | none=>rw [(vd e).1] at h;simp at h
 | some i =>
  obtain⟨h1,h2,r,_⟩:=j7 e;rw [r] at h;obtain rfl:fs[i].2=d:=by simpa using h
  rw [← h2];exact List.getElem_mem h1
theorem zhd:∀ {fs:Fs}{p d:List UInt8} ,za1 fs→(p,d)∈fs→yp fs p=some d
 | [],p,d,_,h=>by simp at h
 | f::r,p,d,ha,h=>by
  unfold za1 at ha;simp only [List.map_cons,List.nodup_cons] at ha;rcases List.mem_cons.1 h with rfl | h
  ·simp [yp]
  ·have A:f.1≠p:=fun e=>ha.1 (by rw [e];exact List.mem_map.2 ⟨_,h,rfl⟩);simp only [yp,A,if_false];exact zhd ha.2 h
theorem zc2 {fs r:Fs}(A:za1 fs)(h:r.Perm fs)(p:List UInt8):yp r p=yp fs p:=by
 have D:za1 r:=(List.Perm.nodup_iff (h.map _)).2 A;cases e:yp fs p with
 | none =>
  rw [zo6] at e ⊢;exact fun f E=>e f (h.mem_iff.1 E)
 | some d=>exact zhd D (h.mem_iff.2 (zjb e))
theorem zza (fs:Fs)(p d:List UInt8):(zan fs p d).map (·.1)=if ixF fs p=none then fs.map (·.1)++[p] else fs.map (·.1):=by
 unfold zan;cases e:ixF fs p with
 | none=>simp
 | some i =>
  obtain⟨h1,h2,_⟩:=j7 e;simp only [List.map_set,reduceCtorEq,if_false];rw [← h2];apply List.ext_getElem
  ·simp
  ·intro j A r;rw [List.getElem_set]
   split
   ·rename_i h;subst h;simp
   ·rfl
theorem za1.set {fs:Fs}(h:za1 fs)(p d:List UInt8):za1 (zan fs p d):=by
 unfold za1 at *
 rw [zza]
 split
 ·rename_i e;rw [List.nodup_append];refine⟨h,by simp,fun a r b A=>?_⟩;obtain rfl:b=p:=by simpa using A
  obtain⟨f,D,rfl⟩:=List.mem_map.1 r;exact(vd e).2 f D
 ·exact h
theorem ze5 (fs:Fs)(p d:List UInt8):yp (zan fs p d) p=some d:=by
 have:∀ fs:Fs,yp (zan fs p d) p=some d:=by
  intro fs
  induction fs with
  | nil=>simp [zan,ixF,yp]
  | cons f r ih =>
   unfold zan;unfold ixF;by_cases h:f.1=p
   ·rw [if_pos h];simp [yp]
   ·rw [if_neg h];unfold zan at ih;cases e:ixF r p with
    | none=>rw [e] at ih;simpa [yp,h] using ih
    | some i=>rw [e] at ih;simpa [yp,h] using ih
 exact this fs
theorem zg5 (fs:Fs)(p d q:List UInt8)(h:q≠p):yp (zan fs p d) q=yp fs q:=by
 induction fs with
 | nil=>simp [zan,ixF,yp,h.symm]
 | cons f r ih =>
  unfold zan;unfold ixF;by_cases A:f.1=p
  ·rw [if_pos A];have D:¬ f.1=q:=fun e=>h (e.symm.trans A);simp [yp,h.symm,D]
  ·rw [if_neg A];unfold zan at ih;cases e:ixF r p with
   | none=>rw [e] at ih;simp only [Option.map_none,List.cons_append,yp];simp only at ih;rw [ih]
   | some i=>rw [e] at ih;simp only [Option.map_some,List.set_cons_succ,yp];simp only at ih;rw [ih]
theorem ztd (fs:Fs)(p d q:List UInt8):yp (zan fs p d) q=if q=p then some d else yp fs q:=by
 split
 ·rename_i h;rw [h];exact ze5 fs p d
 ·rename_i h;exact zg5 fs p d q h
theorem zgt (fs:Fs)(p d:List UInt8):(zan fs p d).length≤fs.length+1:=by
 unfold zan
 split<;>simp
theorem z5x:∀(l s:List Nat),l.Nodup→(∀ x∈l,x∈s)→l.length≤s.length
 | [],s,_,_=>Nat.zero_le _
 | a::r,s,hn,hs=>by
  rw [List.nodup_cons] at hn;have D:=hs a (by simp);have h:=z5x r (s.erase a) hn.2 (fun x E=>by
   have A:x≠a:=fun e=>hn.1 (by rw [← e];exact E);exact(List.mem_erase_of_ne A).2 (hs x (by simp [E])))
  have H:=List.length_erase_of_mem D;have I:0 < s.length:=List.length_pos_of_mem D;simp only [List.length_cons];omega
theorem zq9 (n:Nat)(s:List Nat)(h:∀ j,j < n→j∈s):n≤s.length:=by
 have:=z5x (List.range n) s List.nodup_range (fun x r=>h x (List.mem_range.1 r));simpa using this
structure Ly where
 path:List UInt8
 data:List UInt8
 fails:Bool
 times:Int
structure Nt where
 lies:List Ly
 told:List Int
 fetches:Int
def Ly.none:Ly:=⟨[],[],false,0⟩
def zv8 (n:Nt)(p:List UInt8)(k:Nat):Bool:=decide ((n.lies.getD k .none).path=p)&&!(decide (0 < (n.lies.getD k .none).times)&&decide ((n.lies.getD k .none).times≤n.told.getD k 0))
def zpt (n:Nt)(p:List UInt8):Option Nat:=(List.range n.lies.length).find? (zv8 n p)
def zu (fs:Fs)(n:Nt)(p:List UInt8):(List UInt8×Bool)×Nt:=match zpt n p with
 | some k=>(((n.lies.getD k .none).data,!(n.lies.getD k .none).fails),{ n with told:=n.told.set k (n.told.getD k 0+1),fetches:=n.fetches+1 })
 | none=>match yp fs p with
  | some d=>((d,true),{ n with fetches:=n.fetches+1 })
  | none=>(([],false),{ n with fetches:=n.fetches+1 })
theorem zvt {n:Nt}{p:List UInt8}(h:∀ j,j < n.lies.length→zv8 n p j=false):zpt n p=none:=by
 unfold zpt;rw [List.find?_eq_none];intro j r;rw [h j (by simpa using r)];simp
def st (m z:Int):Int:=IntKind.u64.wrap (bits BinOp.xor IntKind.u64 m z*1099511628211)
def fnv (n:Int)(l:List UInt8):Int:=l.foldl (fun m b=>st m b.toNat) n
def zj8 (n:Int):List UInt8 :=
 [UInt8.ofNat (n / 72057594037927936 % 256).toNat,UInt8.ofNat (n / 281474976710656 % 256).toNat,UInt8.ofNat (n / 1099511627776 % 256).toNat,UInt8.ofNat (n / 4294967296 % 256).toNat,
  UInt8.ofNat (n / 16777216 % 256).toNat,UInt8.ofNat (n / 65536 % 256).toNat,UInt8.ofNat (n / 256 % 256).toNat,UInt8.ofNat (n % 256).toNat]
def j6:Int:=14695981039346656037
def hash (l:List UInt8):List UInt8:=zj8 (fnv j6 l)
def jc (e:List UInt8):List UInt8:=hash (0::e)
def yz (a b:List UInt8):List UInt8:=hash (1::(a++b))
def kOf (n:Nat):Nat:=2 ^ (n - 1).log2
def bv (b:UInt8):Value:= .int .u8 b.toNat
def hv (l:List UInt8):Array Value:=(l.map bv).toArray
theorem zup (m z:Int):0≤st m z∧st m z≤18446744073709551615:=by
 have h:=wf_wrap IntKind.u64 (bits BinOp.xor IntKind.u64 m z*1099511628211);exact bounds_u64 h
theorem zkv (n:Int)(l:List UInt8)(h0:0≤n)(h1:n≤18446744073709551615):0≤fnv n l∧fnv n l≤18446744073709551615:=by
 induction l generalizing n with
 | nil=>exact⟨h0,h1⟩
 | cons b l ih=>exact ih _ (zup n b.toNat).1 (zup n b.toNat).2
theorem zmw (n:Int)(a b:List UInt8):fnv n (a++b)=fnv (fnv n a) b:=List.foldl_append
theorem z2z (n:Int)(a:List UInt8)(b:UInt8):fnv n (a++[b])=st (fnv n a) b.toNat:=by rw [zmw];rfl
theorem zb6:0≤j6∧j6≤18446744073709551615:=by decide
theorem zla (l:List UInt8):(hash l).length=8:=rfl
theorem zjs (l:List UInt8):(jc l).length=8:=rfl
theorem ql (a b:List UInt8):(yz a b).length=8:=rfl
theorem zey (x:Int)(h0:0≤x)(h1:x≤255):((UInt8.ofNat x.toNat).toNat:Int)=x:=by
 rw [UInt8.toNat_ofNat'];omega
theorem zx7 (n:Int)(h0:0≤n)(h1:n≤18446744073709551615):hv (zj8 n) =
  #[.int .u8 (n / 72057594037927936),.int .u8 (n / 281474976710656 % 256),.int .u8 (n / 1099511627776 % 256),.int .u8 (n / 4294967296 % 256),
   .int .u8 (n / 16777216 % 256),.int .u8 (n / 65536 % 256),.int .u8 (n / 256 % 256),.int .u8 (n % 256)]:=by
 have e:n / 72057594037927936 % 256=n / 72057594037927936:=by omega
 simp only [hv,zj8,List.map_cons,List.map_nil,bv];rw [zey _ (by omega) (by omega),zey _ (by omega) (by omega),zey _ (by omega) (by omega),zey _ (by omega) (by omega),zey _ (by omega) (by omega),zey _ (by omega) (by omega),zey _ (by omega) (by omega),zey _ (by omega) (by omega),e]
theorem qm (l:List UInt8):(hv l).size=l.length:=by simp [hv]
theorem jy (l:List UInt8):(hv l).all (·.oneCell')=true:=by
 simp [hv,bv,Value.oneCell']
theorem hv8 (l:List UInt8)(h:l.length=8):∃ r A D E H I J K:UInt8,l=[r,A,D,E,H,I,J,K]:=by
 match l,h with
 | [r,A,D,E,H,I,J,K],_=>exact⟨r,A,D,E,H,I,J,K,rfl⟩
theorem jg (n:Nat)(h:2≤n):kOf n < n∧n≤2*kOf n∧1≤kOf n:=by
 have h0:n - 1≠0:=by omega
 have h1:=Nat.log2_self_le h0;have h2:n - 1 < 2 ^ ((n - 1).log2+1):=Nat.lt_log2_self;rw [Nat.pow_succ] at h2;unfold kOf;refine⟨by omega,by omega,Nat.one_le_two_pow⟩
theorem z3a (n j:Nat)(h:2 ^ j < n)(r:n≤2 ^ (j+1)):2 ^ j=kOf n:=by
 have A:=@Nat.one_le_two_pow j;have h0:n - 1≠0:=by omega
 have e:(n - 1).log2=j:=(Nat.log2_eq_iff h0).2 ⟨by omega,by omega⟩;unfold kOf;rw [e]
def Bs (w:World)(v:Value)(l:List UInt8):Prop :=
 ∃ a A,v= .slice a l.length A∧(l=[]∨∃ b r,a=some ⟨b,r,none⟩∧∀ i (h:i < l.length),w.cell? ⟨b,r+i,none⟩=some (bv l[i]))
def Bss (w:World)(v:Value)(A:List (List UInt8)):Prop :=
 ∃ a r,v= .slice a A.length r∧A.length≤r∧(A=[]∨∃ b D,a=some ⟨b,D,none⟩∧∀ i (h:i < A.length),∃ x,w.cell? ⟨b,D+i,none⟩=some x∧Bs w x A[i])
def Sss (w:World)(v:Value)(A:List ByteArray):Prop :=
 ∃ a r,v= .slice a A.length r∧A.length≤r∧(A=[]∨∃ b D,a=some ⟨b,D,none⟩∧∀ i (h:i < A.length),w.cell? ⟨b,D+i,none⟩=some (.string A[i]))
theorem zk {w:World}{p:Addr}{v:Value}(h:w.cell? p=some v):p.block < w.heap.size:=by
 rcases Nat.lt_or_ge p.block w.heap.size with r | r
 ·exact r
 ·simp [World.cell?,Array.getElem?_eq_none r] at h
theorem Bs.below {w w':World}{v:Value}{l:List UInt8}(h:Bs w v l)(D:Below w.heap.size w w'):Bs w' v l:=by
 obtain⟨a,A,rfl,h⟩:=h;refine⟨a,A,rfl,?_⟩;rcases h with h | ⟨b,r,rfl,E⟩
 ·exact .inl h
 ·exact .inr ⟨b,r,rfl,fun i H=>by have:=E i H;rw [D.cell (p:=⟨b,r+i,none⟩) (zk (p:=⟨b,r+i,none⟩) this)];exact this⟩
theorem Bss.below {w w':World}{v:Value}{J:List (List UInt8)}(h:Bss w v J)(H:Below w.heap.size w w'):Bss w' v J:=by
 obtain⟨a,A,rfl,E,h⟩:=h;refine⟨a,A,rfl,E,?_⟩;rcases h with h | ⟨b,r,rfl,K⟩
 ·exact .inl h
 ·exact .inr ⟨b,r,rfl,fun i L=>by obtain⟨x,I,D⟩:=K i L;exact⟨x,by rw [H.cell (p:=⟨b,r+i,none⟩) (zk (p:=⟨b,r+i,none⟩) I)];exact I,D.below H⟩⟩
theorem Sss.below {w w':World}{v:Value}{E:List ByteArray}(h:Sss w v E)(H:Below w.heap.size w w'):Sss w' v E:=by
 obtain⟨a,A,rfl,D,h⟩:=h;refine⟨a,A,rfl,D,?_⟩;rcases h with h | ⟨b,r,rfl,I⟩
 ·exact .inl h
 ·exact .inr ⟨b,r,rfl,fun i J=>by have:=I i J;rw [H.cell (p:=⟨b,r+i,none⟩) (zk (p:=⟨b,r+i,none⟩) this)];exact this⟩
def xe:Nat→List (List UInt8) →List UInt8
 | 0,_=>hash []
 | f+1,l=>if l.length=0 then hash [] else if l.length=1 then jc (l.headD []) else yz (xe f (l.take (kOf l.length))) (xe f (l.drop (kOf l.length)))
theorem qk (f:Nat)(l:List (List UInt8)):(xe f l).length=8:=by
 cases f with
 | zero=>rfl
 | succ f =>
  unfold xe
  split
  ·rfl
  ·split<;>rfl
theorem zae (f:Nat)(l:List (List UInt8))(h:l.length=0):xe f l=hash []:=by
 cases f with
 | zero=>rfl
 | succ f=>unfold xe;rw [if_pos h]
theorem zc3 (f:Nat)(l:List (List UInt8))(h:l.length=1):xe (f+1) l=jc (l.headD []):=by
 unfold xe;rw [if_neg (by omega),if_pos h]
theorem vb (f:Nat)(l:List (List UInt8))(h:2≤l.length):xe (f+1) l=yz (xe f (l.take (kOf l.length))) (xe f (l.drop (kOf l.length))):=by
 rw [xe,if_neg (by omega),if_neg (by omega)]
theorem Bss.take {w:World}{b r n A:Nat}{D:List (List UInt8)}(h:Bss w (.slice (some ⟨b,r,none⟩) n A) D)(k:Nat)(S:k≤D.length):Bss w (.slice (some ⟨b,r,none⟩) k A) (D.take k):=by
 obtain⟨a,c,e,J,h⟩:=h;simp only [Value.slice.injEq] at e;obtain⟨rfl,rfl,rfl⟩:=e;have E:(D.take k).length=k:=by simp;omega
 refine⟨some ⟨b,r,none⟩,A,by rw [E],by rw [E];omega,?_⟩;rcases h with h | ⟨R,Q,e,I⟩
 ·left;simp [h]
 ·simp only [Option.some.injEq,Addr.mk.injEq] at e;obtain⟨rfl,rfl,_⟩:=e;refine .inr ⟨b,r,rfl,fun i K=>?_⟩;obtain⟨x,L,H⟩:=I i (by rw [E] at K;omega);exact⟨x,L,by rw [List.getElem_take];exact H⟩
theorem Bss.drop {w:World}{b r n A:Nat}{D:List (List UInt8)}(h:Bss w (.slice (some ⟨b,r,none⟩) n A) D)(k:Nat)(S:k≤D.length):Bss w (.slice (some ⟨b,r+k,none⟩) (n - k) (A - k)) (D.drop k):=by
 obtain⟨a,c,e,J,h⟩:=h;simp only [Value.slice.injEq] at e;obtain⟨rfl,rfl,rfl⟩:=e;have E:(D.drop k).length=D.length - k:=by simp
 refine⟨some ⟨b,r+k,none⟩,A - k,by rw [E],by rw [E];omega,?_⟩;rcases h with h | ⟨R,Q,e,I⟩
 ·left;simp [h]
 ·simp only [Option.some.injEq,Addr.mk.injEq] at e;obtain⟨rfl,rfl,_⟩:=e;refine .inr ⟨b,r+k,rfl,fun i K=>?_⟩;obtain⟨x,L,H⟩:=I (k+i) (by rw [E] at K;omega);exact⟨x,by rw [Nat.add_assoc];exact L,by rw [List.getElem_drop];exact H⟩
theorem Sss.take {w:World}{b r n A:Nat}{D:List ByteArray}(h:Sss w (.slice (some ⟨b,r,none⟩) n A) D)(k:Nat)(Q:k≤D.length):Sss w (.slice (some ⟨b,r,none⟩) k A) (D.take k):=by
 obtain⟨a,c,e,I,h⟩:=h;simp only [Value.slice.injEq] at e;obtain⟨rfl,rfl,rfl⟩:=e;have E:(D.take k).length=k:=by simp;omega
 refine⟨some ⟨b,r,none⟩,A,by rw [E],by rw [E];omega,?_⟩;rcases h with h | ⟨L,K,e,H⟩
 ·left;simp [h]
 ·simp only [Option.some.injEq,Addr.mk.injEq] at e;obtain⟨rfl,rfl,_⟩:=e;refine .inr ⟨b,r,rfl,fun i J=>?_⟩;rw [H i (by rw [E] at J;omega),List.getElem_take]
theorem Sss.drop {w:World}{b r n A:Nat}{D:List ByteArray}(h:Sss w (.slice (some ⟨b,r,none⟩) n A) D)(k:Nat)(Q:k≤D.length):Sss w (.slice (some ⟨b,r+k,none⟩) (n - k) (A - k)) (D.drop k):=by
 obtain⟨a,c,e,I,h⟩:=h;simp only [Value.slice.injEq] at e;obtain⟨rfl,rfl,rfl⟩:=e;have E:(D.drop k).length=D.length - k:=by simp
 refine⟨some ⟨b,r+k,none⟩,A - k,by rw [E],by rw [E];omega,?_⟩;rcases h with h | ⟨L,K,e,H⟩
 ·left;simp [h]
 ·simp only [Option.some.injEq,Addr.mk.injEq] at e;obtain⟨rfl,rfl,_⟩:=e;refine .inr ⟨b,r+k,rfl,fun i J=>?_⟩;rw [Nat.add_assoc,H (k+i) (by rw [E] at J;omega),List.getElem_drop]
def Tob (T:List Nat)(o:Option Obj):Prop:=(∃ c t x,o=some (.cells c t x)∧t∈T)∨∃ es c,o=some (.map es c)
theorem Tob.more {T T':List Nat}{o:Option Obj}(h:Tob T o)(r:∀ t∈T,t∈T'):Tob T' o:=by
 rcases h with ⟨c,t,x,e,A⟩ | h
 ·exact .inl ⟨c,t,x,e,r t A⟩
 ·exact .inr h
structure zg (O:Nat→Prop)(T:List Nat)(w w':World):Prop where
 os:w'.os=w.os
 tape:w'.tape=w.tape
 output:w'.output=w.output
 size:w.heap.size≤w'.heap.size
 block:∀ k,k < w.heap.size→w'.heap[k]?=w.heap[k]?∨(O k∧Tob T w.heap[k]?)
def Ext (O:Nat→Prop)(w w':World):Nat→Prop:=fun k=>O k∨(w.heap.size≤k∧k < w'.heap.size)
theorem zb {w:World}{k:Nat}{o:Obj}(h:w.heap[k]?=some o):k < w.heap.size:=by
 rcases Nat.lt_or_ge k w.heap.size with r | r
 ·exact r
 ·simp [Array.getElem?_eq_none r] at h
theorem zg.refl (O:Nat→Prop)(T:List Nat)(w:World):zg O T w w:=⟨rfl,rfl,rfl,Nat.le_refl _,fun _ _=> .inl rfl⟩
theorem zg.of_below {O:Nat→Prop}{T:List Nat}{w w':World}(h:Below w.heap.size w w'):zg O T w w':=⟨h.os,h.tape,h.output,h.size,fun k r=> .inl (h.block k r)⟩
theorem zg.mono {O O':Nat→Prop}{T T':List Nat}{w w':World}(h:zg O T w w')(r:∀ k,O k→O' k)(A:∀ t∈T,t∈T'):zg O' T' w w' :=
 ⟨h.os,h.tape,h.output,h.size,fun k D=>by
  rcases h.block k D with e | ⟨a,e⟩
  ·exact .inl e
  ·exact .inr ⟨r k a,e.more A⟩⟩
theorem zg.trans {O:Nat→Prop}{T:List Nat}{a b c:World}(h:zg O T a b)(k:zg (Ext O a b) T b c):zg O T a c :=
 ⟨k.os.trans h.os,k.tape.trans h.tape,k.output.trans h.output,Nat.le_trans h.size k.size,fun i D=>by
  rcases h.block i D with e | e
  ·rcases k.block i (Nat.lt_of_lt_of_le D h.size) with A | ⟨r,A⟩
   ·exact .inl (A.trans e)
   ·rcases r with r | r
    ·exact .inr ⟨r,e▸A⟩
    ·omega
  ·exact .inr e⟩
theorem zg.drew {O:Nat→Prop}{T:List Nat}{a w:World}(h:zg O T a w):zg O T a w.drew:=⟨h.os,h.tape,h.output,h.size,h.block⟩
theorem zg.drewN {O:Nat→Prop}{T:List Nat}{a w:World}(h:zg O T a w)(n:Nat):zg O T a (w.drewN n):=⟨h.os,h.tape,h.output,h.size,h.block⟩
theorem zg.undrew {O:Nat→Prop}{T:List Nat}{a w:World}(h:zg O T a.drew w):zg O T a w:=⟨h.os,h.tape,h.output,h.size,h.block⟩
theorem zg.then_below {O:Nat→Prop}{T:List Nat}{a b c:World}(h:zg O T a b)(k:Below b.heap.size b c):zg O T a c:=h.trans (.of_below k)
theorem zg.keep {O:Nat→Prop}{T:List Nat}{w w':World}(h:zg O T w w'){k:Nat}{c:Array Value}{t:TypeId}{x:Nat×Nat}(e:w.heap[k]?=some (.cells c t x))(E:t∉T):w'.heap[k]?=some (.cells c t x):=by
 rcases h.block k (zb e) with r | ⟨-,⟨c',H,x',r,A⟩ | ⟨D,c',r⟩⟩
 ·rw [r];exact e
 ·rw [e] at r;simp only [Option.some.injEq,Obj.cells.injEq] at r;exact absurd (r.2.1▸A) E
 ·rw [e] at r;simp at r
theorem zg.stay {O:Nat→Prop}{T:List Nat}{w w':World}(h:zg O T w w'){k:Nat}{o:Obj}(e:w.heap[k]?=some o)(A:¬ O k):w'.heap[k]?=some o:=by
 rcases h.block k (zb e) with r | ⟨D,-⟩
 ·rw [r];exact e
 ·exact absurd D A
theorem zg.set {O:Nat→Prop}{T:List Nat}{a w:World}(h:zg O T a w){b o:Nat}{c:Array Value}{t:TypeId}{x:Nat×Nat}(A:Ext O a w b)(e:w.heap[b]?=some (.cells c t x))(D:t∈T)(u:Value):zg O T a (w.setCell ⟨b,o,none⟩ u):=by
 refine h.trans ⟨rfl,rfl,rfl,by simp [World.setCell],fun k E=>?_⟩;by_cases r:k=b
 ·subst r;exact .inr ⟨A,.inl ⟨c,t,x,e,D⟩⟩
 ·exact .inl (Below.heap_setCell _ _ _ _ r)
theorem zg.alloc {O:Nat→Prop}{T:List Nat}{a w:World}(h:zg O T a w)(o:Obj):zg O T a (w.alloc o):=h.then_below ((Below.refl _ w).alloc (Nat.le_refl _) o)
theorem zg.setNew {O:Nat→Prop}{T:List Nat}{a w:World}(h:zg O T a w){b:Nat}(A:a.heap.size≤b)(o:Nat)(u:Value):zg O T a (w.setCell ⟨b,o,none⟩ u) :=
 ⟨h.os,h.tape,h.output,by simpa [World.setCell] using h.size,fun k r=>by
  rw [Below.heap_setCell _ _ _ _ (by show k≠b;omega)];exact h.block k r⟩
theorem zg.grown {O:Nat→Prop}{T:List Nat}{a w w':World}{v:Value}(h:zg O T a w){base:Nat}{e:TypeId}{s n:Nat}{xs:List Value}(K:w.ownsRow base e s v n xs)(A:w.grownBy w' v.ownBlock)(H:∀ g,v.ownBlock=some g→Ext O a w g)(L:e∈T):zg O T a w':=by
 refine h.trans ⟨A.os,A.tape,A.output,A.size,fun k J=>?_⟩;by_cases r:some k=v.ownBlock
 ·rcases K.2 with ⟨rfl,_⟩ | ⟨g,E,D,rfl,-,I,-⟩
  ·simp [Value.ownBlock] at r
  ·simp only [Value.ownBlock,Option.some.injEq] at r;subst r;exact .inr ⟨H k rfl,.inl ⟨D,e,(0,0),I,L⟩⟩
 ·exact .inl (A.block k J r)
theorem zi {O:Nat→Prop}{T:List Nat}{w w':World}{B:Nat}{e:TypeId}{s:Nat}{v:Value}{n:Nat}{xs:List Value}(h:w.ownsRow B e s v n xs)(L:zg O T w w')(K:e∉T):w'.ownsRow B e s v n xs:=by
 refine⟨h.1,?_⟩;rcases h.2 with h | ⟨J,A,D,E,H,I,r⟩
 ·exact .inl h
 ·exact .inr ⟨J,A,D,E,H,L.keep I K,r⟩
theorem zg.below {O:Nat→Prop}{T:List Nat}{w w':World}{B:Nat}(h:zg O T w w')(r:∀ k,O k→B≤k)(A:B≤w.heap.size):Below B w w' :=
 ⟨h.os,h.tape,h.output,h.size,fun k D=>by
  rcases h.block k (by omega) with e | ⟨a,-⟩
  ·exact e
  ·have:=r k a;omega⟩
theorem Ext.base {O:Nat→Prop}{w w':World}{B:Nat}(r:∀ k,O k→B≤k)(A:B≤w.heap.size):∀ k,Ext O w w' k→B≤k:=by
 rintro k (h | h)
 ·exact r k h
 ·omega
theorem Ext.trans {O:Nat→Prop}{a b c:World}(h1:a.heap.size≤b.heap.size)(h2:b.heap.size≤c.heap.size):∀ k,Ext (Ext O a b) b c k→Ext O a c k:=by
 rintro k ((h | h) | h)
 ·exact .inl h
 ·exact .inr (by omega)
 ·exact .inr (by omega)
theorem Ext.more {O:Nat→Prop}{a b c:World}(h2:b.heap.size≤c.heap.size):∀ k,Ext O a b k→Ext O a c k:=by
 rintro k (h | h)
 ·exact .inl h
 ·exact .inr (by omega)
end Go.Proofs.YtndkblnpbjffhaaGreatDoor
