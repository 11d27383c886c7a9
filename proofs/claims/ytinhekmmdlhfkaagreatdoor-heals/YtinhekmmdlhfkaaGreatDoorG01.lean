import Derived.Test.YtinhekmmdlhfkaaGreatDoorRows
import Derived.WalkKit
import Derived.WalkSpells
import Derived.WalkLawsBesides
import Derived.LaidEql
import Derived.BigQuiet
import Derived.Deep.QuietTactic
import Derived.Laws.Rows
import Derived.Laws.Tables
import Derived.Laws.CopyOwn
import Derived.Deep.WholeRow
import Derived.Deep.MidRow
import Derived.OpenShut
import Derived.Laws.OwnMore
import Derived.Deep.Draws
namespace Go.Proofs.YtinhekmmdlhfkaaGreatDoor
section
open Go.RowKit
theorem hide {p:Prop}(h:p):Hid p:=h
theorem heap_alloc_old {w:World}{o:Obj}{k:Nat}{x:Obj}(h:w.heap[k]?=some x):(w.alloc o).heap[k]?=some x:=by
 have hlt:k < w.heap.size:=by
  rcases Nat.lt_or_ge k w.heap.size with h' | h'
  ·exact h'
  ·simp [Array.getElem?_eq_none h'] at h
 show(w.heap.push o)[k]?=_
 simp only [Array.getElem?_push,Nat.ne_of_lt hlt,if_false]
 exact h
end
section
abbrev Fs:=List (List UInt8×List UInt8)
def look:Fs→List UInt8→Option (List UInt8)
 | [],_=>none
 | f::r,p=>if f.1=p then some f.2 else look r p
def ixF:Fs→List UInt8→Option Nat
 | [],_=>none
 | f::r,p=>if f.1=p then some 0 else (ixF r p).map (·+1)
def setF (fs:Fs)(p d:List UInt8):Fs:=match ixF fs p with
 | some i=>fs.set i (p,d)
 | none=>fs++[(p,d)]
def Apart (fs:Fs):Prop:=(fs.map (·.1)).Nodup
theorem ixF_some:∀ {fs:Fs}{p:List UInt8}{i:Nat} ,ixF fs p=some i→∃ h:i < fs.length,fs[i].1=p∧look fs p=some fs[i].2∧∀ j (hj:j < i),(fs[j]'(by omega)).1≠p
 | [],p,i,h=>by simp [ixF] at h
 | f::r,p,i,h=>by
  unfold ixF at h
  by_cases hf:f.1=p
  ·rw [if_pos hf] at h
   obtain rfl:0=i:=by simpa using h
   exact⟨by simp,hf,by simp [look,hf],fun j hj=>absurd hj (Nat.not_lt_zero _)⟩
  ·rw [if_neg hf] at h
   obtain⟨k,hk,rfl⟩:=Option.map_eq_some_iff.1 h
   obtain⟨h1,h2,h3,h4⟩:=ixF_some hk
   refine⟨by simp;omega,by simpa using h2,by simp [look,hf];simpa using h3,fun j hj=>?_⟩
   cases j with
   | zero=>simpa using hf
   | succ j=>simpa using h4 j (by omega)
theorem ixF_none:∀ {fs:Fs}{p:List UInt8} ,ixF fs p=none→look fs p=none∧∀ f∈fs,f.1≠p
 | [],p,_=>⟨rfl,fun f hf=>by simp at hf⟩
 | f::r,p,h=>by
  unfold ixF at h
  by_cases hf:f.1=p
  ·rw [if_pos hf] at h;simp at h
  ·rw [if_neg hf] at h
   have h':ixF r p=none:=by simpa using h
   obtain⟨h1,h2⟩:=ixF_none h'
   exact⟨by simp [look,hf,h1],fun g hg=>by
    rcases List.mem_cons.1 hg with rfl | hg
    ·exact hf
    ·exact h2 g hg⟩
theorem ixF_of:∀ {fs:Fs}{p:List UInt8}{i:Nat}(h:i < fs.length) ,fs[i].1=p→(∀ j (hj:j < i),(fs[j]'(by omega)).1≠p)→ixF fs p=some i
 | [],p,i,h,_,_=>by simp at h
 | f::r,p,0,_,h1,_=>by simp [ixF];simpa using h1
 | f::r,p,i+1,h,h1,h2=>by
  have hf:f.1≠p:=by simpa using h2 0 (by omega)
  unfold ixF
  rw [if_neg hf,ixF_of (fs:=r) (p:=p) (i:=i) (by simp at h;omega) (by simpa using h1) (fun j hj=>by simpa using h2 (j+1) (by omega))]
  rfl
theorem ixF_none_of {fs:Fs}{p:List UInt8}(h:∀ f∈fs,f.1≠p):ixF fs p=none:=by
 cases e:ixF fs p with
 | none=>rfl
 | some i =>
  obtain⟨h1,h2,_⟩:=ixF_some e
  exact absurd h2 (h _ (List.getElem_mem h1))
theorem look_none {fs:Fs}{p:List UInt8}:look fs p=none↔∀ f∈fs,f.1≠p:=by
 refine⟨fun h=>?_,fun h=>(ixF_none (ixF_none_of h)).1⟩
 cases e:ixF fs p with
 | none=>exact(ixF_none e).2
 | some i =>
  obtain⟨h1,h2,h3,_⟩:=ixF_some e
  rw [h3] at h;simp at h
theorem look_mem {fs:Fs}{p d:List UInt8}(h:look fs p=some d):(p,d)∈fs:=by
 cases e:ixF fs p with
 | none=>rw [(ixF_none e).1] at h;simp at h
 | some i =>
  obtain⟨h1,h2,h3,_⟩:=ixF_some e
  rw [h3] at h
  obtain rfl:fs[i].2=d:=by simpa using h
  rw [← h2]
  exact List.getElem_mem h1
theorem mem_look:∀ {fs:Fs}{p d:List UInt8} ,Apart fs→(p,d)∈fs→look fs p=some d
 | [],p,d,_,h=>by simp at h
 | f::r,p,d,ha,h=>by
  unfold Apart at ha
  simp only [List.map_cons,List.nodup_cons] at ha
  rcases List.mem_cons.1 h with rfl | h
  ·simp [look]
  ·have hf:f.1≠p:=fun e=>ha.1 (by rw [e];exact List.mem_map.2 ⟨_,h,rfl⟩)
   simp only [look,hf,if_false]
   exact mem_look ha.2 h
theorem look_perm {fs gs:Fs}(ha:Apart fs)(h:gs.Perm fs)(p:List UInt8):look gs p=look fs p:=by
 have hb:Apart gs:=(List.Perm.nodup_iff (h.map _)).2 ha
 cases e:look fs p with
 | none =>
  rw [look_none] at e ⊢
  exact fun f hf=>e f (h.mem_iff.1 hf)
 | some d=>exact mem_look hb (h.mem_iff.2 (look_mem e))
theorem paths_set (fs:Fs)(p d:List UInt8):(setF fs p d).map (·.1)=if ixF fs p=none then fs.map (·.1)++[p] else fs.map (·.1):=by
 unfold setF
 cases e:ixF fs p with
 | none=>simp
 | some i =>
  obtain⟨h1,h2,_⟩:=ixF_some e
  simp only [List.map_set,reduceCtorEq,if_false]
  rw [← h2]
  apply List.ext_getElem
  ·simp
  ·intro j hj hj'
   rw [List.getElem_set]
   split
   ·rename_i hij;subst hij;simp
   ·rfl
theorem Apart.set {fs:Fs}(h:Apart fs)(p d:List UInt8):Apart (setF fs p d):=by
 unfold Apart at *
 rw [paths_set]
 split
 ·rename_i e
  rw [List.nodup_append]
  refine⟨h,by simp,fun a ha b hb=>?_⟩
  obtain rfl:b=p:=by simpa using hb
  obtain⟨f,hf,rfl⟩:=List.mem_map.1 ha
  exact(ixF_none e).2 f hf
 ·exact h
theorem look_set_same (fs:Fs)(p d:List UInt8):look (setF fs p d) p=some d:=by
 have:∀ fs:Fs,look (setF fs p d) p=some d:=by
  intro fs
  induction fs with
  | nil=>simp [setF,ixF,look]
  | cons f r ih =>
   unfold setF
   unfold ixF
   by_cases hf:f.1=p
   ·rw [if_pos hf];simp [look]
   ·rw [if_neg hf]
    unfold setF at ih
    cases e:ixF r p with
    | none=>rw [e] at ih;simpa [look,hf] using ih
    | some i=>rw [e] at ih;simpa [look,hf] using ih
 exact this fs
theorem look_set_other (fs:Fs)(p d q:List UInt8)(h:q≠p):look (setF fs p d) q=look fs q:=by
 induction fs with
 | nil=>simp [setF,ixF,look,h.symm]
 | cons f r ih =>
  unfold setF
  unfold ixF
  by_cases hf:f.1=p
  ·rw [if_pos hf]
   have hq:¬ f.1=q:=fun e=>h (e.symm.trans hf)
   simp [look,h.symm,hq]
  ·rw [if_neg hf]
   unfold setF at ih
   cases e:ixF r p with
   | none=>rw [e] at ih;simp only [Option.map_none,List.cons_append,look];simp only at ih;rw [ih]
   | some i=>rw [e] at ih;simp only [Option.map_some,List.set_cons_succ,look];simp only at ih;rw [ih]
theorem look_set (fs:Fs)(p d q:List UInt8):look (setF fs p d) q=if q=p then some d else look fs q:=by
 split
 ·rename_i h;rw [h];exact look_set_same fs p d
 ·rename_i h;exact look_set_other fs p d q h
theorem setF_length (fs:Fs)(p d:List UInt8):(setF fs p d).length≤fs.length+1:=by
 unfold setF
 split<;>simp
theorem pigeon:∀(l s:List Nat),l.Nodup→(∀ x∈l,x∈s)→l.length≤s.length
 | [],s,_,_=>Nat.zero_le _
 | a::r,s,hn,hs=>by
  rw [List.nodup_cons] at hn
  have ha:=hs a (by simp)
  have h:=pigeon r (s.erase a) hn.2 (fun x hx=>by
   have hne:x≠a:=fun e=>hn.1 (by rw [← e];exact hx)
   exact(List.mem_erase_of_ne hne).2 (hs x (by simp [hx])))
  have hl:=List.length_erase_of_mem ha
  have hp:0 < s.length:=List.length_pos_of_mem ha
  simp only [List.length_cons]
  omega
theorem pigeon_range (n:Nat)(s:List Nat)(h:∀ j,j < n→j∈s):n≤s.length:=by
 have:=pigeon (List.range n) s List.nodup_range (fun x hx=>h x (List.mem_range.1 hx))
 simpa using this
end
section
structure Ly where
 path:List UInt8
 data:List UInt8
 fails:Bool
 times:Int
structure Nt where
 lies:List Ly
 told:List Int
 fetches:Int
def Ly.none:Ly:=⟨[],[],false,0⟩
def liesAt (n:Nt)(p:List UInt8)(k:Nat):Bool:=decide ((n.lies.getD k .none).path=p)&&!(decide (0 < (n.lies.getD k .none).times)&&decide ((n.lies.getD k .none).times≤n.told.getD k 0))
def lieIx (n:Nt)(p:List UInt8):Option Nat:=(List.range n.lies.length).find? (liesAt n p)
def netF (fs:Fs)(n:Nt)(p:List UInt8):(List UInt8×Bool)×Nt:=match lieIx n p with
 | some k=>(((n.lies.getD k .none).data,!(n.lies.getD k .none).fails),{ n with told:=n.told.set k (n.told.getD k 0+1),fetches:=n.fetches+1 })
 | none=>match look fs p with
  | some d=>((d,true),{ n with fetches:=n.fetches+1 })
  | none=>(([],false),{ n with fetches:=n.fetches+1 })
theorem lieIx_of {n:Nt}{p:List UInt8}{k:Nat}(hk:k < n.lies.length)(h:liesAt n p k=true)(hj:∀ j,j < k→liesAt n p j=false):lieIx n p=some k:=by
 unfold lieIx
 rw [List.find?_range_eq_some]
 exact⟨h,by simpa using hk,fun j hjk=>by rw [hj j hjk];rfl⟩
theorem lieIx_none {n:Nt}{p:List UInt8}(h:∀ j,j < n.lies.length→liesAt n p j=false):lieIx n p=none:=by
 unfold lieIx
 rw [List.find?_eq_none]
 intro j hj
 rw [h j (by simpa using hj)]
 simp
theorem lieIx_some {n:Nt}{p:List UInt8}{k:Nat}(h:lieIx n p=some k):k < n.lies.length∧liesAt n p k=true:=by
 unfold lieIx at h
 exact⟨by simpa using List.mem_of_find?_eq_some h,List.find?_some h⟩
end
section
open Go.RowKit
def st (m z:Int):Int:=IntKind.u64.wrap (bits BinOp.xor IntKind.u64 m z*1099511628211)
def fnv (n:Int)(l:List UInt8):Int:=l.foldl (fun m b=>st m b.toNat) n
def out8 (n:Int):List UInt8 :=
 [UInt8.ofNat (n / 72057594037927936 % 256).toNat,UInt8.ofNat (n / 281474976710656 % 256).toNat,UInt8.ofNat (n / 1099511627776 % 256).toNat,UInt8.ofNat (n / 4294967296 % 256).toNat,
  UInt8.ofNat (n / 16777216 % 256).toNat,UInt8.ofNat (n / 65536 % 256).toNat,UInt8.ofNat (n / 256 % 256).toNat,UInt8.ofNat (n % 256).toNat]
def fnvStart:Int:=14695981039346656037
def hash (l:List UInt8):List UInt8:=out8 (fnv fnvStart l)
def leafH (e:List UInt8):List UInt8:=hash (0::e)
def nodeH (a b:List UInt8):List UInt8:=hash (1::(a++b))
def kOf (n:Nat):Nat:=2 ^ (n - 1).log2
def bv (b:UInt8):Value:= .int .u8 b.toNat
def hv (l:List UInt8):Array Value:=(l.map bv).toArray
theorem st_range (m z:Int):0≤st m z∧st m z≤18446744073709551615:=by
 have h:=wf_wrap IntKind.u64 (bits BinOp.xor IntKind.u64 m z*1099511628211)
 exact bounds_u64 h
theorem fnv_range (n:Int)(l:List UInt8)(h0:0≤n)(h1:n≤18446744073709551615):0≤fnv n l∧fnv n l≤18446744073709551615:=by
 induction l generalizing n with
 | nil=>exact⟨h0,h1⟩
 | cons b l ih=>exact ih _ (st_range n b.toNat).1 (st_range n b.toNat).2
theorem fnv_append (n:Int)(a b:List UInt8):fnv n (a++b)=fnv (fnv n a) b:=List.foldl_append
theorem fnv_snoc (n:Int)(a:List UInt8)(b:UInt8):fnv n (a++[b])=st (fnv n a) b.toNat:=by rw [fnv_append];rfl
theorem fnvStart_range:0≤fnvStart∧fnvStart≤18446744073709551615:=by decide
theorem hash_length (l:List UInt8):(hash l).length=8:=rfl
theorem leafH_length (l:List UInt8):(leafH l).length=8:=rfl
theorem nodeH_length (a b:List UInt8):(nodeH a b).length=8:=rfl
theorem byte_of (x:Int)(h0:0≤x)(h1:x≤255):((UInt8.ofNat x.toNat).toNat:Int)=x:=by
 rw [UInt8.toNat_ofNat'];omega
theorem hv_out8 (n:Int)(h0:0≤n)(h1:n≤18446744073709551615):hv (out8 n) =
  #[.int .u8 (n / 72057594037927936),.int .u8 (n / 281474976710656 % 256),.int .u8 (n / 1099511627776 % 256),.int .u8 (n / 4294967296 % 256),
   .int .u8 (n / 16777216 % 256),.int .u8 (n / 65536 % 256),.int .u8 (n / 256 % 256),.int .u8 (n % 256)]:=by
 have e:n / 72057594037927936 % 256=n / 72057594037927936:=by omega
 simp only [hv,out8,List.map_cons,List.map_nil,bv]
 rw [byte_of _ (by omega) (by omega),byte_of _ (by omega) (by omega),byte_of _ (by omega) (by omega),byte_of _ (by omega) (by omega),byte_of _ (by omega) (by omega),byte_of _ (by omega) (by omega),byte_of _ (by omega) (by omega),byte_of _ (by omega) (by omega),e]
theorem hv_size (l:List UInt8):(hv l).size=l.length:=by simp [hv]
theorem hv_one (l:List UInt8):(hv l).all (·.oneCell')=true:=by
 simp [hv,bv,Value.oneCell']
theorem hv8 (l:List UInt8)(h:l.length=8):∃ b0 b1 b2 b3 b4 b5 b6 b7:UInt8,l=[b0,b1,b2,b3,b4,b5,b6,b7]:=by
 match l,h with
 | [b0,b1,b2,b3,b4,b5,b6,b7],_=>exact⟨b0,b1,b2,b3,b4,b5,b6,b7,rfl⟩
theorem kOf_spec (n:Nat)(h:2≤n):kOf n < n∧n≤2*kOf n∧1≤kOf n:=by
 have h0:n - 1≠0:=by omega
 have h1:=Nat.log2_self_le h0
 have h2:n - 1 < 2 ^ ((n - 1).log2+1):=Nat.lt_log2_self
 rw [Nat.pow_succ] at h2
 unfold kOf
 refine⟨by omega,by omega,Nat.one_le_two_pow⟩
theorem kOf_eq (n j:Nat)(h:2 ^ j < n)(h':n≤2 ^ (j+1)):2 ^ j=kOf n:=by
 have hp:=@Nat.one_le_two_pow j
 have h0:n - 1≠0:=by omega
 have e:(n - 1).log2=j:=(Nat.log2_eq_iff h0).2 ⟨by omega,by omega⟩
 unfold kOf
 rw [e]
def Bs (w:World)(v:Value)(l:List UInt8):Prop :=
 ∃ a cap,v= .slice a l.length cap∧(l=[]∨∃ b off,a=some ⟨b,off,none⟩∧∀ i (h:i < l.length),w.cell? ⟨b,off+i,none⟩=some (bv l[i]))
def Bss (w:World)(v:Value)(ls:List (List UInt8)):Prop :=
 ∃ a cap,v= .slice a ls.length cap∧ls.length≤cap∧(ls=[]∨∃ b off,a=some ⟨b,off,none⟩∧∀ i (h:i < ls.length),∃ x,w.cell? ⟨b,off+i,none⟩=some x∧Bs w x ls[i])
def Sss (w:World)(v:Value)(ls:List ByteArray):Prop :=
 ∃ a cap,v= .slice a ls.length cap∧ls.length≤cap∧(ls=[]∨∃ b off,a=some ⟨b,off,none⟩∧∀ i (h:i < ls.length),w.cell? ⟨b,off+i,none⟩=some (.string ls[i]))
theorem cell_lt {w:World}{p:Addr}{v:Value}(h:w.cell? p=some v):p.block < w.heap.size:=by
 rcases Nat.lt_or_ge p.block w.heap.size with h' | h'
 ·exact h'
 ·simp [World.cell?,Array.getElem?_eq_none h'] at h
theorem Bs.below {w w':World}{v:Value}{l:List UInt8}(h:Bs w v l)(hb:Below w.heap.size w w'):Bs w' v l:=by
 obtain⟨a,cap,rfl,h⟩:=h
 refine⟨a,cap,rfl,?_⟩
 rcases h with h | ⟨b,off,rfl,hc⟩
 ·exact .inl h
 ·exact .inr ⟨b,off,rfl,fun i hi=>by have:=hc i hi;rw [hb.cell (p:=⟨b,off+i,none⟩) (cell_lt (p:=⟨b,off+i,none⟩) this)];exact this⟩
theorem Bss.below {w w':World}{v:Value}{ls:List (List UInt8)}(h:Bss w v ls)(hb:Below w.heap.size w w'):Bss w' v ls:=by
 obtain⟨a,cap,rfl,hcap,h⟩:=h
 refine⟨a,cap,rfl,hcap,?_⟩
 rcases h with h | ⟨b,off,rfl,hc⟩
 ·exact .inl h
 ·exact .inr ⟨b,off,rfl,fun i hi=>by obtain⟨x,hx,hbs⟩:=hc i hi;exact⟨x,by rw [hb.cell (p:=⟨b,off+i,none⟩) (cell_lt (p:=⟨b,off+i,none⟩) hx)];exact hx,hbs.below hb⟩⟩
def rootF:Nat→List (List UInt8) →List UInt8
 | 0,_=>hash []
 | f+1,l=>if l.length=0 then hash [] else if l.length=1 then leafH (l.headD []) else nodeH (rootF f (l.take (kOf l.length))) (rootF f (l.drop (kOf l.length)))
theorem rootF_length (f:Nat)(l:List (List UInt8)):(rootF f l).length=8:=by
 cases f with
 | zero=>rfl
 | succ f =>
  unfold rootF
  split
  ·rfl
  ·split<;>rfl
theorem rootF_nil (f:Nat)(l:List (List UInt8))(h:l.length=0):rootF f l=hash []:=by
 cases f with
 | zero=>rfl
 | succ f=>unfold rootF;rw [if_pos h]
theorem rootF_one (f:Nat)(l:List (List UInt8))(h:l.length=1):rootF (f+1) l=leafH (l.headD []):=by
 unfold rootF;rw [if_neg (by omega),if_pos h]
theorem rootF_more (f:Nat)(l:List (List UInt8))(h:2≤l.length):rootF (f+1) l=nodeH (rootF f (l.take (kOf l.length))) (rootF f (l.drop (kOf l.length))):=by
 rw [rootF,if_neg (by omega),if_neg (by omega)]
theorem Bss.take {w:World}{b off n cap:Nat}{ls:List (List UInt8)}(h:Bss w (.slice (some ⟨b,off,none⟩) n cap) ls)(k:Nat)(hk:k≤ls.length):Bss w (.slice (some ⟨b,off,none⟩) k cap) (ls.take k):=by
 obtain⟨a,c,e,hcap,h⟩:=h
 simp only [Value.slice.injEq] at e
 obtain⟨rfl,rfl,rfl⟩:=e
 have hl:(ls.take k).length=k:=by simp;omega
 refine⟨some ⟨b,off,none⟩,cap,by rw [hl],by rw [hl];omega,?_⟩
 rcases h with h | ⟨b',off',e,hc⟩
 ·left;simp [h]
 ·simp only [Option.some.injEq,Addr.mk.injEq] at e
  obtain⟨rfl,rfl,_⟩:=e
  refine .inr ⟨b,off,rfl,fun i hi=>?_⟩
  obtain⟨x,hx,hb⟩:=hc i (by rw [hl] at hi;omega)
  exact⟨x,hx,by rw [List.getElem_take];exact hb⟩
theorem Bss.drop {w:World}{b off n cap:Nat}{ls:List (List UInt8)}(h:Bss w (.slice (some ⟨b,off,none⟩) n cap) ls)(k:Nat)(hk:k≤ls.length):Bss w (.slice (some ⟨b,off+k,none⟩) (n - k) (cap - k)) (ls.drop k):=by
 obtain⟨a,c,e,hcap,h⟩:=h
 simp only [Value.slice.injEq] at e
 obtain⟨rfl,rfl,rfl⟩:=e
 have hl:(ls.drop k).length=ls.length - k:=by simp
 refine⟨some ⟨b,off+k,none⟩,cap - k,by rw [hl],by rw [hl];omega,?_⟩
 rcases h with h | ⟨b',off',e,hc⟩
 ·left;simp [h]
 ·simp only [Option.some.injEq,Addr.mk.injEq] at e
  obtain⟨rfl,rfl,_⟩:=e
  refine .inr ⟨b,off+k,rfl,fun i hi=>?_⟩
  obtain⟨x,hx,hb⟩:=hc (k+i) (by rw [hl] at hi;omega)
  exact⟨x,by rw [Nat.add_assoc];exact hx,by rw [List.getElem_drop];exact hb⟩
end
section
open Go.RowKit
def Tob (T:List Nat)(o:Option Obj):Prop:=(∃ c t x,o=some (.cells c t x)∧t∈T)∨∃ es c,o=some (.map es c)
theorem Tob.more {T T':List Nat}{o:Option Obj}(h:Tob T o)(hT:∀ t∈T,t∈T'):Tob T' o:=by
 rcases h with ⟨c,t,x,e,ht⟩ | h
 ·exact .inl ⟨c,t,x,e,hT t ht⟩
 ·exact .inr h
structure Turn (O:Nat→Prop)(T:List Nat)(w w':World):Prop where
 os:w'.os=w.os
 tape:w'.tape=w.tape
 output:w'.output=w.output
 size:w.heap.size≤w'.heap.size
 block:∀ k,k < w.heap.size→w'.heap[k]?=w.heap[k]?∨(O k∧Tob T w.heap[k]?)
def Ext (O:Nat→Prop)(w w':World):Nat→Prop:=fun k=>O k∨(w.heap.size≤k∧k < w'.heap.size)
theorem heap_some_lt {w:World}{k:Nat}{o:Obj}(h:w.heap[k]?=some o):k < w.heap.size:=by
 rcases Nat.lt_or_ge k w.heap.size with h' | h'
 ·exact h'
 ·simp [Array.getElem?_eq_none h'] at h
theorem Turn.refl (O:Nat→Prop)(T:List Nat)(w:World):Turn O T w w:=⟨rfl,rfl,rfl,Nat.le_refl _,fun _ _=> .inl rfl⟩
theorem Turn.of_below {O:Nat→Prop}{T:List Nat}{w w':World}(h:Below w.heap.size w w'):Turn O T w w':=⟨h.os,h.tape,h.output,h.size,fun k hk=> .inl (h.block k hk)⟩
theorem Turn.mono {O O':Nat→Prop}{T T':List Nat}{w w':World}(h:Turn O T w w')(hO:∀ k,O k→O' k)(hT:∀ t∈T,t∈T'):Turn O' T' w w' :=
 ⟨h.os,h.tape,h.output,h.size,fun k hk=>by
  rcases h.block k hk with e | ⟨a,e⟩
  ·exact .inl e
  ·exact .inr ⟨hO k a,e.more hT⟩⟩
theorem Turn.trans {O:Nat→Prop}{T:List Nat}{a b c:World}(h:Turn O T a b)(k:Turn (Ext O a b) T b c):Turn O T a c :=
 ⟨k.os.trans h.os,k.tape.trans h.tape,k.output.trans h.output,Nat.le_trans h.size k.size,fun i hi=>by
  rcases h.block i hi with e | e
  ·rcases k.block i (Nat.lt_of_lt_of_le hi h.size) with e' | ⟨hO,e'⟩
   ·exact .inl (e'.trans e)
   ·rcases hO with hO | hO
    ·exact .inr ⟨hO,e▸e'⟩
    ·omega
  ·exact .inr e⟩
theorem Turn.drew {O:Nat→Prop}{T:List Nat}{a w:World}(h:Turn O T a w):Turn O T a w.drew:=⟨h.os,h.tape,h.output,h.size,h.block⟩
theorem Turn.drewN {O:Nat→Prop}{T:List Nat}{a w:World}(h:Turn O T a w)(n:Nat):Turn O T a (w.drewN n):=⟨h.os,h.tape,h.output,h.size,h.block⟩
theorem Turn.undrew {O:Nat→Prop}{T:List Nat}{a w:World}(h:Turn O T a.drew w):Turn O T a w:=⟨h.os,h.tape,h.output,h.size,h.block⟩
theorem Turn.then_below {O:Nat→Prop}{T:List Nat}{a b c:World}(h:Turn O T a b)(k:Below b.heap.size b c):Turn O T a c:=h.trans (.of_below k)
theorem Turn.keep {O:Nat→Prop}{T:List Nat}{w w':World}(h:Turn O T w w'){k:Nat}{c:Array Value}{t:TypeId}{x:Nat×Nat}(e:w.heap[k]?=some (.cells c t x))(ht:t∉T):w'.heap[k]?=some (.cells c t x):=by
 rcases h.block k (heap_some_lt e) with e' | ⟨-,⟨c',t',x',e',ht'⟩ | ⟨es',c',e'⟩⟩
 ·rw [e'];exact e
 ·rw [e] at e'
  simp only [Option.some.injEq,Obj.cells.injEq] at e'
  exact absurd (e'.2.1▸ht') ht
 ·rw [e] at e';simp at e'
theorem Turn.stay {O:Nat→Prop}{T:List Nat}{w w':World}(h:Turn O T w w'){k:Nat}{o:Obj}(e:w.heap[k]?=some o)(hO:¬ O k):w'.heap[k]?=some o:=by
 rcases h.block k (heap_some_lt e) with e' | ⟨hk,-⟩
 ·rw [e'];exact e
 ·exact absurd hk hO
theorem Turn.set {O:Nat→Prop}{T:List Nat}{a w:World}(h:Turn O T a w){b o:Nat}{c:Array Value}{t:TypeId}{x:Nat×Nat}(hO:Ext O a w b)(e:w.heap[b]?=some (.cells c t x))(ht:t∈T)(u:Value):Turn O T a (w.setCell ⟨b,o,none⟩ u):=by
 refine h.trans ⟨rfl,rfl,rfl,by simp [World.setCell],fun k hk=>?_⟩
 by_cases hkb:k=b
 ·subst hkb
  exact .inr ⟨hO,.inl ⟨c,t,x,e,ht⟩⟩
 ·exact .inl (Below.heap_setCell _ _ _ _ hkb)
theorem Turn.alloc {O:Nat→Prop}{T:List Nat}{a w:World}(h:Turn O T a w)(o:Obj):Turn O T a (w.alloc o):=h.then_below ((Below.refl _ w).alloc (Nat.le_refl _) o)
theorem Turn.setNew {O:Nat→Prop}{T:List Nat}{a w:World}(h:Turn O T a w){b:Nat}(hb:a.heap.size≤b)(o:Nat)(u:Value):Turn O T a (w.setCell ⟨b,o,none⟩ u) :=
 ⟨h.os,h.tape,h.output,by simpa [World.setCell] using h.size,fun k hk=>by
  rw [Below.heap_setCell _ _ _ _ (by show k≠b;omega)]
  exact h.block k hk⟩
theorem Turn.grown {O:Nat→Prop}{T:List Nat}{a w w':World}{v:Value}(h:Turn O T a w){base:Nat}{e:TypeId}{s n:Nat}{xs:List Value}(ho:w.ownsRow base e s v n xs)(hg:w.grownBy w' v.ownBlock)(hO:∀ g,v.ownBlock=some g→Ext O a w g)(ht:e∈T):Turn O T a w':=by
 refine h.trans ⟨hg.os,hg.tape,hg.output,hg.size,fun k hk=>?_⟩
 by_cases hkb:some k=v.ownBlock
 ·rcases ho.2 with ⟨rfl,_⟩ | ⟨g,cap,cur,rfl,-,hh,-⟩
  ·simp [Value.ownBlock] at hkb
  ·simp only [Value.ownBlock,Option.some.injEq] at hkb
   subst hkb
   exact .inr ⟨hO k rfl,.inl ⟨cur,e,(0,0),hh,ht⟩⟩
 ·exact .inl (hg.block k hk hkb)
theorem ownsRow_turn {O:Nat→Prop}{T:List Nat}{w w':World}{B:Nat}{e:TypeId}{s:Nat}{v:Value}{n:Nat}{xs:List Value}(h:w.ownsRow B e s v n xs)(ht:Turn O T w w')(he:e∉T):w'.ownsRow B e s v n xs:=by
 refine⟨h.1,?_⟩
 rcases h.2 with h | ⟨g',cap,cur,e1,e2,e3,r⟩
 ·exact .inl h
 ·exact .inr ⟨g',cap,cur,e1,e2,ht.keep e3 he,r⟩
theorem Turn.below {O:Nat→Prop}{T:List Nat}{w w':World}{B:Nat}(h:Turn O T w w')(hO:∀ k,O k→B≤k)(hB:B≤w.heap.size):Below B w w' :=
 ⟨h.os,h.tape,h.output,h.size,fun k hk=>by
  rcases h.block k (by omega) with e | ⟨a,-⟩
  ·exact e
  ·have:=hO k a;omega⟩
theorem Ext.base {O:Nat→Prop}{w w':World}{B:Nat}(hO:∀ k,O k→B≤k)(hB:B≤w.heap.size):∀ k,Ext O w w' k→B≤k:=by
 rintro k (h | h)
 ·exact hO k h
 ·omega
theorem Ext.trans {O:Nat→Prop}{a b c:World}(h1:a.heap.size≤b.heap.size)(h2:b.heap.size≤c.heap.size):∀ k,Ext (Ext O a b) b c k→Ext O a c k:=by
 rintro k ((h | h) | h)
 ·exact .inl h
 ·exact .inr (by omega)
 ·exact .inr (by omega)
theorem Ext.more {O:Nat→Prop}{a b c:World}(h2:b.heap.size≤c.heap.size):∀ k,Ext O a b k→Ext O a c k:=by
 rintro k (h | h)
 ·exact .inl h
 ·exact .inr (by omega)
end
section
open Go.RowKit
structure Dk where
 fs:Fs
 calls:Int
 failAt:Int
 dead:Bool
 once:Bool
 half:Bool
 hit:Bool
 turned:Bool
def nextC (d:Dk):Int:=wrap64 (d.calls+1)
def enterK (d:Dk):Int:=if d.dead then 2 else if 0 < d.failAt∧nextC d=d.failAt then (if d.half then 1 else 2) else 0
def enterD (d:Dk):Dk:=if d.dead then { d with calls:=nextC d } else if 0 < d.failAt∧nextC d=d.failAt then { d with calls:=nextC d,dead:=!d.once,hit:=true } else { d with calls:=nextC d }
def putE (d:Dk)(p x:List UInt8):Bool:=match look d.fs p with
 | some y=>if y=x then decide (0 < enterK d) else true
 | none=>decide (0 < enterK d)
def putD (d:Dk)(p x:List UInt8):Dk:=match look d.fs p with
 | some y=>if y=x then (if enterK d < 2 then { enterD d with fs:=setF d.fs p x } else enterD d) else { enterD d with turned:=true }
 | none=>if enterK d < 2 then { enterD d with fs:=setF d.fs p x } else enterD d
def swapD (d:Dk)(p x:List UInt8):Dk:=if enterK d < 2 then { enterD d with fs:=setF d.fs p x } else enterD d
def bad (d:Dk):Bool:=decide (0 < enterK d)
def Calm (d:Dk):Prop:=d.dead=false∧d.hit=false
theorem enterD_fs (d:Dk):(enterD d).fs=d.fs:=by unfold enterD;split<;>(try split)<;>rfl
theorem enterD_turned (d:Dk):(enterD d).turned=d.turned:=by unfold enterD;split<;>(try split)<;>rfl
def tk (d:Dk):Bool×Int×Bool×Bool:=(d.turned,d.failAt,decide (d.failAt=0)&&d.dead,decide (d.failAt=0)&&d.hit)
theorem enterD_tk (d:Dk):tk (enterD d)=tk d:=by
 unfold enterD tk
 split
 ·rfl
 ·split
  ·rename_i h
   have:¬ d.failAt=0:=by omega
   simp [this]
  ·rfl
theorem tk_turned {d e:Dk}(h:tk d=tk e):d.turned=e.turned:=congrArg Prod.fst h
theorem enterK_le (d:Dk):0≤enterK d∧enterK d≤2:=by
 unfold enterK
 split
 ·omega
 ·split
  ·split<;>omega
  ·omega
theorem calm_enter {d:Dk}(h:Calm d):(enterK d=0∧Calm (enterD d))∨(0 < enterK d∧(enterD d).hit=true):=by
 unfold enterK enterD Calm at *
 rw [h.1]
 simp only [Bool.false_eq_true,if_false]
 split
 ·refine .inr ⟨?_,rfl⟩
  split<;>omega
 ·exact .inl ⟨rfl,rfl,h.2⟩
def cpF:List UInt8:=[99,104,101,99,107,112,111,105,110,116]
def Went (want:Fs)(c:List UInt8)(fs fs':Fs):Prop :=
 ∀ q,look fs' q=look fs q∨(look fs q=none∧∃ x,(q,x)∈want∧look fs' q=some x)∨(q=cpF∧look fs' q=some c)
theorem Went.refl (want:Fs)(c:List UInt8)(fs:Fs):Went want c fs fs:=fun _=> .inl rfl
theorem Went.trans {want:Fs}{c:List UInt8}{f g h:Fs}(a:Went want c f g)(b:Went want c g h):Went want c f h:=by
 intro q
 rcases a q with a | ⟨a0,x,hx,a⟩ | ⟨rfl,a⟩
 ·rcases b q with b | ⟨b0,y,hy,b⟩ | b
  ·exact .inl (b.trans a)
  ·exact .inr (.inl ⟨a▸b0,y,hy,b⟩)
  ·exact .inr (.inr b)
 ·rcases b q with b | ⟨b0,y,hy,b⟩ | b
  ·exact .inr (.inl ⟨a0,x,hx,b.trans a⟩)
  ·rw [a] at b0;simp at b0
  ·exact .inr (.inr b)
 ·rcases b cpF with b | ⟨b0,y,hy,b⟩ | b
  ·exact .inr (.inr ⟨rfl,b.trans a⟩)
  ·rw [a] at b0;simp at b0
  ·exact .inr (.inr b)
def NoClash (fs want:Fs):Prop:=∀ q x,(q,x)∈want→look fs q=none∨look fs q=some x
def Fine (want:Fs):Prop:=(∀ q x y,(q,x)∈want→(q,y)∈want→x=y)∧∀ x,(cpF,x)∉want
theorem NoClash.went {want:Fs}{c:List UInt8}{fs fs':Fs}(hf:Fine want)(h:NoClash fs want)(w:Went want c fs fs'):NoClash fs' want:=by
 intro q x hx
 rcases w q with e | ⟨_,y,hy,e⟩ | ⟨rfl,_⟩
 ·rw [e];exact h q x hx
 ·rw [e,hf.1 q x y hx hy];exact .inr rfl
 ·exact absurd hx (hf.2 x)
theorem went_put {want:Fs}{c:List UInt8}{fs:Fs}{p x:List UInt8}(h:NoClash fs want)(hx:(p,x)∈want):Went want c fs (setF fs p x):=by
 intro q
 rw [look_set]
 split
 ·rename_i e
  subst e
  rcases h q x hx with h | h
  ·exact .inr (.inl ⟨h,x,hx,rfl⟩)
  ·exact .inl h.symm
 ·exact .inl rfl
theorem went_swap (want:Fs)(c:List UInt8)(fs:Fs):Went want c fs (setF fs cpF c):=by
 intro q
 rw [look_set]
 split
 ·rename_i e;exact .inr (.inr ⟨e,rfl⟩)
 ·exact .inl rfl
theorem Went.stays {want:Fs}{c:List UInt8}{fs fs':Fs}(w:Went want c fs fs'){q x:List UInt8}(h:look fs q=some x)(hq:q≠cpF):look fs' q=some x:=by
 rcases w q with e | ⟨h0,_⟩ | ⟨e,_⟩
 ·rw [e];exact h
 ·rw [h] at h0;simp at h0
 ·exact absurd e hq
def putsD:Fs→Dk→Option (List UInt8) ×Dk
 | [],d=>(none,d)
 | f::r,d=>if putE d f.1 f.2 then (some f.1,putD d f.1 f.2) else putsD r (putD d f.1 f.2)
def pubD (todo:Fs)(c:List UInt8)(d:Dk):Option (List UInt8)×Dk:=match putsD todo d with
 | (some p,d1)=>(some p,d1)
 | (none,d1)=>if bad d1 then (some cpF,swapD d1 cpF c) else (none,swapD d1 cpF c)
theorem putsD_append (a b:Fs)(d:Dk):putsD (a++b) d=match putsD a d with
  | (some p,d1)=>(some p,d1)
  | (none,d1)=>putsD b d1:=by
 induction a generalizing d with
 | nil=>rfl
 | cons f r ih =>
  simp only [List.cons_append,putsD]
  split
  ·rfl
  ·exact ih _
theorem put_one {want:Fs}{c:List UInt8}{d:Dk}{p x:List UInt8}(hc:Calm d)(ha:Apart d.fs)(ht:d.turned=false)(hn:NoClash d.fs want)(hx:(p,x)∈want):
  Apart (putD d p x).fs∧(putD d p x).turned=false∧Went want c d.fs (putD d p x).fs∧((putE d p x=false∧Calm (putD d p x)∧look (putD d p x).fs p=some x)∨(putE d p x=true∧(putD d p x).hit=true)):=by
 have hE:putE d p x=decide (0 < enterK d):=by
  unfold putE
  rcases hn p x hx with e | e<;>rw [e]
  simp
 have hD:putD d p x=if enterK d < 2 then { enterD d with fs:=setF d.fs p x } else enterD d:=by
  unfold putD
  rcases hn p x hx with e | e<;>rw [e]
  simp
 rw [hE,hD]
 rcases calm_enter hc with ⟨h0,h1⟩ | ⟨h0,h1⟩
 ·rw [if_pos (by omega),h0]
  exact⟨ha.set p x,by simpa [enterD_turned] using ht,went_put hn hx,.inl ⟨rfl,h1,look_set_same _ _ _⟩⟩
 ·have hd:decide (0 < enterK d)=true:=by simpa using h0
  rw [hd]
  split
  ·exact⟨ha.set p x,by simpa [enterD_turned] using ht,went_put hn hx,.inr ⟨rfl,h1⟩⟩
  ·exact⟨by rw [enterD_fs];exact ha,by rw [enterD_turned];exact ht,by rw [enterD_fs];exact Went.refl _ _ _,.inr ⟨rfl,h1⟩⟩
theorem puts_many {want:Fs}{c:List UInt8}(hf:Fine want):∀(todo:Fs) (d:Dk),Calm d→Apart d.fs→d.turned=false→NoClash d.fs want→(∀ f∈todo,f∈want) →
  Apart (putsD todo d).2.fs∧(putsD todo d).2.turned=false∧Went want c d.fs (putsD todo d).2.fs ∧
   (((putsD todo d).1=none∧Calm (putsD todo d).2∧∀ f∈todo,look (putsD todo d).2.fs f.1=some f.2)∨(∃ p x,(putsD todo d).1=some p∧(p,x)∈want∧(putsD todo d).2.hit=true))
 | [],d,hc,ha,ht,_,_=>⟨ha,ht,Went.refl _ _ _,.inl ⟨rfl,hc,fun f h=>by simp at h⟩⟩
 | f::r,d,hc,ha,ht,hn,hs=>by
  have hx:(f.1,f.2)∈want:=hs f (by simp)
  obtain⟨a1,t1,w1,h1⟩:=put_one (c:=c) hc ha ht hn hx
  unfold putsD
  rcases h1 with ⟨e,c1,l1⟩ | ⟨e,h1⟩
  ·rw [if_neg (by rw [e];simp)]
   obtain⟨a2,t2,w2,h2⟩:=puts_many hf r (putD d f.1 f.2) c1 a1 t1 (hn.went hf w1) (fun g hg=>hs g (by simp [hg]))
   refine⟨a2,t2,w1.trans w2,?_⟩
   rcases h2 with ⟨e2,c2,l2⟩ | h2
   ·refine .inl ⟨e2,c2,fun g hg=>?_⟩
    rcases List.mem_cons.1 hg with rfl | hg
    ·exact w2.stays l1 (fun e=>hf.2 g.2 (by rw [← e];exact hx))
    ·exact l2 g hg
   ·exact .inr h2
  ·rw [if_pos e]
   exact⟨a1,t1,w1,.inr ⟨f.1,f.2,rfl,hx,h1⟩⟩
theorem pub_end {want todo:Fs}{c:List UInt8}{d:Dk}(hf:Fine want)(hc:Calm d)(ha:Apart d.fs)(ht:d.turned=false)(hn:NoClash d.fs want)(hs:∀ f∈todo,f∈want):
  Apart (pubD todo c d).2.fs∧(pubD todo c d).2.turned=false∧Went want c d.fs (pubD todo c d).2.fs ∧
   (((pubD todo c d).1=none∧Calm (pubD todo c d).2∧look (pubD todo c d).2.fs cpF=some c∧∀ f∈todo,look (pubD todo c d).2.fs f.1=some f.2) ∨
    ((∃ p,(pubD todo c d).1=some p∧(p=cpF∨∃ x,(p,x)∈want))∧(pubD todo c d).2.hit=true)):=by
 obtain⟨a1,t1,w1,h1⟩:=puts_many (c:=c) hf todo d hc ha ht hn hs
 unfold pubD
 generalize putsD todo d=r at *
 obtain⟨o,d1⟩:=r
 simp only at a1 t1 w1 h1
 rcases h1 with ⟨rfl,c1,l1⟩ | ⟨p,x,rfl,hx,h1⟩
 ·simp only
  have hS:swapD d1 cpF c=if enterK d1 < 2 then { enterD d1 with fs:=setF d1.fs cpF c } else enterD d1:=rfl
  have hB:bad d1=decide (0 < enterK d1):=rfl
  rw [hB,hS]
  rcases calm_enter c1 with ⟨h0,h2⟩ | ⟨h0,h2⟩
  ·rw [if_neg (by simp [h0]),if_pos (by omega)]
   refine⟨a1.set _ _,by simpa [enterD_turned] using t1,w1.trans (went_swap _ _ _),.inl ⟨rfl,h2,look_set_same _ _ _,fun f hf'=>?_⟩⟩
   simp only
   rw [look_set_other]
   ·exact l1 f hf'
   ·exact fun e=>hf.2 f.2 (by rw [← e];exact hs f hf')
  ·rw [if_pos (by simpa using h0)]
   simp only
   split
   ·exact⟨a1.set _ _,by simpa [enterD_turned] using t1,w1.trans (went_swap _ _ _),.inr ⟨⟨_,rfl,.inl rfl⟩,h2⟩⟩
   ·exact⟨by rw [enterD_fs];exact a1,by rw [enterD_turned];exact t1,by rw [enterD_fs];exact w1,.inr ⟨⟨_,rfl,.inl rfl⟩,h2⟩⟩
 ·exact⟨a1,t1,w1,.inr ⟨⟨p,rfl,.inr ⟨x,hx⟩⟩,h1⟩⟩
def clashB (before want:Fs):Bool:=want.any fun f=>match look before f.1 with
 | some y=>decide (y≠f.2)
 | none=>false
theorem clashB_false {before want:Fs}(h:clashB before want=false):NoClash before want:=by
 intro q x hx
 unfold clashB at h
 rw [List.any_eq_false] at h
 have:=h (q,x) hx
 simp only at this
 cases e:look before q with
 | none=>exact .inl rfl
 | some y=>rw [e] at this;simp at this;rw [this];exact .inr rfl
end
end Go.Proofs.YtinhekmmdlhfkaaGreatDoor
