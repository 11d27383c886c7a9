import Derived.Test.YtinhekmmdlhfkaaGreatDoorG06
import Derived.Test.YtinhekmmdlhfkaaGreatDoorG01
import Derived.Lib.Split
import Derived.Shelf.LaysC
import Derived.Shelf.LaysM
import Derived.Shelf.Strconv.AtoiAll
import Derived.Shelf.Strconv.Itoa3
import Derived.Shelf.Strings.Split
import Derived.Test.YtinhekmmdlhfkaaGreatDoorProg
namespace Go.Proofs.YtinhekmmdlhfkaaGreatDoor
section
def zfw (d:Nat):UInt8:=if d < 10 then UInt8.ofNat (48+d) else UInt8.ofNat (87+d)
def z4t (b:UInt8):List UInt8:=[zfw (b.toNat / 16),zfw (b.toNat % 16)]
def vi (l:List UInt8):List UInt8:=(l.map z4t).flatten
def ziy (c:UInt8):Prop:=(48≤c.toNat∧c.toNat≤57)∨(97≤c.toNat∧c.toNat≤102)
def nv (c:UInt8):Nat:=if c.toNat≤57 then c.toNat - 48 else c.toNat - 87
def zdz (acc:Nat):List UInt8→Nat
 | []=>acc
 | c::r=>zdz (acc*16+nv c) r
theorem zrv (d:Nat)(h:d < 16):(zfw d).toNat=if d < 10 then 48+d else 87+d:=by
 unfold zfw
 split<;>rw [UInt8.toNat_ofNat']<;>omega
theorem zsc (d:Nat)(h:d < 16):ziy (zfw d):=by
 unfold ziy
 rw [zrv d h]
 split<;>omega
theorem zw3 (d:Nat)(h:d < 16):nv (zfw d)=d:=by
 unfold nv
 rw [zrv d h]
 split<;>split<;>omega
theorem z9h (c:UInt8)(h:ziy c):nv c < 16:=by
 unfold ziy at h
 unfold nv
 split<;>omega
theorem zr2 (a b:List UInt8)(n:Nat):zdz n (a++b)=zdz (zdz n a) b:=by
 induction a generalizing n with
 | nil=>rfl
 | cons c a ih=>exact ih _
theorem zyy (n:Nat)(b:UInt8)(r:List UInt8):zdz n (z4t b++r)=zdz (n*256+b.toNat) r:=by
 have hb:=b.toNat_lt
 show zdz ((n*16+nv (zfw (b.toNat / 16)))*16+nv (zfw (b.toNat % 16))) r=_
 rw [zw3 _ (by omega),zw3 _ (by omega)]
 congr 1
 omega
theorem zj2 (b:UInt8)(l:List UInt8):vi (b::l)=z4t b++vi l:=by simp [vi]
theorem za1 (l:List UInt8):(vi l).length=2*l.length:=by
 induction l with
 | nil=>rfl
 | cons b l ih=>rw [zj2,List.length_append,ih];simp [z4t];omega
theorem znq (l:List UInt8):∀ c∈vi l,ziy c:=by
 induction l with
 | nil=>intro c h;simp [vi] at h
 | cons b l ih =>
  intro c h
  have hb:=b.toNat_lt
  rw [zj2] at h
  rcases List.mem_append.1 h with h | h
  ·rcases(by simpa [z4t] using h:c=zfw (b.toNat / 16)∨c=zfw (b.toNat % 16)) with rfl | rfl
   ·exact zsc _ (by omega)
   ·exact zsc _ (by omega)
  ·exact ih c h
theorem zwr (l:List UInt8)(h:∀ c∈l,ziy c)(n k:Nat)(hn:n < 16 ^ k):zdz n l < 16 ^ (k+l.length):=by
 induction l generalizing n k with
 | nil=>exact hn
 | cons c l ih =>
  have hc:=z9h c (h c (by simp))
  have:n*16+nv c < 16 ^ (k+1):=by rw [Nat.pow_succ];omega
  have:=ih (fun x hx=>h x (by simp [hx])) (n*16+nv c) (k+1) this
  rw [show k+(c::l).length=k+1+l.length by simp;omega]
  exact this
theorem zlv (root:List UInt8)(h:root.length=8):zn4 (zdz 0 (vi root):Nat)=root:=by
 obtain⟨b0,b1,b2,b3,b4,b5,b6,b7,rfl⟩:=hv8 root h
 have h0:=b0.toNat_lt;have h1:=b1.toNat_lt;have h2:=b2.toNat_lt;have h3:=b3.toNat_lt
 have h4:=b4.toNat_lt;have h5:=b5.toNat_lt;have h6:=b6.toNat_lt;have h7:=b7.toNat_lt
 have e:zdz 0 (vi [b0,b1,b2,b3,b4,b5,b6,b7])=((((((b0.toNat*256+b1.toNat)*256+b2.toNat)*256+b3.toNat)*256+b4.toNat)*256+b5.toNat)*256+b6.toNat)*256+b7.toNat:=by
  simp only [zj2,zyy]
  show zdz _ []=_
  simp only [zdz,Nat.zero_mul,Nat.zero_add]
 rw [e]
 unfold zn4
 have key:∀(b:UInt8) (x:Int),x=(b.toNat:Int)→UInt8.ofNat x.toNat=b:=by
  intro b x hx
  subst hx
  simp
 generalize hn:((((((b0.toNat*256+b1.toNat)*256+b2.toNat)*256+b3.toNat)*256+b4.toNat)*256+b5.toNat)*256+b6.toNat)*256+b7.toNat=n
 rw [key b0 _ (by omega),key b1 _ (by omega),key b2 _ (by omega),key b3 _ (by omega),key b4 _ (by omega),key b5 _ (by omega),key b6 _ (by omega),key b7 _ (by omega)]
theorem zsq {a b:List UInt8}(ha:a.length=8)(hb:b.length=8)(h:vi a=vi b):a=b:=by
 rw [← zlv a ha,← zlv b hb,h]
theorem zx9 (l:List UInt8):∀ x∈vi l,x≠10:=by
 intro x hx e
 subst e
 have:=znq l 10 hx
 unfold ziy at this
 revert this
 decide
theorem z0b (n:Nat):∀ x∈dec n,x≠10:=zlg n 10 (by unfold zb9;decide)
def zcz:List UInt8:=[116,105,108,101,115,10]
def zut (n:Nat)(root:List UInt8):List UInt8:=zcz++dec n++[10]++vi root++[10]
def zhx (n:Nat)(root key:List UInt8):List UInt8:=vi (hash (key++[0]++zut n root))
def xn (n:Nat)(root key:List UInt8):List UInt8:=zut n root++zhx n root key++[10]
theorem zgf (n:Nat)(root key:List UInt8):xn n root key=zcz++(dec n++(10::(vi root++(10::(zhx n root key++[10]))))):=by
 unfold xn zut
 simp
def jq (t key:List UInt8)(n:Nat)(root:List UInt8):Prop:=n≤9223372036854775807∧root.length=8∧t=xn n root key
theorem zwn (r:List UInt8):zs3 (10::r):=by show ¬ zb9 10;unfold zb9;decide
theorem jq.inj {t key:List UInt8}{n m:Nat}{a b:List UInt8}(h:jq t key n a)(h':jq t key m b):n=m∧a=b:=by
 obtain⟨hn,ha,e⟩:=h
 obtain⟨hm,hb,e'⟩:=h'
 rw [e,zgf,zgf] at e'
 have e1:=List.append_cancel_left e'
 have e2:z6p (dec n++(10::(vi a++(10::(zhx n a key++[10])))))=z6p (dec m++(10::(vi b++(10::(zhx m b key++[10]))))):=by rw [e1]
 rw [ztb n hn _ (zwn _),ztb m hm _ (zwn _)] at e2
 simp only [Prod.mk.injEq,List.cons.injEq,true_and] at e2
 obtain⟨rfl,e3,-⟩:=e2
 refine⟨rfl,zsq ha hb ?_⟩
 have:=congrArg (List.take 16) e3
 rw [List.take_append_of_le_length (by rw [za1];omega),List.take_append_of_le_length (by rw [za1];omega),List.take_of_length_le (by rw [za1];omega),List.take_of_length_le (by rw [za1];omega)] at this
 exact this
theorem z4w (a b:List UInt8)(c:UInt8)(h:∀ x∈a,x≠c):Lib.index (a++c::b) [c]=a.length:=by
 refine Lib.index_first (by simp) ?_ (fun j hj=>?_)
 ·unfold Lib.occAt
  rw [List.drop_left]
  simp
 ·cases ho:Lib.occAt (a++c::b) [c] j with
  | false=>rfl
  | true =>
   have:=Lib.occAt_head rfl ho
   rw [List.getElem?_append_left hj,List.getElem?_eq_getElem hj] at this
   exact absurd (Option.some.inj this) (h _ (List.getElem_mem hj))
theorem zj7 (k:Nat)(a b:List UInt8)(c:UInt8)(h:∀ x∈a,x≠c):Lib.splitK [c] 0 (k+1) (a++c::b)=a::Lib.splitK [c] 0 k b:=by
 rw [Lib.splitK,z4w a b c h,if_neg (by rw [beq_iff_eq];omega),Int.toNat_natCast,Nat.add_zero,List.take_left]
 congr 2
 rw [show a.length+[c].length=(a++[c]).length by simp,show a++c::b=(a++[c])++b by simp,List.drop_left]
theorem zvd (n:Nat)(root key:List UInt8):Lib.splitK [10] 0 3 (xn n root key)=[[116,105,108,101,115],dec n,vi root,zhx n root key++[10]]:=by
 rw [zgf,show zcz=[116,105,108,101,115]++[10] from rfl,List.append_assoc,show [10]++(dec n++(10::(vi root++(10::(zhx n root key++[10])))))=(10:UInt8)::(dec n++(10::(vi root++(10::(zhx n root key++[10]))))) from rfl]
 rw [zj7 2 _ _ 10 (by decide),zj7 1 _ _ 10 (z0b n),zj7 0 _ _ 10 (zx9 root)]
 rfl
theorem zyb (n:Nat)(root key:List UInt8):3≤(xn n root key).length:=by
 rw [zgf]
 simp [zcz]
end
section
abbrev Lk:=List UInt8→Option (List UInt8)
def zb8 (lk:Lk)(j w:Nat):Option (List (List UInt8)):=match lk (yr (-1) j w) with
 | some d=>(match zch d with | some es=>if es.length=w then some es else none | none=>none)
 | none=>none
def zbp (lk:Lk)(n:Nat):Nat→Option (List (List UInt8))
 | 0=>some []
 | k+1=>match zbp lk n k with
  | some d=>(zb8 lk k (wid n k)).map (d++·)
  | none=>none
theorem zdh {lk:Lk}{j w:Nat}{es:List (List UInt8)}(h:zb8 lk j w=some es):es.length=w∧(lk (yr (-1) j w)).isSome:=by
 unfold zb8 at h
 cases e:lk (yr (-1) j w) with
 | none=>rw [e] at h;simp at h
 | some d =>
  rw [e] at h
  simp only at h
  cases e2:zch d with
  | none=>rw [e2] at h;simp at h
  | some x =>
   rw [e2] at h
   simp only at h
   split at h
   ·obtain rfl:x=es:=by simpa using h
    exact⟨by assumption,rfl⟩
   ·simp at h
theorem zmu {lk:Lk}{n:Nat}:∀ {k:Nat} {d:List (List UInt8)},zbp lk n k=some d→4*k < n+4→d.length=min (4*k) n
 | 0,d,h,_=>by
  obtain rfl:[]=d:=by simpa [zbp] using h
  simp
 | k+1,d,h,hk=>by
  unfold zbp at h
  cases e:zbp lk n k with
  | none=>rw [e] at h;simp at h
  | some x =>
   rw [e] at h
   obtain⟨b,hb,rfl⟩:=Option.map_eq_some_iff.1 h
   have h1:=zmu e (by omega)
   have h2:=(zdh hb).1
   rw [List.length_append,h1,h2]
   unfold wid
   omega
theorem zwi {lk:Lk}{n:Nat}:∀ {k:Nat} {d:List (List UInt8)},zbp lk n k=some d→∀ j,j < k→(lk (yr (-1) j (wid n j))).isSome
 | 0,d,_,j,hj=>absurd hj (Nat.not_lt_zero _)
 | k+1,d,h,j,hj=>by
  unfold zbp at h
  cases e:zbp lk n k with
  | none=>rw [e] at h;simp at h
  | some x =>
   rw [e] at h
   obtain⟨b,hb,rfl⟩:=Option.map_eq_some_iff.1 h
   rcases Nat.lt_or_ge j k with h' | h'
   ·exact zwi e j h'
   ·obtain rfl:j=k:=by omega
    exact(zdh hb).2
theorem zll {lk:Lk}{n:Nat}{k:Nat}(h:zbp lk n k=none):∀ m,k≤m→zbp lk n m=none:=by
 intro m hm
 induction m with
 | zero=>obtain rfl:k=0:=by omega
         exact h
 | succ m ih =>
  by_cases e:k=m+1
  ·rw [← e];exact h
  ·unfold zbp
   rw [ih (by omega)]
def wdF (lk:Lk)(i hv:Nat):Option Nat:=[4,3,2,1].find? fun w=>decide (hv < w)&&(lk (yr (-1) i (w:Nat))).isSome
def j7 (lk:Lk)(d:List (List UInt8)):List (List UInt8)×Bool:=match wdF lk (d.length / 4) (d.length % 4) with
 | none=>([],false)
 | some w=>match zb8 lk (d.length / 4) w with
  | none=>([],false)
  | some e=>if e.take (d.length % 4)=d.drop (4*(d.length / 4)) then (e.drop (d.length % 4),decide (w=4)) else ([],false)
def zah (lk:Lk)(d:List (List UInt8)):Nat→List (List UInt8)
 | 0=>d
 | k+1=>zah lk d k++(j7 lk (zah lk d k)).1
def zeh (lk:Lk)(d d':List (List UInt8)):Prop:=∃ k,(∀ i,i < k→(j7 lk (zah lk d i)).2=true)∧(j7 lk (zah lk d k)).2=false∧d'=zah lk d (k+1)
theorem zeh.unique {lk:Lk}{d a b:List (List UInt8)}(h:zeh lk d a)(h':zeh lk d b):a=b:=by
 obtain⟨k,h1,h2,rfl⟩:=h
 obtain⟨m,g1,g2,rfl⟩:=h'
 rcases Nat.lt_trichotomy k m with e | rfl | e
 ·rw [g1 k e] at h2;simp at h2
 ·rfl
 ·rw [h1 m e] at g2;simp at g2
theorem zlp {lk:Lk}{i hv w:Nat}(h:wdF lk i hv=some w):hv < w∧w≤4∧(lk (yr (-1) i w)).isSome:=by
 unfold wdF at h
 have h1:=List.find?_some h
 have h2:=List.mem_of_find?_eq_some h
 simp only [Bool.and_eq_true,decide_eq_true_eq] at h1
 refine⟨h1.1,?_,h1.2⟩
 simp at h2
 omega
theorem zov {lk:Lk}{d:List (List UInt8)}:(j7 lk d).1.length≤4 - d.length % 4∧((j7 lk d).2=true→(j7 lk d).1.length=4 - d.length % 4)∧(0 < (j7 lk d).1.length→∃ w:Nat,1≤w∧w≤4∧(lk (yr (-1) (d.length / 4:Nat) w)).isSome):=by
 unfold j7
 cases e:wdF lk (d.length / 4) (d.length % 4) with
 | none=>simp
 | some w =>
  obtain⟨h1,h2,h3⟩:=zlp e
  simp only
  cases e2:zb8 lk (d.length / 4) w with
  | none=>simp
  | some x =>
   have hl:=(zdh e2).1
   simp only
   split
   ·simp only [List.length_drop,hl,decide_eq_true_eq]
    exact⟨by omega,fun h=>by omega,fun _=>⟨w,by omega,h2,h3⟩⟩
   ·simp
theorem zrm {lk:Lk}{d:List (List UInt8)}:∀ {k:Nat},(∀ i,i < k→(j7 lk (zah lk d i)).2=true)→(k=0∧zah lk d k=d)∨(0 < k∧(zah lk d k).length=4*(d.length / 4+k))
 | 0,_=> .inl ⟨rfl,rfl⟩
 | k+1,h=>by
  refine .inr ⟨by omega,?_⟩
  have h0:=zov (lk:=lk) (d:=zah lk d k)
  have h1:=h0.2.1 (h k (by omega))
  have hb:(zah lk d (k+1)).length=(zah lk d k).length+(j7 lk (zah lk d k)).1.length:=by
   rw [zah,List.length_append]
  rw [hb]
  rcases zrm (k:=k) (fun i hi=>h i (by omega)) with ⟨rfl,e⟩ | ⟨h2,e⟩
  ·rw [e] at h1 ⊢;omega
  ·rw [h1,e];omega
def zhv (lk:Lk)(key:List UInt8)(n:Nat)(R:List UInt8):Prop:=(lk cpF=none∧n=0∧R=hash [])∨∃ t,lk cpF=some t∧jq t key n R
def zf7 (lk:Lk)(key:List UInt8)(err:Int)(p:List UInt8)(es:List (List UInt8))(m:Nat):Prop :=
 ((∃ t,lk cpF=some t∧∀ n R,¬ jq t key n R)∧err=3∧p=[]∧es=[]∧m=0) ∨
 ∃ n R,zhv lk key n R ∧
  ((∃ k d,4*k < n∧zbp lk n k=some d∧zb8 lk k (wid n k)=none∧err=6∧p=yr (-1) k (wid n k)∧es=[]∧m=0) ∨
   (∃ d,zbp lk n ((n+3) / 4)=some d∧((yb d≠R∧err=5∧p=[]∧es=[]∧m=0)∨(yb d=R∧zeh lk d es∧err=0∧p=[]∧m=n))))
theorem zhv.inj {lk:Lk}{key:List UInt8}{n m:Nat}{R S:List UInt8}(h:zhv lk key n R)(h':zhv lk key m S):n=m∧R=S:=by
 rcases h with ⟨e,rfl,rfl⟩ | ⟨t,e,h⟩<;>rcases h' with ⟨e',rfl,rfl⟩ | ⟨t',e',h'⟩
 ·exact⟨rfl,rfl⟩
 ·rw [e] at e';simp at e'
 ·rw [e] at e';simp at e'
 ·rw [e] at e'
  obtain rfl:t=t':=by simpa using e'
  exact h.inj h'
theorem zf7.unique {lk:Lk}{key:List UInt8}{e1 e2:Int}{p1 p2:List UInt8}{s1 s2:List (List UInt8)}{m1 m2:Nat}(h:zf7 lk key e1 p1 s1 m1)(h':zf7 lk key e2 p2 s2 m2):e1=e2∧p1=p2∧s1=s2∧m1=m2:=by
 have no:∀ {n:Nat} {R:List UInt8},(∃ t,lk cpF=some t∧∀ n R,¬ jq t key n R)→¬ zhv lk key n R:=by
  rintro n R ⟨t,e,hn⟩ (⟨e',-⟩ | ⟨t',e',h'⟩)
  ·rw [e] at e';simp at e'
  ·rw [e] at e'
   obtain rfl:t=t':=by simpa using e'
   exact hn _ _ h'
 have gone:∀ {n k:Nat} {d:List (List UInt8)},zbp lk n k=some d→zb8 lk k (wid n k)=none→zbp lk n (k+1)=none:=by
  intro n k d h1 h2
  unfold zbp
  rw [h1,h2]
  rfl
 rcases h with ⟨h,rfl,rfl,rfl,rfl⟩ | ⟨n,R,hc,h⟩<;>rcases h' with ⟨h',rfl,rfl,rfl,rfl⟩ | ⟨n',R',hc',h'⟩
 ·exact⟨rfl,rfl,rfl,rfl⟩
 ·exact absurd hc' (no h)
 ·exact absurd hc (no h')
 ·obtain⟨rfl,rfl⟩:=hc.inj hc'
  rcases h with ⟨k,d,hk,hd,hb,rfl,rfl,rfl,rfl⟩ | ⟨d,hd,h⟩<;>rcases h' with ⟨k',d',hk',hd',hb',rfl,rfl,rfl,rfl⟩ | ⟨d',hd',h'⟩
  ·have g:=gone hd hb
   have g':=gone hd' hb'
   rcases Nat.lt_trichotomy k k' with e | rfl | e
   ·rw [zll g k' (by omega)] at hd';simp at hd'
   ·exact⟨rfl,rfl,rfl,rfl⟩
   ·rw [zll g' k (by omega)] at hd;simp at hd
  ·rw [zll (gone hd hb) _ (by omega)] at hd';simp at hd'
  ·rw [zll (gone hd' hb') _ (by omega)] at hd;simp at hd
  ·rw [hd] at hd'
   obtain rfl:d=d':=by simpa using hd'
   rcases h with ⟨h,rfl,rfl,rfl,rfl⟩ | ⟨h,hB,rfl,rfl,rfl⟩<;>rcases h' with ⟨h',rfl,rfl,rfl,rfl⟩ | ⟨h',hB',rfl,rfl,rfl⟩
   ·exact⟨rfl,rfl,rfl,rfl⟩
   ·exact absurd h' h
   ·exact absurd h h'
   ·exact⟨rfl,rfl,hB.unique hB',rfl⟩
def zht (lk:Lk)(s:List Nat):Prop:=∀ j w:Nat,1≤w→w≤4→(lk (yr (-1) j w)).isSome→j∈s
theorem zm4 {lk:Lk}{n k:Nat}{d:List (List UInt8)}{s:List Nat}(hs:zht lk s)(h:zbp lk n k=some d)(hk:4*k < n+4):k≤s.length∧∀ j,j < k→j∈s:=by
 have hj:∀ j,j < k→j∈s:=fun j hj=>hs j (wid n j) (by unfold wid;omega) (by unfold wid;omega) (zwi h j hj)
 exact⟨zc4 k s hj,hj⟩
theorem z9l {lk:Lk}{d:List (List UInt8)}{s:List Nat}(hs:zht lk s)(h0:∀ j,4*j < d.length→j∈s):∀ {k:Nat},(∀ i,i < k→(j7 lk (zah lk d i)).2=true)→∀ j,4*j < (zah lk d k).length+(j7 lk (zah lk d k)).1.length→j∈s:=by
 have one:∀ e:List (List UInt8),(∀ j,4*j < e.length→j∈s)→∀ j,4*j < e.length+(j7 lk e).1.length→j∈s:=by
  intro e he j hj
  have h:=zov (lk:=lk) (d:=e)
  by_cases h1:4*j < e.length
  ·exact he j h1
  ·obtain⟨w,hw1,hw4,hw⟩:=h.2.2 (by omega)
   obtain rfl:j=e.length / 4:=by omega
   exact hs _ w hw1 hw4 hw
 intro k
 induction k with
 | zero=>exact fun _=>one d h0
 | succ k ih =>
  intro h
  refine one _ fun j hj=>?_
  rw [zah,List.length_append] at hj
  exact ih (fun i hi=>h i (by omega)) j hj
theorem z05 {lk:Lk}{d:List (List UInt8)}{s:List Nat}(hs:zht lk s)(h0:∀ j,4*j < d.length→j∈s){k:Nat}(h:∀ i,i < k→(j7 lk (zah lk d i)).2=true):(zah lk d k).length+(j7 lk (zah lk d k)).1.length≤4*s.length∧k≤s.length:=by
 have hi:=z9l hs h0 h
 have hp:=zc4 (((zah lk d k).length+(j7 lk (zah lk d k)).1.length+3) / 4) s (fun j hj=>hi j (by omega))
 refine⟨by omega,?_⟩
 rcases zrm h with ⟨e,-⟩ | ⟨-,e⟩<;>omega
end
end Go.Proofs.YtinhekmmdlhfkaaGreatDoor
namespace Go.Proofs
open Go.Shelf
def Tryz.laysM171_ren:Go.Shelf.Ren:=⟨fun | 171=>118 | 243=>162 | 246=>191 | 283=>200 | 284=>201 | 285=>202 | 286=>203 | 129=>115 | 317=>211 | 318=>212 | 319=>213 | 320=>143 | 337=>183 | 338=>184 | n=>n,fun | 3=>3 | 9=>9 | 2=>2 | 4=>4 | 171=>321 | 0=>0 | 53=>199 | 37=>76 | 5=>5 | 173=>323 | 212=>331 | 51=>136 | 20=>20 | 213=>332 | 46=>155 | 232=>318 | 233=>319 | n=>n,fun | 17=>13 | 18=>10 | 19=>11 | n=>n⟩
theorem Tryz.laysM171:Go.Proofs.LaysM.n171 Tryz.prog Tryz.laysM171_ren:={
 mixed:=by kernel_rfl
 f129:=Tryz.func115.trans (congrArg some (by kernel_rfl))
 f171:=Tryz.func118.trans (congrArg some (by kernel_rfl))
 f243:=Tryz.func162.trans (congrArg some (by kernel_rfl))
 f246:=Tryz.func191.trans (congrArg some (by kernel_rfl))
 f283:=Tryz.func200.trans (congrArg some (by kernel_rfl))
 f284:=Tryz.func201.trans (congrArg some (by kernel_rfl))
 f285:=Tryz.func202.trans (congrArg some (by kernel_rfl))
 f286:=Tryz.func203.trans (congrArg some (by kernel_rfl))
 f317:=Tryz.func211.trans (congrArg some (by kernel_rfl))
 f318:=Tryz.func212.trans (congrArg some (by kernel_rfl))
 f319:=Tryz.func213.trans (congrArg some (by kernel_rfl))
 f320:=Tryz.func143.trans (congrArg some (by kernel_rfl))
 f337:=Tryz.func183.trans (congrArg some (by kernel_rfl))
 f338:=Tryz.func184.trans (congrArg some (by kernel_rfl))
 t0:=Tryz.underlying0
 a0:=Tryz.isAgg0
 z0:=Tryz.sizeOf0
 v0:=Tryz.zeroValue0
 t2:=Tryz.underlying2
 a2:=Tryz.isAgg2
 z2:=Tryz.sizeOf2
 v2:=Tryz.zeroValue2
 t3:=Tryz.underlying3
 a3:=Tryz.isAgg3
 z3:=Tryz.sizeOf3
 v3:=Tryz.zeroValue3
 t4:=Tryz.underlying4
 a4:=Tryz.isAgg4
 z4:=Tryz.sizeOf4
 v4:=Tryz.zeroValue4
 t5:=Tryz.underlying5
 a5:=Tryz.isAgg5
 z5:=Tryz.sizeOf5
 v5:=Tryz.zeroValue5
 t9:=Tryz.underlying9
 a9:=Tryz.isAgg9
 z9:=Tryz.sizeOf9
 v9:=Tryz.zeroValue9
 t20:=Tryz.underlying20
 a20:=Tryz.isAgg20
 z20:=Tryz.sizeOf20
 v20:=Tryz.zeroValue20
 t37:=Tryz.underlying76
 a37:=Tryz.isAgg76
 z37:=Tryz.sizeOf76
 v37:=Tryz.zeroValue76
 t46:=Tryz.underlying155
 a46:=Tryz.isAgg155
 z46:=Tryz.sizeOf155
 v46:=Tryz.zeroValue155
 t51:=Tryz.underlying136
 a51:=Tryz.isAgg136
 z51:=Tryz.sizeOf136
 v51:=Tryz.zeroValue136
 t53:=Tryz.underlying199
 a53:=Tryz.isAgg199
 z53:=Tryz.sizeOf199
 v53:=Tryz.zeroValue199
 t171:=Tryz.underlying321
 a171:=Tryz.isAgg321
 z171:=Tryz.sizeOf321
 v171:=Tryz.zeroValue321
 t173:=Tryz.underlying323
 a173:=Tryz.isAgg323
 z173:=Tryz.sizeOf323
 v173:=Tryz.zeroValue323
 t212:=Tryz.underlying331
 a212:=Tryz.isAgg331
 z212:=Tryz.sizeOf331
 v212:=Tryz.zeroValue331
 t213:=Tryz.underlying332
 a213:=Tryz.isAgg332
 z213:=Tryz.sizeOf332
 t232:=Tryz.underlying318
 a232:=Tryz.isAgg318
 z232:=Tryz.sizeOf318
 v232:=Tryz.zeroValue318
 t233:=Tryz.underlying319
 a233:=Tryz.isAgg319
 z233:=Tryz.sizeOf319
 v233:=Tryz.zeroValue319
 g17:=by kernel_rfl
 g18:=by kernel_rfl
 g19:=by kernel_rfl
 i0:=by kernel_rfl
 i2:=by kernel_rfl
 i3:=by kernel_rfl
 i4:=by kernel_rfl
 i5:=by kernel_rfl
 i9:=by kernel_rfl
 i20:=by kernel_rfl
 i37:=by kernel_rfl
 i46:=by kernel_rfl
 i51:=by kernel_rfl
 i53:=by kernel_rfl
 i171:=by kernel_rfl
 i173:=by kernel_rfl
 i212:=by kernel_rfl
 i232:=by kernel_rfl
 i233:=by kernel_rfl
 m17:=by kernel_rfl
 m18:=by kernel_rfl
 m19:=by kernel_rfl }
def Tryz.laysC172_ren:Go.Shelf.Ren:=⟨fun | 172=>138 | 244=>182 | 245=>137 | 247=>198 | 279=>178 | 280=>179 | 281=>180 | 282=>181 | 287=>136 | 316=>196 | 171=>118 | 205=>197 | 321=>176 | 322=>177 | 243=>162 | 246=>191 | 283=>200 | 284=>201 | 285=>202 | 286=>203 | 129=>115 | 317=>211 | 318=>212 | 319=>213 | 320=>143 | 337=>183 | 338=>184 | n=>n,fun | 9=>9 | 3=>3 | 75=>70 | 76=>77 | 4=>4 | 5=>5 | 167=>294 | 37=>76 | 0=>0 | 85=>316 | 2=>2 | 168=>297 | 53=>199 | 175=>200 | 46=>155 | 210=>314 | 127=>325 | 145=>328 | 143=>326 | 21=>21 | 171=>321 | 173=>323 | 212=>331 | 51=>136 | 20=>20 | 213=>332 | 232=>318 | 233=>319 | 80=>339 | n=>n,fun | 15=>8 | 16=>9 | 17=>13 | 18=>10 | 19=>11 | n=>n⟩
theorem Tryz.laysC172:Go.Proofs.LaysC.n172 Tryz.prog Tryz.laysC172_ren:={
 mixed:=by kernel_rfl
 f129:=Tryz.func115.trans (congrArg some (by kernel_rfl))
 f171:=Tryz.func118.trans (congrArg some (by kernel_rfl))
 f172:=Tryz.func138.trans (congrArg some (by kernel_rfl))
 f205:=Tryz.func197.trans (congrArg some (by kernel_rfl))
 f243:=Tryz.func162.trans (congrArg some (by kernel_rfl))
 f244:=Tryz.func182.trans (congrArg some (by kernel_rfl))
 f245:=Tryz.func137.trans (congrArg some (by kernel_rfl))
 f246:=Tryz.func191.trans (congrArg some (by kernel_rfl))
 f247:=Tryz.func198.trans (congrArg some (by kernel_rfl))
 f279:=Tryz.func178.trans (congrArg some (by kernel_rfl))
 f280:=Tryz.func179.trans (congrArg some (by kernel_rfl))
 f281:=Tryz.func180.trans (congrArg some (by kernel_rfl))
 f282:=Tryz.func181.trans (congrArg some (by kernel_rfl))
 f283:=Tryz.func200.trans (congrArg some (by kernel_rfl))
 f284:=Tryz.func201.trans (congrArg some (by kernel_rfl))
 f285:=Tryz.func202.trans (congrArg some (by kernel_rfl))
 f286:=Tryz.func203.trans (congrArg some (by kernel_rfl))
 f287:=Tryz.func136.trans (congrArg some (by kernel_rfl))
 f316:=Tryz.func196.trans (congrArg some (by kernel_rfl))
 f317:=Tryz.func211.trans (congrArg some (by kernel_rfl))
 f318:=Tryz.func212.trans (congrArg some (by kernel_rfl))
 f319:=Tryz.func213.trans (congrArg some (by kernel_rfl))
 f320:=Tryz.func143.trans (congrArg some (by kernel_rfl))
 f321:=Tryz.func176.trans (congrArg some (by kernel_rfl))
 f322:=Tryz.func177.trans (congrArg some (by kernel_rfl))
 f337:=Tryz.func183.trans (congrArg some (by kernel_rfl))
 f338:=Tryz.func184.trans (congrArg some (by kernel_rfl))
 t0:=Tryz.underlying0
 a0:=Tryz.isAgg0
 z0:=Tryz.sizeOf0
 v0:=Tryz.zeroValue0
 t2:=Tryz.underlying2
 a2:=Tryz.isAgg2
 z2:=Tryz.sizeOf2
 v2:=Tryz.zeroValue2
 t3:=Tryz.underlying3
 a3:=Tryz.isAgg3
 z3:=Tryz.sizeOf3
 v3:=Tryz.zeroValue3
 t4:=Tryz.underlying4
 a4:=Tryz.isAgg4
 z4:=Tryz.sizeOf4
 v4:=Tryz.zeroValue4
 t5:=Tryz.underlying5
 a5:=Tryz.isAgg5
 z5:=Tryz.sizeOf5
 v5:=Tryz.zeroValue5
 t9:=Tryz.underlying9
 a9:=Tryz.isAgg9
 z9:=Tryz.sizeOf9
 v9:=Tryz.zeroValue9
 t20:=Tryz.underlying20
 a20:=Tryz.isAgg20
 z20:=Tryz.sizeOf20
 v20:=Tryz.zeroValue20
 t21:=Tryz.underlying21
 a21:=Tryz.isAgg21
 z21:=Tryz.sizeOf21
 v21:=Tryz.zeroValue21
 t37:=Tryz.underlying76
 a37:=Tryz.isAgg76
 z37:=Tryz.sizeOf76
 v37:=Tryz.zeroValue76
 t46:=Tryz.underlying155
 a46:=Tryz.isAgg155
 z46:=Tryz.sizeOf155
 v46:=Tryz.zeroValue155
 t51:=Tryz.underlying136
 a51:=Tryz.isAgg136
 z51:=Tryz.sizeOf136
 v51:=Tryz.zeroValue136
 t53:=Tryz.underlying199
 a53:=Tryz.isAgg199
 z53:=Tryz.sizeOf199
 v53:=Tryz.zeroValue199
 t75:=Tryz.underlying70
 a75:=Tryz.isAgg70
 z75:=Tryz.sizeOf70
 v75:=Tryz.zeroValue70
 t76:=Tryz.underlying77
 a76:=Tryz.isAgg77
 z76:=Tryz.sizeOf77
 v76:=Tryz.zeroValue77
 t85:=Tryz.underlying316
 a85:=Tryz.isAgg316
 z85:=Tryz.sizeOf316
 v85:=Tryz.zeroValue316
 t127:=Tryz.underlying325
 a127:=Tryz.isAgg325
 z127:=Tryz.sizeOf325
 v127:=Tryz.zeroValue325
 t143:=Tryz.underlying326
 a143:=Tryz.isAgg326
 z143:=Tryz.sizeOf326
 v143:=Tryz.zeroValue326
 t145:=Tryz.underlying328
 a145:=Tryz.isAgg328
 z145:=Tryz.sizeOf328
 v145:=Tryz.zeroValue328
 t167:=Tryz.underlying294
 a167:=Tryz.isAgg294
 z167:=Tryz.sizeOf294
 v167:=Tryz.zeroValue294
 t168:=Tryz.underlying297
 a168:=Tryz.isAgg297
 z168:=Tryz.sizeOf297
 v168:=Tryz.zeroValue297
 t171:=Tryz.underlying321
 a171:=Tryz.isAgg321
 z171:=Tryz.sizeOf321
 v171:=Tryz.zeroValue321
 t173:=Tryz.underlying323
 a173:=Tryz.isAgg323
 z173:=Tryz.sizeOf323
 v173:=Tryz.zeroValue323
 t175:=Tryz.underlying200
 a175:=Tryz.isAgg200
 z175:=Tryz.sizeOf200
 v175:=Tryz.zeroValue200
 t210:=Tryz.underlying314
 a210:=Tryz.isAgg314
 z210:=Tryz.sizeOf314
 v210:=Tryz.zeroValue314
 t212:=Tryz.underlying331
 a212:=Tryz.isAgg331
 z212:=Tryz.sizeOf331
 v212:=Tryz.zeroValue331
 t213:=Tryz.underlying332
 a213:=Tryz.isAgg332
 z213:=Tryz.sizeOf332
 t232:=Tryz.underlying318
 a232:=Tryz.isAgg318
 z232:=Tryz.sizeOf318
 v232:=Tryz.zeroValue318
 t233:=Tryz.underlying319
 a233:=Tryz.isAgg319
 z233:=Tryz.sizeOf319
 v233:=Tryz.zeroValue319
 g15:=by kernel_rfl
 g16:=by kernel_rfl
 g17:=by kernel_rfl
 g18:=by kernel_rfl
 g19:=by kernel_rfl
 t80:=Tryz.underlying339
 a80:=Tryz.isAgg339
 z80:=Tryz.sizeOf339
 v80:=Tryz.zeroValue339
 i0:=by kernel_rfl
 i2:=by kernel_rfl
 i3:=by kernel_rfl
 i4:=by kernel_rfl
 i5:=by kernel_rfl
 i9:=by kernel_rfl
 i20:=by kernel_rfl
 i21:=by kernel_rfl
 i37:=by kernel_rfl
 i46:=by kernel_rfl
 i51:=by kernel_rfl
 i53:=by kernel_rfl
 i75:=by kernel_rfl
 i76:=by kernel_rfl
 i80:=by kernel_rfl
 i85:=by kernel_rfl
 i127:=by kernel_rfl
 i143:=by kernel_rfl
 i145:=by kernel_rfl
 i167:=by kernel_rfl
 i168:=by kernel_rfl
 i171:=by kernel_rfl
 i173:=by kernel_rfl
 i175:=by kernel_rfl
 i210:=by kernel_rfl
 i212:=by kernel_rfl
 i232:=by kernel_rfl
 i233:=by kernel_rfl
 m15:=by kernel_rfl
 m16:=by kernel_rfl
 m17:=by kernel_rfl
 m18:=by kernel_rfl
 m19:=by kernel_rfl
 c0:=by kernel_rfl
 c2:=by kernel_rfl
 c3:=by kernel_rfl
 c4:=by kernel_rfl
 c5:=by kernel_rfl
 c9:=by kernel_rfl
 c20:=by kernel_rfl
 c21:=by kernel_rfl
 c37:=by kernel_rfl
 c46:=by kernel_rfl
 c51:=by kernel_rfl
 c53:=by kernel_rfl
 c75:=by kernel_rfl
 c76:=by kernel_rfl
 c80:=by kernel_rfl
 c85:=by kernel_rfl
 c127:=by kernel_rfl
 c143:=by kernel_rfl
 c145:=by kernel_rfl
 c167:=by kernel_rfl
 c168:=by kernel_rfl
 c171:=by kernel_rfl
 c173:=by kernel_rfl
 c175:=by kernel_rfl
 c210:=by kernel_rfl
 c212:=by kernel_rfl
 c213:=by kernel_rfl
 c232:=by kernel_rfl
 c233:=by kernel_rfl }
def Tryz.lays147_ren:Go.Shelf.Ren:=⟨fun | 147=>92 | 221=>135 | 268=>173 | 138=>174 | 143=>175 | 195=>192 | 197=>193 | 218=>194 | 219=>195 | 260=>204 | 217=>205 | 225=>206 | 224=>207 | 267=>208 | 266=>214 | 314=>215 | n=>n,fun | 9=>9 | 3=>3 | 31=>22 | 4=>4 | 0=>0 | 105=>310 | 21=>21 | 5=>5 | 46=>155 | 119=>333 | 139=>336 | 138=>335 | 146=>337 | 51=>136 | n=>n,fun | 1=>12 | 3=>14 | 4=>15 | n=>n⟩
theorem Tryz.lays147:Go.Proofs.Lays.n147 Tryz.prog Tryz.lays147_ren:={
 mixed:=by kernel_rfl
 f138:=Tryz.func174.trans (congrArg some (by kernel_rfl))
 f143:=Tryz.func175.trans (congrArg some (by kernel_rfl))
 f147:=Tryz.func92.trans (congrArg some (by kernel_rfl))
 f195:=Tryz.func192.trans (congrArg some (by kernel_rfl))
 f197:=Tryz.func193.trans (congrArg some (by kernel_rfl))
 f217:=Tryz.func205.trans (congrArg some (by kernel_rfl))
 f218:=Tryz.func194.trans (congrArg some (by kernel_rfl))
 f219:=Tryz.func195.trans (congrArg some (by kernel_rfl))
 f221:=Tryz.func135.trans (congrArg some (by kernel_rfl))
 f224:=Tryz.func207.trans (congrArg some (by kernel_rfl))
 f225:=Tryz.func206.trans (congrArg some (by kernel_rfl))
 f260:=Tryz.func204.trans (congrArg some (by kernel_rfl))
 f266:=Tryz.func214.trans (congrArg some (by kernel_rfl))
 f267:=Tryz.func208.trans (congrArg some (by kernel_rfl))
 f268:=Tryz.func173.trans (congrArg some (by kernel_rfl))
 f314:=Tryz.func215.trans (congrArg some (by kernel_rfl))
 t0:=Tryz.underlying0
 a0:=Tryz.isAgg0
 z0:=Tryz.sizeOf0
 v0:=Tryz.zeroValue0
 t3:=Tryz.underlying3
 a3:=Tryz.isAgg3
 z3:=Tryz.sizeOf3
 v3:=Tryz.zeroValue3
 t4:=Tryz.underlying4
 a4:=Tryz.isAgg4
 z4:=Tryz.sizeOf4
 v4:=Tryz.zeroValue4
 t5:=Tryz.underlying5
 a5:=Tryz.isAgg5
 z5:=Tryz.sizeOf5
 v5:=Tryz.zeroValue5
 t9:=Tryz.underlying9
 a9:=Tryz.isAgg9
 z9:=Tryz.sizeOf9
 v9:=Tryz.zeroValue9
 t21:=Tryz.underlying21
 a21:=Tryz.isAgg21
 z21:=Tryz.sizeOf21
 v21:=Tryz.zeroValue21
 t31:=Tryz.underlying22
 a31:=Tryz.isAgg22
 z31:=Tryz.sizeOf22
 v31:=Tryz.zeroValue22
 t46:=Tryz.underlying155
 a46:=Tryz.isAgg155
 z46:=Tryz.sizeOf155
 v46:=Tryz.zeroValue155
 t51:=Tryz.underlying136
 a51:=Tryz.isAgg136
 z51:=Tryz.sizeOf136
 v51:=Tryz.zeroValue136
 t105:=Tryz.underlying310
 a105:=Tryz.isAgg310
 z105:=Tryz.sizeOf310
 v105:=Tryz.zeroValue310
 t119:=Tryz.underlying333
 a119:=Tryz.isAgg333
 z119:=Tryz.sizeOf333
 t138:=Tryz.underlying335
 a138:=Tryz.isAgg335
 z138:=Tryz.sizeOf335
 v138:=Tryz.zeroValue335
 t139:=Tryz.underlying336
 a139:=Tryz.isAgg336
 z139:=Tryz.sizeOf336
 v139:=Tryz.zeroValue336
 t146:=Tryz.underlying337
 a146:=Tryz.isAgg337
 z146:=Tryz.sizeOf337
 v146:=Tryz.zeroValue337
 g1:=by kernel_rfl
 g3:=by kernel_rfl
 g4:=by kernel_rfl }
end Go.Proofs
namespace Go.Proofs.YtinhekmmdlhfkaaGreatDoor
end Go.Proofs.YtinhekmmdlhfkaaGreatDoor
