import Derived.Test.YtinhekmmdlhfkaaGreatDoorG46
import Derived.Test.YtinhekmmdlhfkaaGreatDoorG47
import Derived.Test.YtinhekmmdlhfkaaGreatDoorG45
import Derived.Test.YtinhekmmdlhfkaaGreatDoorG35
import Derived.Test.YtinhekmmdlhfkaaGreatDoorG05
namespace Go.Proofs.YtinhekmmdlhfkaaGreatDoor
section
def zj4 (a fs fs':Fs):Prop:=∀ q,zx fs' q=zx fs q∨(zx fs q=none∧∃ x,(q,x)∈a∧zx fs' q=some x)
theorem zj4.refl (a fs:Fs):zj4 a fs fs:=fun _=> .inl rfl
theorem zj4.stays {a fs fs':Fs}(h:zj4 a fs fs'){q x:List UInt8}(hq:zx fs q=some x):zx fs' q=some x:=by
 rcases h q with e | ⟨e,-⟩
 ·rw [e];exact hq
 ·rw [hq] at e;simp at e
theorem zj4.trans {a b f g h:Fs}(h1:zj4 a f g)(h2:zj4 b g h):zj4 (a++b) f h:=by
 intro q
 rcases h1 q with e1 | ⟨e1,x,hx,e2⟩
 ·rcases h2 q with e3 | ⟨e3,y,hy,e4⟩
  ·exact .inl (e3.trans e1)
  ·exact .inr ⟨e1▸e3,y,List.mem_append_right _ hy,e4⟩
 ·exact .inr ⟨e1,x,List.mem_append_left _ hx,h2.stays e2⟩
theorem z2k {fs:Fs}{p x:List UInt8}(h:zx fs p=none∨zx fs p=some x):zj4 [(p,x)] fs (zac fs p x):=by
 intro q
 by_cases e:q=p
 ·subst e
  rcases h with h | h
  ·exact .inr ⟨h,x,by simp,vp _ _ _⟩
  ·exact .inl (by rw [vp,h])
 ·exact .inl (zaz _ _ _ _ e)
theorem zrx {xj:Fs}(hf:zvw xj):∀(yj:Fs) (d:Dk),zau d→zbq d.fs→d.turned=false→ve d.fs xj→(∀ f∈yj,f∈xj) →
  ∃ a b,yj=a++b∧zj4 a d.fs (qa yj d).2.fs∧(∀ f∈a,zx (qa yj d).2.fs f.1=some f.2)∧((qa yj d).1=none→b=[])
 | [],d,_,_,_,_,_=>⟨[],[],rfl,zj4.refl _ _,by simp,fun _=>rfl⟩
 | f::r,d,hc,ha,ht,hn,hs=>by
  have hx:(f.1,f.2)∈xj:=hs f (by simp)
  obtain⟨a1,t1,w1,h1⟩:=zwg (c:=[]) hc ha ht hn hx
  have hE:zfv d f.1 f.2=decide (0 < xc d):=by
   unfold zfv
   rcases hn f.1 f.2 hx with e | e<;>rw [e]
   simp
  have hD:zab d f.1 f.2=if xc d < 2 then { ye d with fs:=zac d.fs f.1 f.2 } else ye d:=by
   unfold zab
   rcases hn f.1 f.2 hx with e | e<;>rw [e]
   simp
  have hg:xc d < 2→zj4 [f] d.fs (zab d f.1 f.2).fs∧zx (zab d f.1 f.2).fs f.1=some f.2:=fun h=>by
   rw [hD,if_pos h]
   exact⟨z2k (hn f.1 f.2 hx),vp _ _ _⟩
  rw [qa]
  rcases h1 with ⟨e,c1,l1⟩ | ⟨e,h1⟩
  ·rw [if_neg (by rw [e];simp)]
   obtain⟨a,b,e1,g1,g2,g3⟩:=zrx hf r (zab d f.1 f.2) c1 a1 t1 (hn.went hf w1) (fun g hg'=>hs g (by simp [hg']))
   have hk:xc d < 2:=by
    rw [hE] at e
    have:=of_decide_eq_false e
    have:=(zet d).1
    omega
   refine⟨f::a,b,by rw [e1];rfl,(hg hk).1.trans g1,fun g hg'=>?_,g3⟩
   rcases List.mem_cons.1 hg' with rfl | hg'
   ·exact g1.stays (hg hk).2
   ·exact g2 g hg'
  ·rw [if_pos e]
   by_cases hk:xc d < 2
   ·exact⟨[f],r,rfl,(hg hk).1,fun g hg'=>by rw [List.mem_singleton] at hg';subst hg';exact(hg hk).2,fun h=>by simp at h⟩
   ·refine⟨[],f::r,rfl,?_,by simp,fun h=>by simp at h⟩
    rw [hD,if_neg hk,yg]
    exact zj4.refl _ _
theorem z7i {xj yj:Fs}{c:List UInt8}{d:Dk}(hf:zvw xj)(hc:zau d)(ha:zbq d.fs)(ht:d.turned=false)(hn:ve d.fs xj)(hs:∀ f∈yj,f∈xj):
  ∃ a b,yj=a++b∧(∀ q,q≠cpF→zx (qt yj c d).2.fs q=zx d.fs q∨(zx d.fs q=none∧∃ x,(q,x)∈a∧zx (qt yj c d).2.fs q=some x))∧(∀ f∈a,zx (qt yj c d).2.fs f.1=some f.2)∧(zx (qt yj c d).2.fs cpF=zx d.fs cpF∨(b=[]∧zx (qt yj c d).2.fs cpF=some c)):=by
 obtain⟨a,b,e1,g1,g2,g3⟩:=zrx hf yj d hc ha ht hn hs
 have hcp:∀ f∈a,f.1≠cpF:=fun f hfa e=>hf.2 f.2 (by rw [← e];exact hs f (by rw [e1];exact List.mem_append_left _ hfa))
 have hcp2:zx (qa yj d).2.fs cpF=zx d.fs cpF:=by
  rcases g1 cpF with e | ⟨-,x,hx,-⟩
  ·exact e
  ·exact absurd rfl (hcp _ hx)
 refine⟨a,b,e1,?_⟩
 unfold qt
 generalize qa yj d=r at *
 obtain⟨o,d1⟩:=r
 simp only at g1 g2 g3 hcp2
 cases o with
 | some p=>exact⟨fun q _=>g1 q,g2,.inl hcp2⟩
 | none =>
  have hfs:(if bad d1=true then (some cpF,zbv d1 cpF c) else (none,zbv d1 cpF c)).2=zbv d1 cpF c:=by split<;>rfl
  simp only
  rw [hfs]
  unfold zbv
  split
  ·refine⟨fun q hq=>?_,fun f hfa=>?_,.inr ⟨g3 rfl,vp _ _ _⟩⟩
   ·simp only
    rw [zaz _ _ _ _ hq]
    exact g1 q
   ·simp only
    rw [zaz _ _ _ _ (hcp f hfa)]
    exact g2 f hfa
  ·rw [yg]
   exact⟨fun q _=>g1 q,g2,.inl hcp2⟩
theorem zsv {fs:Fs}{F:List (List UInt8)}(h20:∀ e∈F,e.length≤20){j w:Nat}(h1:1≤w)(h4:w≤4)(hj:4*j+w≤F.length)(h:zx fs (yr (-1) (j:Int) (w:Int))=some (zad F (-1) j w)):zb8 (zx fs) j w=some ((F.drop (4*j)).take w):=by
 have hlen:((F.drop (4*j)).take w).length=w:=by simp;omega
 have hok:okB ((F.drop (4*j)).take w)=true:=by
  unfold okB
  simp only [Bool.and_eq_true,List.all_eq_true,decide_eq_true_eq]
  exact⟨by omega,by omega,fun x hx=>h20 x (List.mem_of_mem_drop (List.mem_of_mem_take hx))⟩
 unfold zb8
 rw [h]
 simp only
 rw [zos F j w hj,zo6 _ hok]
 simp [hlen]
theorem zo0 {α:Type}(F:List α)(a b:Nat):F.take a++(F.drop a).take b=F.take (a+b):=by
 rw [List.take_add]
theorem z9c (g:Nat→Bool)(w:Nat)(h1:1≤w)(h4:w≤4)(hy:g w=true)(hd:∀ v,w < v→v≤4→g v=false):[4,3,2,1].find? g=some w:=by
 rcases(by omega:w=4∨w=3∨w=2∨w=1) with rfl | rfl | rfl | rfl
 ·simp [List.find?,hy]
 ·simp [List.find?,hy,hd 4 (by omega) (by omega)]
 ·simp [List.find?,hy,hd 4 (by omega) (by omega),hd 3 (by omega) (by omega)]
 ·simp [List.find?,hy,hd 4 (by omega) (by omega),hd 3 (by omega) (by omega),hd 2 (by omega) (by omega)]
section
variable {fs : Fs} {F : List (List UInt8)} {n m : Nat}
theorem zw4 (h20:∀ e∈F,e.length≤20)(hn:n≤F.length)(hall:zaa fs F n):∀ k,4*k < n+4→zbp (zx fs) n k=some ((F.take n).take (4*k))
 | 0,_=>by simp [zbp]
 | k+1,hk=>by
  rw [zbp,zw4 h20 hn hall k (by omega)]
  simp only
  have hlen:(F.take n).length=n:=by simp;omega
  have hmem:jx (F.take n) (-1) n k∈xj (F.take n):=by
   rw [jh,hlen]
   have hc:zz (-1) n=n:=by unfold zz;simp
   exact⟨-1,k,⟨by omega,by omega⟩,by rw [hc];omega,by rw [hc]⟩
  have hl:=hall _ hmem
  unfold jx at hl
  simp only at hl
  have hw:1≤wid n k∧wid n k≤4∧4*k+wid n k≤n:=by unfold wid;omega
  have hc:zz (-1) n=n:=by unfold zz;simp
  rw [zat F n (-1) k (wid n k) (by rw [hc];exact hw.2.2) hn] at hl
  rw [zsv h20 hw.1 hw.2.1 (by omega) hl]
  simp only [Option.map_some,Option.some.injEq]
  have e:(F.drop (4*k)).take (wid n k)=((F.take n).drop (4*k)).take 4:=by
   rw [List.drop_take,List.take_take]
   congr 1
  rw [e,zo0]
  congr 1
theorem z0w (hl:F.length≤1000000)(hm:m≤F.length)(hfrom:vw fs (F.take m)){i w:Nat}(h1:1≤w)(h4:w≤4)(hi:i≤1000000)(h:(zx fs (yr (-1) (i:Int) (w:Int))).isSome):4*i+w≤m:=by
 obtain⟨x,hx⟩:=Option.isSome_iff_exists.1 h
 have hlen:(F.take m).length=m:=by simp;omega
 obtain⟨-,h2⟩:=zzi hfrom (by omega) (l:=-1) (j:=i) (w:=w) ⟨by omega,by omega⟩ h1 h4 hi hx
 rw [hlen] at h2
 have hc:zz (-1) m=m:=by unfold zz;simp
 omega
theorem z8p (hl:F.length≤1000000)(hm:m≤F.length)(hfrom:vw fs (F.take m))(hb:∀ j,4*j < m→zx fs (yr (-1) (j:Int) (wid m j:Int))=some (zad F (-1) j (wid m j))){i hv:Nat}(hi:i≤1000000)(hh:hv < 4):wdF (zx fs) i hv=if 4*i+hv < m then some (wid m i) else none:=by
 have hno:∀ w:Nat,1≤w→w≤4→m < 4*i+w→(zx fs (yr (-1) (i:Int) (w:Int))).isSome=false:=fun w h1 h4 hw=>by
  cases e:(zx fs (yr (-1) (i:Int) (w:Int))).isSome with
  | false=>rfl
  | true=>have:=z0w hl hm hfrom h1 h4 hi e;omega
 unfold wdF
 by_cases h:4*i+hv < m
 ·rw [if_pos h]
  have hy:(zx fs (yr (-1) (i:Int) (wid m i:Int))).isSome=true:=by rw [hb i (by omega)];rfl
  have hw:wid m i=min 4 (m - 4*i):=rfl
  have hd:∀ w:Nat,1≤w→w≤4→wid m i < w→(decide (hv < w)&&(zx fs (yr (-1) (i:Int) ((w:Nat):Int))).isSome)=false:=fun w h1 h4 hlt=>by
   rw [hno w h1 h4 (by omega)];simp
  have hs:∀ w:Nat,w=wid m i→(decide (hv < w)&&(zx fs (yr (-1) (i:Int) ((w:Nat):Int))).isSome)=true:=fun w e=>by
   subst e
   rw [hy]
   simp
   omega
  exact z9c _ (wid m i) (by omega) (by omega) (hs _ rfl) (fun v h1 h2=>hd v (by omega) h2 h1)
 ·rw [if_neg h,List.find?_eq_none]
  intro w hw
  simp only [List.mem_cons,List.not_mem_nil,or_false] at hw
  intro hc
  simp only [Bool.and_eq_true,decide_eq_true_eq] at hc
  rw [hno w (by omega) (by omega) (by omega)] at hc
  simp at hc
theorem zm5 (h20:∀ e∈F,e.length≤20)(hl:F.length≤1000000)(hm:m≤F.length)(hfrom:vw fs (F.take m))(hb:∀ j,4*j < m→zx fs (yr (-1) (j:Int) (wid m j:Int))=some (zad F (-1) j (wid m j))){p:Nat}(hp:p≤m):
  (p=m→j7 (zx fs) (F.take p)=([],false))∧(p < m→F.take p++(j7 (zx fs) (F.take p)).1=F.take (4*(p / 4)+wid m (p / 4))∧(j7 (zx fs) (F.take p)).2=decide (wid m (p / 4)=4)):=by
 have hlen:(F.take p).length=p:=by simp;omega
 have hw:=z8p hl hm hfrom hb (i:=p / 4) (hv:=p % 4) (by omega) (by omega)
 unfold j7
 rw [hlen,hw]
 refine⟨fun e=>?_,fun h=>?_⟩
 ·rw [if_neg (by omega)]
 ·rw [if_pos (by omega)]
  have hwd:wid m (p / 4)=min 4 (m - 4*(p / 4)):=rfl
  simp only
  rw [zsv h20 (by omega) (by omega) (by omega) (hb (p / 4) (by omega))]
  simp only
  have e1:((F.drop (4*(p / 4))).take (wid m (p / 4))).take (p % 4)=(F.take p).drop (4*(p / 4)):=by
   rw [List.take_take,List.drop_take]
   congr 1
   omega
  rw [if_pos e1]
  refine⟨?_,rfl⟩
  simp only
  have e2:((F.drop (4*(p / 4))).take (wid m (p / 4))).drop (p % 4)=(F.drop p).take (wid m (p / 4) - p % 4):=by
   rw [List.drop_take,List.drop_drop]
   congr 2
   omega
  rw [e2,zo0]
  congr 1
  omega
theorem zzv (h20:∀ e∈F,e.length≤20)(hl:F.length≤1000000)(hm:m≤F.length)(hfrom:vw fs (F.take m))(hb:∀ j,4*j < m→zx fs (yr (-1) (j:Int) (wid m j:Int))=some (zad F (-1) j (wid m j)))(d0:List (List UInt8)):
  ∀(fuel p k0:Nat),m - p≤fuel→p≤m→zah (zx fs) d0 k0=F.take p→∃ k,k0≤k∧(∀ i,k0≤i→i < k→(j7 (zx fs) (zah (zx fs) d0 i)).2=true)∧(j7 (zx fs) (zah (zx fs) d0 k)).2=false∧F.take m=zah (zx fs) d0 (k+1):=by
 intro fuel
 induction fuel with
 | zero =>
  intro p k0 hf hp hd
  obtain rfl:p=m:=by omega
  have hs:=(zm5 h20 hl hm hfrom hb (Nat.le_refl p)).1 rfl
  refine⟨k0,Nat.le_refl _,fun i h1 h2=>by omega,by rw [hd,hs],by rw [zah,hd,hs];simp⟩
 | succ fuel ih =>
  intro p k0 hf hp hd
  by_cases e:p=m
  ·subst e
   have hs:=(zm5 h20 hl hm hfrom hb (Nat.le_refl p)).1 rfl
   exact⟨k0,Nat.le_refl _,fun i h1 h2=>by omega,by rw [hd,hs],by rw [zah,hd,hs];simp⟩
  ·obtain⟨s1,s2⟩:=(zm5 h20 hl hm hfrom hb hp).2 (by omega)
   have hwd:wid m (p / 4)=min 4 (m - 4*(p / 4)):=rfl
   have hnext:zah (zx fs) d0 (k0+1)=F.take (4*(p / 4)+wid m (p / 4)):=by rw [zah,hd,s1]
   by_cases h4:wid m (p / 4)=4
   ·obtain⟨k,g1,g2,g3,g4⟩:=ih (4*(p / 4)+wid m (p / 4)) (k0+1) (by omega) (by omega) hnext
    refine⟨k,by omega,fun i h1 h2=>?_,g3,g4⟩
    by_cases ei:i=k0
    ·subst ei
     rw [hd,s2,h4]
     rfl
    ·exact g2 i (by omega) h2
   ·refine⟨k0,Nat.le_refl _,fun i h1 h2=>by omega,by rw [hd,s2];simp [h4],?_⟩
    rw [hnext]
    congr 1
    omega
theorem z6i {key:List UInt8}(hnm:n≤m)(hm:m≤F.length)(h20:∀ e∈F,e.length≤20)(hl:F.length≤1000000)(hcp:(zx fs cpF=none∧n=0)∨zx fs cpF=some (xn n (yb (F.take n)) key))(hall:zaa fs F n)(hfrom:vw fs (F.take m))(hb:∀ j,4*j < m→zx fs (yr (-1) (j:Int) (wid m j:Int))=some (zad F (-1) j (wid m j))):zf7 (zx fs) key 0 [] (F.take m) n:=by
 have hh:zhv (zx fs) key n (yb (F.take n)):=by
  rcases hcp with ⟨h,rfl⟩ | h
  ·exact .inl ⟨h,rfl,by rw [List.take_zero];rfl⟩
  ·exact .inr ⟨_,h,by omega,zp4 _,rfl⟩
 refine .inr ⟨n,yb (F.take n),hh,.inr ⟨F.take n,?_,.inr ⟨rfl,?_,rfl,rfl,rfl⟩⟩⟩
 ·rw [zw4 h20 (by omega) hall _ (by omega),List.take_take]
  congr 2
  omega
 ·obtain⟨k,-,g2,g3,g4⟩:=zzv h20 hl hm hfrom hb (F.take n) (m - n) n 0 (by omega) hnm rfl
  exact⟨k,fun i hi=>g2 i (Nat.zero_le _) hi,g3,g4⟩
end
structure SF (fs:Fs)(key:List UInt8)(F:List (List UInt8))(n m:Nat):Prop where
 nm:n≤m
 mF:m≤F.length
 cp:(zx fs cpF=none∧n=0)∨zx fs cpF=some (xn n (yb (F.take n)) key)
 all:zaa fs F n
 since:vw fs (F.take m)
 bun:∀ j,4*j < m→zx fs (yr (-1) (j:Int) (wid m j:Int))=some (zad F (-1) j (wid m j))
theorem SF.opens {fs:Fs}{key:List UInt8}{F:List (List UInt8)}{n m:Nat}(h:SF fs key F n m)(h20:∀ e∈F,e.length≤20)(hl:F.length≤1000000):zf7 (zx fs) key 0 [] (F.take m) n:=z6i h.nm h.mF h20 hl h.cp h.all h.since h.bun
theorem znt {fs:Fs}{F:List (List UInt8)}{n:Nat}(hn:n≤F.length)(hall:zaa fs F n):∀ j,4*j < n→zx fs (yr (-1) (j:Int) (wid n j:Int))=some (zad F (-1) j (wid n j)):=by
 intro j hj
 have hlen:(F.take n).length=n:=by simp;omega
 have hc:zz (-1) n=n:=by unfold zz;simp
 have hmem:jx (F.take n) (-1) n j∈xj (F.take n):=by
  rw [jh,hlen]
  exact⟨-1,j,⟨by omega,by omega⟩,by rw [hc];omega,by rw [hc]⟩
 have hl:=hall _ hmem
 unfold jx at hl
 simp only at hl
 rw [zat F n (-1) j (wid n j) (by rw [hc];unfold wid;omega) hn] at hl
 exact hl
theorem z5c {fs:Fs}{key:List UInt8}{es:List (List UInt8)}(hc:Chp fs es es.length key)(hf:vw fs es):SF fs key es es.length es.length :=
 ⟨Nat.le_refl _,Nat.le_refl _,hc.2.imp id (fun h=>h.1),hc.all,by rw [List.take_length];exact hf,znt (Nat.le_refl _) hc.all⟩
theorem z3a (F:List (List UInt8))(a b:Fs)(h:yj F 0=a++b):∃ J,4*J < F.length+4∧(∀ j,j < J→jx F (-1) F.length j∈a)∧∀ f∈a,(∃ j,j < J∧f=jx F (-1) F.length j)∨(F.length≤4*J∧f∈xj F):=by
 have hc:zz (-1) F.length=F.length:=by unfold zz;simp
 have hB:zcy F 0 (-1)=(List.range ((F.length+3) / 4)).map (jx F (-1) F.length):=by
  unfold zcy
  rw [hc]
  have hc0:zz (-1) 0=0:=by unfold zz;simp
  rw [hc0]
  split
  ·rename_i e
   rw [e]
   simp
  ·unfold zk7
   simp [List.range_eq_range']
 have hT:yj F 0=(List.range ((F.length+3) / 4)).map (jx F (-1) F.length)++(List.range 21).flatMap fun(k:Nat)=>zcy F 0 (k:Int):=by
  unfold yj zns
  rw [hB]
 rw [h] at hT
 have hw:∀ f∈a,f∈xj F:=fun f hf=>zg8 (put:=0) f (by rw [h];exact List.mem_append_left _ hf)
 rcases List.append_eq_append_iff.1 hT with ⟨a',e1,-⟩ | ⟨c',e1,-⟩
 ·have ea:a=(List.range a.length).map (jx F (-1) F.length):=by
   have e2:=congrArg (List.take a.length) e1
   rw [List.take_left',← List.map_take,List.take_range] at e2
   ·have hle:a.length≤(F.length+3) / 4:=by
     have:=congrArg List.length e1
     simp at this
     omega
    rw [Nat.min_eq_left hle] at e2
    exact e2.symm
   ·rfl
  have hle:a.length≤(F.length+3) / 4:=by
   have:=congrArg List.length e1
   simp at this
   omega
  refine⟨a.length,by omega,fun j hj=>?_,fun f hf=>?_⟩
  ·rw [ea]
   exact List.mem_map.2 ⟨j,List.mem_range.2 hj,rfl⟩
  ·rw [ea] at hf
   obtain⟨j,hj,rfl⟩:=List.mem_map.1 hf
   exact .inl ⟨j,List.mem_range.1 hj,rfl⟩
 ·refine⟨(F.length+3) / 4,by omega,fun j hj=>?_,fun f hf=>?_⟩
  ·rw [e1]
   exact List.mem_append_left _ (List.mem_map.2 ⟨j,List.mem_range.2 hj,rfl⟩)
  ·exact .inr ⟨by omega,hw f hf⟩
theorem zvj {key:List UInt8}{F:List (List UInt8)}{n:Nat}{d:Dk}(h:SF d.fs key F n n)(hl:F.length≤1000000)(hc:zau d)(ha:zbq d.fs)(ht:d.turned=false)(hn:ve d.fs (xj F)):
  ∃ n' m,n≤m∧SF (qt (yj F 0) (xn F.length (yb F) key) d).2.fs key F n' m:=by
 obtain⟨a,b,e1,g1,g2,g3⟩:=z7i (c:=xn F.length (yb F) key) (zho hl) hc ha ht hn (fun f hf=>zg8 (put:=0) f hf)
 generalize (qt (yj F 0) (xn F.length (yb F) key) d).2.fs=fs' at *
 obtain⟨J,j1,j2,j3⟩:=z3a F a b e1
 have hstay:∀ q x,q≠cpF→zx d.fs q=some x→zx fs' q=some x:=fun q x hq hx=>by
  rcases g1 q hq with e | ⟨e,-⟩
  ·rw [e];exact hx
  ·rw [hx] at e;simp at e
 have hcn:∀ k:Nat,zz (-1) k=k:=fun k=>by unfold zz;simp
 have hallN:zaa fs' F n:=fun f hf=>by
  have:=h.all f hf
  obtain⟨l,j,-,-,rfl⟩:=jh.1 hf
  exact hstay _ _ zgc this
 have hfull:b=[]→zaa fs' F F.length:=fun hb f hf=>by
  rw [List.take_length] at hf
  rcases zib (put:=0) (Nat.zero_le _) f hf with h' | h'
  ·rw [e1,hb,List.append_nil] at h'
   exact g2 f h'
  ·exact absurd h' (by rw [List.take_zero];exact zga)
 have hmF:max n (min (4*J) F.length)≤F.length:=by have:=h.mF;omega
 have hfrom:vw fs' (F.take (max n (min (4*J) F.length))):=by
  intro q x hq
  have hlen:(F.take (max n (min (4*J) F.length))).length=max n (min (4*J) F.length):=by simp;omega
  have htt:∀ k,k≤max n (min (4*J) F.length)→(F.take (max n (min (4*J) F.length))).take k=F.take k:=fun k hk=>by rw [List.take_take,Nat.min_eq_left hk]
  by_cases hqc:q=cpF
  ·exact .inl hqc
  ·rcases g1 q hqc with e | ⟨-,y,hy,e⟩
   ·rw [e] at hq
    rcases h.since q x hq with h' | ⟨k,hk,hm⟩
    ·exact .inl h'
    ·have hk':k≤n:=by simpa using Nat.le_trans hk (by simp;omega)
     refine .inr ⟨k,by rw [hlen];omega,?_⟩
     rw [htt k (by omega)]
     rw [List.take_take,Nat.min_eq_left hk'] at hm
     exact hm
   ·rw [hq] at e
    simp only [Option.some.injEq] at e
    subst e
    rcases j3 _ hy with ⟨j,hj,ef⟩ | ⟨hJ,hw⟩
    ·refine .inr ⟨min (4*(j+1)) F.length,by rw [hlen];omega,?_⟩
     rw [htt _ (by omega),jh]
     have hl2:(F.take (min (4*(j+1)) F.length)).length=min (4*(j+1)) F.length:=by simp
     rw [hl2]
     refine⟨-1,j,⟨by omega,by omega⟩,by rw [hcn];omega,?_⟩
     rw [hcn,ef]
     unfold jx
     have hwd:wid (min (4*(j+1)) F.length) j=wid F.length j:=by unfold wid;omega
     rw [hwd,zat F (min (4*(j+1)) F.length) (-1) j _ (by rw [hcn];unfold wid;omega) (by omega)]
    ·refine .inr ⟨F.length,by rw [hlen];omega,?_⟩
     rw [htt _ (by omega),List.take_length]
     exact hw
 have hbun:∀ j,4*j < max n (min (4*J) F.length)→zx fs' (yr (-1) (j:Int) (wid (max n (min (4*J) F.length)) j:Int))=some (zad F (-1) j (wid (max n (min (4*J) F.length)) j)):=by
  intro j hj
  by_cases hmn:max n (min (4*J) F.length)=n
  ·rw [hmn] at hj ⊢
   exact znt h.mF hallN j hj
  ·have hjJ:j < J:=by omega
   have:=g2 _ (j2 j hjJ)
   have hwd:wid (max n (min (4*J) F.length)) j=wid F.length j:=by unfold wid;omega
   rw [hwd]
   exact this
 rcases g3 with g3 | ⟨hb,g3⟩
 ·exact⟨n,_,by omega,by omega,hmF,by rw [g3];exact h.cp,hallN,hfrom,hbun⟩
 ·have hall:=hfull hb
  have hm:max n (min (4*J) F.length)=F.length:=by
   have hJ:F.length≤4*J:=by
    rcases Nat.lt_or_ge (4*J) F.length with h' | h'
    ·exfalso
     have hmem:jx F (-1) F.length J∈a:=by
      have:jx F (-1) F.length J∈yj F 0:=by
       rcases zib (put:=0) (Nat.zero_le _) _ (jh.2 ⟨-1,J,⟨by omega,by omega⟩,by rw [hcn];exact h',by rw [hcn]⟩) with h'' | h''
       ·exact h''
       ·exact absurd h'' (by rw [List.take_zero];exact zga)
      rw [e1,hb,List.append_nil] at this
      exact this
     rcases j3 _ hmem with ⟨j,hj,ef⟩ | ⟨h2,-⟩
     ·unfold jx at ef
      simp only [Prod.mk.injEq] at ef
      have hbn:∀ k:Nat,4*k < F.length→¬ jz (-1) (k:Int) (wid F.length k:Int):=fun k hk=>by unfold jz wid;omega
      obtain⟨-,ej,-⟩:=zhr (hbn J h') (hbn j (by omega)) (by omega) (by omega) ef.1
      omega
     ·omega
    ·exact h'
   have:=h.mF
   omega
  rw [hm] at hfrom hbun
  exact⟨F.length,F.length,h.mF,Nat.le_refl _,Nat.le_refl _,.inr (by rw [g3,List.take_length]),hall,hfrom,hbun⟩
end
section
open Go.RowKit
set_option maxRecDepth 100000
end
section
structure KS (n:Nat)(key:List UInt8)(d:Dk)(s:List Nat)(es:List (List UInt8))(put:Nat):Prop where
 num:Num n ⟨key,0,false,false⟩ d s
 ent:Ent ⟨key,0,false,false⟩ d s es put
 still:jj d
 since:vw d.fs es
 chk:Chp d.fs es put key
theorem KS.few {n:Nat}{key:List UInt8}{d:Dk}{s:List Nat}{es:List (List UInt8)}{put:Nat}(h:KS n key d s es put)(hn:n≤4200):es.length≤40000:=by
 have:=zwv h.ent
 have:=h.num.small
 omega
theorem KS.count {n:Nat}{key:List UInt8}{d:Dk}{s:List Nat}{es:List (List UInt8)}{put:Nat}(h:KS n key d s es put)(hn:n≤4200):d.fs.length+(yj es put).length≤800000000:=by
 have:=h.few hn
 have:=zje es put
 have:=h.num.count
 omega
theorem z7y (key:List UInt8)(hk:key.length≤9223372036854775807)(d:Dk)(hs:jj d)(hf:d.fs=[])(ht:d.turned=false):KS 0 key d [] [] 0 where
 num:=⟨by rw [hf];exact List.nodup_nil,fun f h=>by rw [hf] at h;simp at h,by rw [hf];simp,fun j w h1 h4 h=>by rw [hf] at h;simp [zx] at h,by simp,hk,ht⟩
 ent:=⟨fun e he=>by simp at he,fun j hj=>by simp at hj,Nat.le_refl _,fun _=>⟨⟨hs.2.1,hs.2.2⟩,fun f hf=>absurd hf (by rw [List.take_zero];exact zga)⟩⟩
 still:=hs
 since:=fun q x h=>by rw [hf] at h;simp [zx] at h
 chk:=⟨Nat.le_refl _,.inl ⟨by rw [hf];simp [zx],rfl⟩⟩
theorem zyo {n:Nat}{key:List UInt8}{d:Dk}{s:List Nat}{es:List (List UInt8)}{put:Nat}(h:KS n key d s es put)(t:List UInt8)(ht:t.length≤20):KS (n+1) key d (es.length / 4::s) (es++[t]) put where
 num:=⟨h.num.apart,h.num.data,Nat.le_trans h.num.count (Nat.add_le_add_left (Nat.mul_le_mul_right _ (Nat.le_succ n)) _),fun j w' h1 h4 hh=>List.mem_cons_of_mem _ (h.num.among j w' h1 h4 hh),by have:=h.num.small;simp only [List.length_cons];omega,h.num.key,h.num.turned⟩
 ent:=by
  have hent:=h.ent
  refine⟨fun e he=>?_,fun j hj=>?_,by have:=hent.le;rw [List.length_append];omega,fun hf=>?_⟩
  ·rcases List.mem_append.1 he with he | he
   ·exact hent.short e he
   ·obtain rfl:e=t:=by simpa using he
    exact ht
  ·rw [List.length_append] at hj
   simp only [List.length_cons,List.length_nil] at hj
   by_cases h4:4*j < es.length
   ·exact List.mem_cons_of_mem _ (hent.ins j h4)
   ·obtain rfl:j=es.length / 4:=by omega
    exact List.mem_cons_self
  ·rw [List.take_append_of_le_length hent.le]
   exact hent.there hf
 still:=h.still
 since:=h.since.more [t]
 chk:=h.chk.more [t]
theorem zvn {n:Nat}{key:List UInt8}{d:Dk}{s:List Nat}{es:List (List UInt8)}{put:Nat}(h:KS n key d s es put)(hn:n≤4100):
  (qt (yj es put) (xn es.length (yb es) key) d).1=none∧KS (n+1) key (qt (yj es put) (xn es.length (yb es) key) d).2 s es es.length:=by
 have hl:=h.few (by omega)
 have hnc:=h.since.noClash (by omega)
 have h0:=zpl (c:=xn es.length (yb es) key) (put:=put) h.still h.num.apart h.num.turned (by omega) hnc
 obtain⟨g1,g2,g3,g4⟩:=zqt (x':=⟨key,0,false,false⟩) hn h.num h.ent rfl (List.Perm.refl d.fs) (zju hnc) rfl
 refine⟨h0,⟨g1,?_,h.still.pub _ _,h.since.went g2,?_⟩⟩
 ·rcases g4 with ⟨-,c1,-,c3⟩ | ⟨⟨p,hp,-⟩,-⟩
  ·exact⟨h.ent.short,h.ent.ins,Nat.le_refl _,fun _=>⟨c1,fun f hf=>c3 f (by rw [List.take_length] at hf;exact hf)⟩⟩
  ·have e:(qt (yj es put) (cpT ⟨key,0,false,false⟩ es) d).1=none:=h0
   rw [e] at hp
   simp at hp
 ·rcases g4 with ⟨-,-,c2,c3⟩ | ⟨⟨p,hp,-⟩,-⟩
  ·exact⟨Nat.le_refl _,.inr ⟨by rw [List.take_length];exact c2,fun f hf=>c3 f (by rw [List.take_length] at hf;exact hf)⟩⟩
  ·have e:(qt (yj es put) (cpT ⟨key,0,false,false⟩ es) d).1=none:=h0
   rw [e] at hp
   simp at hp
end
section
set_option maxHeartbeats 2000000
open Go.RowKit
set_option maxRecDepth 100000
theorem zpe (c:Int)(n:Nat)(w:World)(h1:-9223372036854775808≤c)(h2:c≤9223372036854775807)(hn:0 < n)(hn':n≤100000000000):
  Calls Tryz.prog 12 #[.int .i64 c,.int .i64 n] w fun r w'=>(∃ m:Nat,m < n∧r= .returned (.int .i64 m))∧w'=w:=by
 by_cases hc:c < 0
 ·obtain⟨d,hd⟩:=Int.eq_ofNat_of_zero_le (show 0≤-(c+1) by omega)
  have HD:=za hd
  clear hd
  have hm:d % n < n:=Nat.mod_lt _ hn
  go_enter Tryz.func12,Tryz.ntmps12
  go_wp2_with fail
  go_ret
  refine⟨⟨d % n,hm,congrArg (fun z=>Ending.returned (.int .i64 z)) ?_⟩,rfl⟩
  show -((c+1).tmod (n:Int))=((d % n:Nat):Int)
  rw [← Int.neg_tmod,HD.o]
  rfl
 ·obtain⟨d,rfl⟩:=Int.eq_ofNat_of_zero_le (show 0≤c by omega)
  have hm:d % n < n:=Nat.mod_lt _ hn
  go_enter Tryz.func12,Tryz.ntmps12
  go_wp2_with fail
  go_ret
  exact⟨⟨d % n,hm,congrArg (fun z=>Ending.returned (.int .i64 z)) (by simp)⟩,rfl⟩
theorem z5j (l:List UInt8):(⟨l.toArray⟩:ByteArray).extract 0 20=⟨(l.take 20).toArray⟩:=by
 rw [ByteArray.ext_iff]
 simp [ByteArray.data_extract]
def zb4 (l:List UInt8):List UInt8:=l.take 20
theorem zzn (l:List UInt8):(zb4 l).length≤20:=by simp [zb4];omega
theorem zso {l:List UInt8}(h:¬ 20 < l.length):zb4 l=l:=List.take_of_length_le (by omega)
theorem zzj (v:Value)(ls:List (List UInt8))(w:World)(hn:ls.length≤1000000)(hl:∀ l∈ls,l.length≤9223372036854775807)(h:Tss w v ls):
  Calls Tryz.prog 6 #[v] w fun r w'=>∃ x,r= .returned x∧Below w.heap.size w w'∧w'.ownsRow w.heap.size 9 1 x (ls.map zb4).length ((ls.map zb4).map txv):=by
 obtain⟨a,cap,rfl,hcap,h'⟩:=h
 have Hc:Hid (ls.length=0∨∃ b off,a=some ⟨b,off,none⟩∧∀ i (h:i < ls.length),w.cell? ⟨b,off+i,none⟩=some (txv ls[i])):=by
  rcases h' with h | h
  ·exact .inl (by simp [h])
  ·exact .inr h
 have HL:=za hl
 clear h' hcap hl
 go_enter Tryz.func6,Tryz.ntmps6
 go_wp2_with fail
 go_loopw [3,4] (fun t i wr=>∃ k:Nat,k≤ls.length∧i= .int .i64 k∧Below w.heap.size w wr∧wr.ownsRow w.heap.size 9 1 t ((ls.take k).map zb4).length (((ls.take k).map zb4).map txv)) (fun _ i _=>ls.length - (intOf i).toNat)
 case atStart=>exact⟨0,Nat.zero_le _,rfl,Below.refl _ _,⟨rfl,.inl ⟨rfl,rfl⟩⟩⟩
 case round =>
  obtain⟨k,hk,rfl,hbe,hown⟩:=hrel
  have HB:=za hbe
  have HO:=za hown
  clear hbe hown
  by_cases hlt:k < ls.length
  ·rcases Hc.o with h0 | ⟨b,off,rfl,hcell⟩
   ·omega
   have hx:=hcell k hlt
   rw [← HB.o.cell (zj (p:=⟨b,off+k,none⟩) hx)] at hx
   have hlen:=HL.o ls[k] (List.getElem_mem hlt)
   clear hcell
   have hs:(ls.take (k+1)).map zb4=(ls.take k).map zb4++[zb4 ls[k]]:=by rw [List.take_succ_eq_append_getElem hlt,List.map_append];rfl
   have Hs:=za hs
   have hkl:((ls.take k).map zb4).length≤1000000000:=by simp;omega
   clear hs
   generalize ls[k]=s at *
   generalize (ls.take k).map zb4=xs at *
   unfold txv at hx
   by_cases h20:20 < s.length
   ·have Ht:Hid ((⟨s.toArray⟩:ByteArray).extract 0 20=⟨(zb4 s).toArray⟩):=z5j s
    go_wp2_with (first | rw [Ht.o] | (at_builtin;refine zsh wr rfl _ _ rfl w.heap.size HB.o.size u3 xs rfl HO.o (zb4 s) wr.heap.size rfl rfl hkl ?_;intro v' w2 hown htn hblk))
    have HB2:Hid (Below w.heap.size w w2):=HB.o.trans (htn.below (fun g hg=>js HO.o g hg) HB.o.size)
    have HO2:=za hown
    clear htn hblk hown
    go_wp2_with fail
    go_roundw
    case rel=>exact⟨k+1,by omega,by go_num,HB2.o,by rw [Hs.o];exact HO2.o⟩
    case measure=>simp [intOf];omega
   ·have Ht:Hid (zb4 s=s):=zso h20
    go_wp2_with (at_builtin;refine zsh wr rfl _ _ rfl w.heap.size HB.o.size u3 xs rfl HO.o s wr.heap.size rfl rfl hkl ?_;intro v' w2 hown htn hblk)
    have HB2:Hid (Below w.heap.size w w2):=HB.o.trans (htn.below (fun g hg=>js HO.o g hg) HB.o.size)
    have HO2:=za hown
    clear htn hblk hown
    go_wp2_with fail
    go_roundw
    case rel=>exact⟨k+1,by omega,by go_num,HB2.o,by rw [Hs.o,Ht.o];exact HO2.o⟩
    case measure=>simp [intOf];omega
  ·go_wp2_with fail
   go_ret
   have:=HO.o
   rw [List.take_of_length_le (by omega)] at this
   exact⟨_,rfl,HB.o,this⟩
end
end Go.Proofs.YtinhekmmdlhfkaaGreatDoor
