import Derived.Test.YtinhekmmdlhfkaaGreatDoorG06
import Derived.Test.YtinhekmmdlhfkaaGreatDoorG25
import Derived.Test.YtinhekmmdlhfkaaGreatDoorG37
namespace Go.Proofs.YtinhekmmdlhfkaaGreatDoor
section
open Go.RowKit
theorem zvb (f:Nat):∀ ls:List (List UInt8),ls.length≤f→qb (f+1) ls=qb f ls:=by
 induction f with
 | zero=>intro ls h;rw [zal _ _ (by omega),zal _ _ (by omega)]
 | succ f ih =>
  intro ls h
  by_cases h0:ls.length=0
  ·rw [zal _ _ h0,zal _ _ h0]
  by_cases h1:ls.length=1
  ·rw [zdi _ _ h1,zdi _ _ h1]
  obtain⟨k1,k2,k3⟩:=jy ls.length (by omega)
  rw [j9 (f+1) ls (by omega),j9 f ls (by omega),ih (ls.take (kOf ls.length)) (by simp;omega),ih (ls.drop (kOf ls.length)) (by simp;omega)]
theorem zcn (P:List (List UInt8))(R:List UInt8):(P++[R]).dropLast=P:=by simp
theorem zhg (P:List (List UInt8))(R:List UInt8):(P++[R]).getLastD []=R:=by simp [List.getLastD_eq_getLast?]
theorem zln (P:List (List UInt8))(R:List UInt8):(P++[R]).length≠0:=by simp
theorem z3l (f:Nat):∀(ls:List (List UInt8)) (i:Nat),1≤ls.length→(zdm f ls i).length+1≤ls.length:=by
 induction f with
 | zero=>intro ls i h;simpa [zdm] using h
 | succ f ih =>
  intro ls i h
  by_cases h1:ls.length≤1
  ·rw [zhk _ _ _ h1];simpa using h
  obtain⟨k1,k2,k3⟩:=jy ls.length (by omega)
  by_cases hi:i < kOf ls.length
  ·rw [zic _ _ _ (by omega) hi]
   have:=ih (ls.take (kOf ls.length)) i (by simp;omega)
   simp at this ⊢;omega
  ·rw [zgt _ _ _ (by omega) hi]
   have:=ih (ls.drop (kOf ls.length)) (i - kOf ls.length) (by simp;omega)
   simp at this ⊢;omega
theorem z4o (z:List UInt8)(f:Nat):∀(ls:List (List UInt8)) (i:Nat),1≤ls.length→ls.length≤f→i < ls.length →
  vg z f (qu (ls.getD i [])) i ls.length (zdm f ls i)=(qb f ls,true):=by
 induction f with
 | zero=>intro ls i h1 h2;omega
 | succ f ih =>
  intro ls i h1 hf hi
  by_cases h:ls.length=1
  ·rw [zhk _ _ _ (by omega),h,zme,zdi _ _ h]
   obtain rfl:i=0:=by omega
   match ls,h with
   | [l],_=>simp
  obtain⟨k1,k2,k3⟩:=jy ls.length (by omega)
  by_cases hk:i < kOf ls.length
  ·rw [zic _ _ _ (by omega) hk,zj9 _ _ _ _ _ _ h (zln _ _) hk,zcn,zhg]
   have e:=ih (ls.take (kOf ls.length)) i (by simp;omega) (by simp;omega) (by simp;omega)
   have e1:(ls.take (kOf ls.length)).getD i []=ls.getD i []:=by simp [List.getD_eq_getElem?_getD,hk]
   have e2:(ls.take (kOf ls.length)).length=kOf ls.length:=by simp;omega
   rw [e1,e2] at e
   rw [e,j9 _ _ (by omega)]
  ·rw [zgt _ _ _ (by omega) hk,zin _ _ _ _ _ _ h (zln _ _) hk,zcn,zhg]
   have e:=ih (ls.drop (kOf ls.length)) (i - kOf ls.length) (by simp;omega) (by simp;omega) (by simp;omega)
   have e1:(ls.drop (kOf ls.length)).getD (i - kOf ls.length) []=ls.getD i []:=by
    simp only [List.getD_eq_getElem?_getD,List.getElem?_drop]
    rw [show kOf ls.length+(i - kOf ls.length)=i by omega]
   have e2:(ls.drop (kOf ls.length)).length=ls.length - kOf ls.length:=by simp
   rw [e1,e2] at e
   rw [e,j9 _ _ (by omega)]
theorem z69 (f:Nat):∀(m:Nat) (ls:List (List UInt8)) (whole:Bool),1≤m→m≤ls.length→(zgu f m ls whole).length≤ls.length:=by
 induction f with
 | zero=>intro m ls whole h h2;simp [zgu]
 | succ f ih =>
  intro m ls whole h h2
  by_cases h1:m=ls.length
  ·subst h1
   cases whole with
   | true=>rw [zff];simp
   | false=>rw [zjk];simpa using h
  obtain⟨k1,k2,k3⟩:=jy ls.length (by omega)
  by_cases hk:m≤kOf ls.length
  ·rw [zki _ _ _ _ h1 hk]
   have:=ih m (ls.take (kOf ls.length)) whole h (by simp;omega)
   simp at this ⊢;omega
  ·rw [zii _ _ _ _ h1 hk]
   have:=ih (m - kOf ls.length) (ls.drop (kOf ls.length)) false (by omega) (by simp;omega)
   simp at this ⊢;omega
theorem z5a (z a:List UInt8)(f:Nat):∀(m:Nat) (ls:List (List UInt8)) (whole:Bool),1≤m→m≤ls.length→ls.length≤f→(whole=true→a=qb f (ls.take m)) →
  qv z a f m ls.length (zgu f m ls whole) whole=(qb f (ls.take m),qb f ls,true):=by
 induction f with
 | zero=>intro m ls whole h1 h2 h3;omega
 | succ f ih =>
  intro m ls whole h1 h2 hf ha
  by_cases hm:m=ls.length
  ·subst hm
   cases whole with
   | true=>rw [zff,zij,List.take_length] ;rw [List.take_length] at ha;rw [← ha rfl];simp
   | false=>rw [zjk,zka _ _ _ _ _ (by simp),List.take_length];simp
  obtain⟨k1,k2,k3⟩:=jy ls.length (by omega)
  by_cases hk:m≤kOf ls.length
  ·rw [zki _ _ _ _ hm hk,zke _ _ _ _ _ _ _ hm (zln _ _) hk,zcn,zhg]
   have e1:(ls.take (kOf ls.length)).take m=ls.take m:=by rw [List.take_take,Nat.min_eq_left hk]
   have e2:(ls.take (kOf ls.length)).length=kOf ls.length:=by simp;omega
   have es:qb (f+1) (ls.take m)=qb f (ls.take m):=zvb f _ (by simp;omega)
   have e:=ih m (ls.take (kOf ls.length)) whole h1 (by omega) (by omega) (fun hw=>by rw [e1,← es];exact ha hw)
   rw [e1,e2] at e
   rw [e,es,j9 f ls (by omega)]
  ·rw [zii _ _ _ _ hm hk,zh4 _ _ _ _ _ _ _ hm (zln _ _) hk,zcn,zhg]
   have e2:(ls.drop (kOf ls.length)).length=ls.length - kOf ls.length:=by simp
   have e:=ih (m - kOf ls.length) (ls.drop (kOf ls.length)) false (by omega) (by omega) (by omega) (by simp)
   rw [e2] at e
   have hl:(ls.take m).length=m:=by simp;omega
   have hkm:kOf m=kOf ls.length:=by
    unfold kOf at hk k2 ⊢
    refine(z82 m _ (by omega) ?_).symm
    rw [Nat.pow_succ];omega
   have e3:(ls.take m).take (kOf ls.length)=ls.take (kOf ls.length):=by rw [List.take_take,Nat.min_eq_left (by omega)]
   have e4:(ls.take m).drop (kOf ls.length)=(ls.drop (kOf ls.length)).take (m - kOf ls.length):=by rw [List.drop_take]
   rw [e,j9 f ls (by omega),j9 f (ls.take m) (by omega),hl,hkm,e3,e4]
end
section
theorem zy6 (z leaf:List UInt8):∀(f g i n:Nat) (ps:List (List UInt8)),ps.length < f→ps.length < g→vg z f leaf i n ps=vg z g leaf i n ps:=by
 intro f
 induction f with
 | zero=>intro g i n ps h;omega
 | succ f ih =>
  intro g i n ps h1 h2
  obtain⟨g,rfl⟩:∃ g',g=g'+1:=⟨g - 1,by omega⟩
  unfold vg
  by_cases hn:n=1
  ·rw [if_pos hn,if_pos hn]
  rw [if_neg hn,if_neg hn]
  by_cases h0:ps.length=0
  ·rw [if_pos h0,if_pos h0]
  rw [if_neg h0,if_neg h0]
  have hd:ps.dropLast.length < f:=by simp;omega
  have hd':ps.dropLast.length < g:=by simp;omega
  rw [ih g i (kOf n) _ hd hd',ih g (i - kOf n) (n - kOf n) _ hd hd']
theorem zyg (z a:List UInt8):∀(f g m n:Nat) (ps:List (List UInt8)) (whole:Bool),ps.length < f→ps.length < g→qv z a f m n ps whole=qv z a g m n ps whole:=by
 intro f
 induction f with
 | zero=>intro g m n ps whole h;omega
 | succ f ih =>
  intro g m n ps whole h1 h2
  obtain⟨g,rfl⟩:∃ g',g=g'+1:=⟨g - 1,by omega⟩
  unfold qv
  by_cases hn:m=n
  ·rw [if_pos hn,if_pos hn]
  rw [if_neg hn,if_neg hn]
  by_cases h0:ps.length=0
  ·rw [if_pos h0,if_pos h0]
  rw [if_neg h0,if_neg h0]
  have hd:ps.dropLast.length < f:=by simp;omega
  have hd':ps.dropLast.length < g:=by simp;omega
  rw [ih g m (kOf n) _ whole hd hd',ih g (m - kOf n) (n - kOf n) _ false hd hd']
def zkv (es:List (List UInt8))(size i:Nat):List (List UInt8):=(xp 64 0 size i).map fun s=>yb (run es s)
def zi3 (es:List (List UInt8))(old size:Nat):List (List UInt8):=(xr 64 old 0 size true).map fun s=>yb (run es s)
theorem zs7 (es:List (List UInt8))(n:Nat):run es (0,n)=es.take n:=by simp [run]
theorem z2j (es:List (List UInt8))(size i g:Nat)(h:size≤es.length)(hs:size < 2 ^ 63)(hi:i < size)(hg:size≤g):zdm g (es.take size) i=zkv es size i:=by
 have:=zr8 es 64 g 0 size i (by omega) hg (by omega) (by omega) (by omega)
 rw [zs7,Nat.sub_zero] at this
 exact this
theorem z3u (es:List (List UInt8))(old size g:Nat)(h:size≤es.length)(hs:size < 2 ^ 63)(h0:0 < old)(ho:old≤size)(hg:size≤g):zgu g old (es.take size) true=zi3 es old size:=by
 have:=ztd es 64 g old 0 size true (by omega) hg (by omega) (by omega) (by omega)
 rw [zs7,Nat.sub_zero] at this
 exact this
theorem zz0 (es:List (List UInt8))(size i:Nat):(zkv es size i).length≤64:=by
 unfold zkv;rw [List.length_map];exact za3 64 0 size i
theorem zzk (es:List (List UInt8))(old size:Nat):(zi3 es old size).length≤65:=by
 unfold zi3;rw [List.length_map];exact za2 64 old 0 size true
theorem znh {es:List (List UInt8)}{n:Nat}(h:n≤es.length):(es.take n).length=n:=by simp;omega
theorem z4j (z:List UInt8)(es:List (List UInt8))(size i:Nat)(h:size≤es.length)(hs:size < 2 ^ 63)(hi:i < size):vg z 1001 (qu (es.getD i [])) i size (zkv es size i)=(yb (es.take size),true):=by
 have hl:=znh h
 have h1:=z4o z size (es.take size) i (by omega) (by omega) (by omega)
 have h2:=z3l size (es.take size) i (by omega)
 rw [z2j es size i size h hs hi (Nat.le_refl _)] at h1 h2
 have h3:=zz0 es size i
 rw [zy6 z _ 1001 size i size _ (by omega) (by omega)]
 rw [hl] at h1
 have e:(es.take size).getD i []=es.getD i []:=by
  rw [List.getD_eq_getElem?_getD,List.getD_eq_getElem?_getD,List.getElem?_take,if_pos hi]
 rw [e] at h1
 rw [h1]
 unfold yb
 rw [hl]
theorem z4m (z:List UInt8)(es:List (List UInt8))(old size:Nat)(h:size≤es.length)(hs:size < 2 ^ 63)(h0:0 < old)(ho:old≤size):qv z (yb (es.take old)) 1001 old size (zi3 es old size) true=(yb (es.take old),yb (es.take size),true):=by
 have hl:=znh h
 have e1:(es.take size).take old=es.take old:=by rw [List.take_take];congr 1;omega
 have hlo:(es.take old).length=old:=znh (by omega)
 have e2:qb (size+1) (es.take old)=yb (es.take old):=vu _ _ _ (by omega) (by omega)
 have e3:qb (size+1) (es.take size)=yb (es.take size):=vu _ _ _ (by omega) (by omega)
 have h1:=z5a z (yb (es.take old)) (size+1) old (es.take size) true (by omega) (by omega) (by omega) (fun _=>by rw [e1,e2])
 have h2:=z69 (size+1) old (es.take size) true (by omega) (by omega)
 rw [z3u es old size (size+1) h hs h0 ho (by omega)] at h1 h2
 have h3:=zzk es old size
 rw [zyg z _ 1001 (size+1) old size _ true (by omega) (by omega)]
 rw [hl,e1,e2,e3] at h1
 exact h1
section
variable {σ : Type} {fe : σ → List UInt8 → (List UInt8 × Bool) × σ}
theorem zl5 (cnt:σ→Int)(hc:∀ s p,cnt (fe s p).2=cnt s+1){proved:Mm}{size:Nat}{m m1:Ms σ}{l:Int}{j:Nat}{o:Sum (List UInt8) Pc}(h:xu fe proved size m l j=(o,m1)):
  cnt m1.net≤cnt m.net+2∧m1.needed.length≤m.needed.length+1:=by
 have hpl:∀ s p,cnt (yw fe s p).2=cnt s+1:=fun s p=>hc s _
 have hdr:∀(a:Mm) p f,(a.drop p++[(p,f)]).length≤a.length+1:=fun a p f=>by
  have:=List.length_filter_le (fun x:Pl×Fl=>!decide (x.1=p)) a
  simp only [List.length_append,List.length_cons,List.length_nil]
  unfold Mm.drop
  omega
 have hfl:∀ s p,cnt (qy fe s p).2≤cnt s+2:=by
  intro s p
  have a1:=hpl s p
  unfold qy
  cases e1:yw fe s p with
  | mk o s1 =>
   rw [e1] at a1
   simp only at a1
   cases o with
   | some f=>simp only;omega
   | none =>
    simp only
    split
    ·simp only;omega
    ·have a2:=hpl s1 (p.1,p.2.1,4)
     cases e2:yw fe s1 (p.1,p.2.1,4) with
     | mk o2 s2 =>
      rw [e2] at a2
      simp only at a2
      cases o2<;>simp only<;>omega
 unfold xu at h
 by_cases ht:((yx proved m.needed (zi size l j)).getD (j % 4) .no).there=true
 ·rw [if_pos ht] at h
  simp only [Prod.mk.injEq] at h
  obtain⟨-,rfl⟩:=h
  exact⟨by simp only;omega,hdr _ _ _⟩
 ·rw [if_neg ht] at h
  have a1:=hfl m.net (zi size l j)
  cases hf:qy fe m.net (zi size l j) with
  | mk o s =>
   rw [hf] at h a1
   cases o with
   | none =>
    simp only [Prod.mk.injEq] at h
    obtain⟨-,rfl⟩:=h
    simp only at *
    exact⟨a1,by omega⟩
   | some came =>
    simp only [Prod.mk.injEq] at h
    obtain⟨-,rfl⟩:=h
    simp only at *
    exact⟨a1,hdr _ _ _⟩
theorem jt.cost {proved:Mm}{size:Nat}{m m':Ms σ}{ps:List (Pl×Nat)}(h:jt fe proved size m ps m')(cnt:σ→Int)(hc:∀ s p,cnt (fe s p).2=cnt s+1):cnt m'.net≤cnt m.net+2*(ps.length:Int)∧m'.needed.length≤m.needed.length+ps.length:=by
 induction h using jt.ind with
 | nil m=>exact⟨by simp,by simp⟩
 | cons hj e _ ih =>
  have:=zl5 cnt hc e
  simp only [List.length_cons]
  omega
theorem z6f (room:Int)(m:Mm)(p:Pl)(f:Fl):(m.put room p f).length≤m.length+1:=by
 have:=List.length_filter_le (fun x:Pl×Fl=>!decide (x.1=p)) m
 unfold Mm.put Mm.drop
 split
 ·simp only [List.length_tail,List.length_append,List.length_cons,List.length_nil];omega
 ·simp only [List.length_append,List.length_cons,List.length_nil];omega
theorem zb2 (room:Int):∀(nd pr:Mm),(ym room pr nd).length≤pr.length+nd.length
 | [],pr=>by simp [ym]
 | x::nd,pr=>by
  have h1:=zb2 room nd (pr.put room x.1 (zip x.2))
  have h2:=z6f room pr x.1 (zip x.2)
  show(ym room (pr.put room x.1 (zip x.2)) nd).length≤_
  simp only [List.length_cons]
  omega
end
structure CI (es:List (List UInt8))(c:Cl)(t:Nat):Prop where
 le:c.size≤es.length
 gd:GdM (zap es) c.proved
 ins:InS c.size c.proved
 rt:c.root=yb (es.take c.size)
 room:z5r c.room c.proved
 len:c.proved.length≤10000*t
theorem CI.more {es:List (List UInt8)}{c:Cl}{t:Nat}(h:CI es c t)(more:List (List UInt8)):CI (es++more) c t :=
 ⟨by have:=h.le;simp;omega,h.gd.weak (fun _ _ _ hq=>zva hq more),h.ins,by rw [List.take_append_of_le_length h.le];exact h.rt,h.room,h.len⟩
theorem CI.later {es:List (List UInt8)}{c:Cl}{t t':Nat}(h:CI es c t)(ht:t≤t'):CI es c t':=⟨h.le,h.gd,h.ins,h.rt,h.room,by have:=h.len;omega⟩
theorem z8n (es:List (List UInt8))(key:List UInt8)(room:Int):CI es ⟨key,0,yb [],room,[]⟩ 0 :=
 ⟨Nat.zero_le _,zb5 _,fun x hx=>by simp at hx,by simp,⟨fun _=>rfl,fun _=>by simp⟩,by simp⟩
section
variable {fs : Fs} {es : List (List UInt8)} {c : Cl} {n : Nt} {t i : Nat}
theorem z5f (inc:List UInt8→Nat→Nat→List (List UInt8)→List UInt8→Bool)(hinc:∀ size i,size≤es.length→i < size→inc (qu (es.getD i [])) i size (zkv es size i) (yb (es.take size))=true)(h20:∀ e∈es,e.length≤20)(hlt:es.length < 4 ^ 21)(hall:zaa fs es c.size)(hn:n.lies=[])(h:CI es c t)(hi:i < c.size):
  ∃ m,jt (zq fs) c.proved c.size ⟨n,[]⟩ (zm7 c.size i) m∧m.net.lies=[]∧n.fetches≤m.net.fetches∧m.net.fetches≤n.fetches+17000 ∧
   jd (zq fs) inc c n i=(.inr (es.getD i [],zkv es c.size i),{ c with proved:=ym c.room c.proved (jw c.size m.needed i (qu (es.getD i []))) },m.net) ∧
   CI es { c with proved:=ym c.room c.proved (jw c.size m.needed i (qu (es.getD i []))) } (t+1):=by
 have hT:=zoq (fs:=fs) h20 h.le (Nat.lt_of_le_of_lt h.le hlt) hall
 have h63:=hT.lt
 obtain⟨m,h1,h2,h3,h4,h5⟩:=zvk hT h.gd h.ins hn hi inc (by rw [h.rt];exact hinc c.size i h.le hi)
 have hc:=h1.cost (fun x:Nt=>x.fetches) (zby fs)
 have hc0:=h1.cnt (fun x:Nt=>x.fetches) (zby fs)
 have hlen:(zm7 c.size i).length≤8401:=by
  have:=zkk c.size i h63
  unfold zm7
  simp only [List.length_cons]
  omega
 simp only at hc hc0
 refine⟨m,h1,h2,hc0,by omega,h3,h.le,h4,h5,h.rt,h.room.remember _,?_⟩
 have e:=congrArg List.length (zc7 c.size m.needed i (qu (es.getD i [])))
 simp only [List.length_map] at e
 have:=zb2 c.room (jw c.size m.needed i (qu (es.getD i []))) c.proved
 have:=h.len
 have:=hc.2
 simp only [List.length_nil] at this
 simp only
 omega
theorem z0a (con:Nat→Nat→List UInt8→List UInt8→List (List UInt8)→Bool)(hcon:∀ a b,0 < a→a≤b→b≤es.length→con a b (yb (es.take a)) (yb (es.take b)) (zi3 es a b)=true)(h20:∀ e∈es,e.length≤20)(hlt:es.length < 4 ^ 21){new:Nat}(hall:zaa fs es new)(hn:n.lies=[])(h:CI es c t)(hc:c.size≤new)(hl:new≤es.length):
  ∃ c' n',zdp (zq fs) con c n (some (new,yb (es.take new)))=(.inr (if 0 < c.size∧c.size < new then zi3 es c.size new else []),c',n')∧(c'.key=c.key∧c'.size=new∧c'.room=c.room)∧CI es c' (t+1)∧n'.lies=[]∧n.fetches≤n'.fetches∧n'.fetches≤n.fetches+17000:=by
 have hT:=zoq (fs:=fs) h20 hl (Nat.lt_of_le_of_lt hl hlt) hall
 have h63:=hT.lt
 obtain⟨pr,s',e,g1,g2,g3,g4⟩:=zrd (c:=c) hT h.gd h.ins hn h.rt hc con (fun h0 h1=>by rw [h.rt];exact hcon c.size new h0 hc hl)
 refine⟨{ c with size:=new,root:=yb (es.take new),proved:=pr },s',?_,⟨rfl,rfl,rfl⟩,?_⟩
 ·unfold zdp
  simp only
  rw [e]
  rfl
 ·rcases g4 with ⟨rfl,rfl⟩ | ⟨m2,hq,rfl,rfl,h0⟩
  ·exact⟨⟨hl,g1,g2,rfl,h.room,by have:=h.len;simp only;omega⟩,hn,Int.le_refl _,by omega⟩
  ·have hk:=hq.cost (fun x:Nt=>x.fetches) (zby fs)
   have hk0:=hq.cnt (fun x:Nt=>x.fetches) (zby fs)
   have hlen:=zj5 c.size new h63 h0 hc
   simp only at hk hk0
   have ek:=congrArg List.length (zc9 new m2.needed c.size c.root)
   simp only [List.length_map] at ek
   have:=zb2 c.room (zaq new m2.needed c.size c.root) c.proved
   have:=h.len
   have:=hk.2
   simp only [List.length_nil] at this
   exact⟨⟨hl,g1,g2,rfl,h.room.remember _,by simp only;omega⟩,g3,hk0,by omega⟩
end
end
section
section
variable {σ : Type} {fe : σ → List UInt8 → (List UInt8 × Bool) × σ}
structure Fed (fe:σ→List UInt8→(List UInt8×Bool)×σ)(I:σ→Prop)(V:Pl→Nat→Pc→Prop)(size:Nat):Prop where
 bare:∀ p k c b,V p k c→V p k { c with fits:=b }
 keep:∀ s p,I s→I (fe s p).2
 came:∀ s l j f s',I s→-1≤l→j < zz l size→qy fe s (zi size l j)=(some f,s')→GdF V (zi size l j) f
theorem Fed.file {I:σ→Prop}{V:Pl→Nat→Pc→Prop}{size:Nat}(h:Fed fe I V size)(s:σ)(p:Pl)(hI:I s):I (qy fe s p).2:=by
 have a1:I (yw fe s p).2:=h.keep s _ hI
 unfold qy
 cases e1:yw fe s p with
 | mk o s1 =>
  rw [e1] at a1
  cases o with
  | some f=>exact a1
  | none =>
   simp only
   split
   ·exact a1
   ·have a2:I (yw fe s1 (p.1,p.2.1,4)).2:=h.keep s1 _ a1
    cases e2:yw fe s1 (p.1,p.2.1,4) with
    | mk o2 s2 =>
     rw [e2] at a2
     cases o2<;>exact a2
theorem zo2 {I:σ→Prop}{V:Pl→Nat→Pc→Prop}{size:Nat}(hS:Fed fe I V size){proved:Mm}{m m1:Ms σ}{l:Int}{j:Nat}{o:Sum (List UInt8) Pc}(h:xu fe proved size m l j=(o,m1))
  (hp:GdM V proved) (hm:GdM V m.needed) (hI:I m.net) (hl:-1≤l) (hj:j < zz l size) :
  GdM V m1.needed∧I m1.net∧∀ c,o= .inr c→c.there=true∧V (zi size l j) (j % 4) c:=by
 have hk:GdF V (zi size l j) (yx proved m.needed (zi size l j)):=hp.known hm _
 have hw:(zi size l j).2.2≤4:=by unfold zi;simp;omega
 have hkw:((j % 4:Nat):Int) < (zi size l j).2.2:=by unfold zi;simp;omega
 have hfile:=hS.file m.net (zi size l j) hI
 have hcame:=fun f s'=>hS.came m.net l j f s' hI hl hj
 unfold xu at h
 generalize zi size l j=p at *
 by_cases ht:((yx proved m.needed p).getD (j % 4) .no).there=true
 ·rw [if_pos ht] at h
  have hg:=hk.fitsAt hS.bare ht
  have ht2:((qx (yx proved m.needed p) (j % 4)).getD (j % 4) .no).there=true:=by
   rw [zag];split
   ·exact ht
   ·exact ht
  simp only [Prod.mk.injEq] at h
  obtain⟨rfl,rfl⟩:=h
  exact⟨hm.snoc hg,hI,fun c hc=>by
   cases hc
   exact⟨ht2,(hg.2 (j % 4) (by omega)).2 ht2⟩⟩
 ·rw [if_neg ht] at h
  cases hf:qy fe m.net p with
  | mk o1 s =>
   rw [hf] at h hfile
   cases o1 with
   | none =>
    simp only [Prod.mk.injEq] at h
    obtain⟨rfl,rfl⟩:=h
    exact⟨hm,hfile,fun c hc=>by cases hc⟩
   | some came =>
    have hc:=hcame came s hf
    have hcm:=zif hw hf
    have hg:=hk.fill hc
    have ht2:((zb1 (yx proved m.needed p) came).getD (j % 4) .no).there=true:=by
     rw [zbt _ _ (by rw [hk.1,hc.1]) _ (by rw [hk.1];omega)]
     have hnf:((yx proved m.needed p).getD (j % 4) .no).fits≠true:=fun hfi=>ht ((hk.2 (j % 4) (by omega)).1 hfi)
     rw [if_neg hnf,hcm.there _ (by omega)]
     simpa using hkw
    have hg2:=hg.fitsAt hS.bare ht2
    have ht3:((qx (zb1 (yx proved m.needed p) came) (j % 4)).getD (j % 4) .no).there=true:=by
     rw [zag];split
     ·exact ht2
     ·exact ht2
    simp only [Prod.mk.injEq] at h
    obtain⟨rfl,rfl⟩:=h
    exact⟨hm.snoc hg2,hfile,fun c hc=>by
     cases hc
     exact⟨ht3,(hg2.2 (j % 4) (by omega)).2 ht3⟩⟩
structure Stp (fe:σ→List UInt8→(List UInt8×Bool)×σ)(proved:Mm)(size:Nat)(P:Nat→Ms σ→Prop):Prop where
 more:∀ k m,P k m→P (k+1) m
 step:∀ k m l j o m1,P k m→-1≤l→j < zz l size→xu fe proved size m l j=(o,m1)→P (k+1) m1
theorem Stp.le {proved:Mm}{size:Nat}{P:Nat→Ms σ→Prop}(h:Stp fe proved size P){k k':Nat}{m:Ms σ}(hk:k≤k')(hp:P k m):P k' m:=by
 obtain⟨d,rfl⟩:∃ d,k'=k+d:=⟨k' - k,by omega⟩
 induction d with
 | zero=>exact hp
 | succ d ih=>exact h.more _ _ (ih (by omega))
theorem zxr {proved:Mm}{size:Nat}{P:Nat→Ms σ→Prop}(hS:Stp fe proved size P)(hs:size < 2 ^ 63):∀(f k:Nat) (m m':Ms σ) (a n:Nat) (o:Sum (List UInt8) (List UInt8)),P k m→a+n≤size→1≤n→n≤2 ^ f→xf fe proved size (f+1) m a n=(o,m')→P (k+(yi size (f+1) a n).length) m':=by
 have base:∀(f k:Nat) (m m':Ms σ) (a n:Nat) (o:Sum (List UInt8) (List UInt8)),P k m→a+n≤size→1≤n→n / 4 ^ lvl n=1→xf fe proved size (f+1) m a n=(o,m')→P (k+(yi size (f+1) a n).length) m':=by
  intro f k m m' a n o hp hl h1 he h
  obtain⟨-,-,hiff⟩:=zb6 n h1 (by omega)
  have hj:=zjr a n (lvl n) size hl (hiff.1 he)
  rw [yi,if_pos he]
  cases hn:xu fe proved size m (lvl n:Nat) (a / 4 ^ lvl n) with
  | mk o1 m1 =>
   have:=hS.step k m _ _ _ _ hp (by omega) hj hn
   cases o1 with
   | inl e =>
    rw [zfn he hn] at h
    simp only [Prod.mk.injEq] at h
    obtain⟨-,rfl⟩:=h
    exact this
   | inr c =>
    rw [zhj he hn] at h
    simp only [Prod.mk.injEq] at h
    obtain⟨-,rfl⟩:=h
    exact this
 intro f
 induction f with
 | zero =>
  intro k m m' a n o hp hl h1 h2 h
  obtain rfl:n=1:=by omega
  exact base 0 k m m' a 1 o hp hl (by omega) (by decide) h
 | succ f ih =>
  intro k m m' a n o hp hl h1 h2 h
  by_cases he:n / 4 ^ lvl n=1
  ·exact base (f+1) k m m' a n o hp hl h1 he h
  ·have hn2:2≤n:=by
    rcases Nat.lt_or_ge n 2 with h | h
    ·exact absurd (by obtain rfl:n=1:=by omega
                      decide) he
    ·exact h
   obtain⟨k1,k2,k3,k4,k5,k6⟩:=jl n f hn2 h2
   rw [yi,if_neg he,List.length_append]
   cases e1:xf fe proved size (f+1) m a (kOf n) with
   | mk o1 m1 =>
    have p1:=ih k _ _ _ _ _ hp (by omega) k3 k1 e1
    cases o1 with
    | inl e =>
     rw [zfc he e1] at h
     simp only [Prod.mk.injEq] at h
     obtain⟨-,rfl⟩:=h
     exact hS.le (by omega) p1
    | inr x1 =>
     cases e2:xf fe proved size (f+1) m1 (a+kOf n) (n - kOf n) with
     | mk o2 m2 =>
      have p2:=ih _ _ _ _ _ _ p1 (by omega) k4 k2 e2
      cases o2 with
      | inl e =>
       rw [zea he e1 e2] at h
       simp only [Prod.mk.injEq] at h
       obtain⟨-,rfl⟩:=h
       exact hS.le (by omega) p2
      | inr x2 =>
       rw [zhd he e1 e2] at h
       simp only [Prod.mk.injEq] at h
       obtain⟨-,rfl⟩:=h
       exact hS.le (by omega) p2
theorem zmp {proved:Mm}{size:Nat}{P:Nat→Ms σ→Prop}(hS:Stp fe proved size P)(hs:size < 2 ^ 63):∀(ss:List (Nat×Nat)) (k:Nat) (m m':Ms σ) (o:Sum (List UInt8) (List (List UInt8))),P k m→(∀ s∈ss,s.1+s.2≤size∧1≤s.2)→yh fe proved size m ss=(o,m')→P (k+(ss.flatMap fun s=>yi size 64 s.1 s.2).length) m':=by
 intro ss
 induction ss with
 | nil =>
  intro k m m' o hp _ h
  simp only [yh,Prod.mk.injEq] at h
  obtain⟨-,rfl⟩:=h
  exact hp
 | cons s r ih =>
  intro k m m' o hp hl h
  obtain⟨h1,h2⟩:=hl s (by simp)
  rw [List.flatMap_cons,List.length_append]
  cases e1:xf fe proved size 64 m s.1 s.2 with
  | mk o1 m1 =>
   have p1:P (k+(yi size 64 s.1 s.2).length) m1:=zxr hS hs 63 k _ _ _ _ _ hp h1 h2 (by omega) e1
   cases o1 with
   | inl e =>
    rw [zf8 e1] at h
    simp only [Prod.mk.injEq] at h
    obtain⟨-,rfl⟩:=h
    exact hS.le (by omega) p1
   | inr x1 =>
    cases e2:yh fe proved size m1 r with
    | mk o2 m2 =>
     have p2:=ih _ _ _ _ p1 (fun s' hs'=>hl s' (by simp [hs'])) e2
     cases o2 with
     | inl e =>
      rw [zfy e1 e2] at h
      simp only [Prod.mk.injEq] at h
      obtain⟨-,rfl⟩:=h
      exact hS.le (by omega) p2
     | inr x2 =>
      rw [zf4 e1 e2] at h
      simp only [Prod.mk.injEq] at h
      obtain⟨-,rfl⟩:=h
      exact hS.le (by omega) p2
def Led (I:σ→Prop)(V:Pl→Nat→Pc→Prop)(cnt:σ→Int)(c0:Int)(k:Nat)(m:Ms σ):Prop:=GdM V m.needed∧I m.net∧cnt m.net≤c0+2*(k:Int)∧c0≤cnt m.net∧m.needed.length≤k
theorem zwo {I:σ→Prop}{V:Pl→Nat→Pc→Prop}{proved:Mm}{size:Nat}(hF:Fed fe I V size)(hp:GdM V proved)(cnt:σ→Int)(hc:∀ s p,cnt (fe s p).2=cnt s+1)(c0:Int):Stp fe proved size (Led I V cnt c0) where
 more:=fun k m h=>⟨h.1,h.2.1,by have:=h.2.2.1;omega,h.2.2.2.1,by have:=h.2.2.2.2;omega⟩
 step:=fun k m l j o m1 h hl hj e=>by
  obtain⟨g1,g2,g3,g4,g5⟩:=h
  obtain⟨f1,f2,-⟩:=zo2 hF e hp g1 g2 hl hj
  have c1:=zl5 cnt hc e
  have c2:=zph cnt hc e
  refine⟨f1,f2,?_,?_,?_⟩
  ·omega
  ·omega
  ·omega
theorem zpa (I:σ→Prop)(V:Pl→Nat→Pc→Prop)(cnt:σ→Int)(s:σ)(hI:I s):Led I V cnt (cnt s) 0 ⟨s,[]⟩:=⟨zb5 V,hI,by simp,Int.le_refl _,by simp⟩
end
end
end Go.Proofs.YtinhekmmdlhfkaaGreatDoor
