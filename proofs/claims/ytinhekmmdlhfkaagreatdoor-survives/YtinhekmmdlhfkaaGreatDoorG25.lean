import Derived.Test.YtinhekmmdlhfkaaGreatDoorG24
import Derived.Test.YtinhekmmdlhfkaaGreatDoorG01
import Derived.Test.YtinhekmmdlhfkaaGreatDoorG22
namespace Go.Proofs.YtinhekmmdlhfkaaGreatDoor
section
structure Cl where
 key:List UInt8
 size:Nat
 root:List UInt8
 room:Int
 proved:Mm
structure Er where
 n:Int
 p:List UInt8
def Er.cp:Er:=⟨3,[]⟩
def Er.old:Er:=⟨4,[]⟩
def Er.proof:Er:=⟨5,[]⟩
def Er.range:Er:=⟨2,[]⟩
def Er.tile (p:List UInt8):Er:=⟨6,p⟩
section
variable {σ : Type} (fe : σ → List UInt8 → (List UInt8 × Bool) × σ)
def jd (inc:List UInt8→Nat→Nat→List (List UInt8)→List UInt8→Bool)(c:Cl)(s:σ)(i:Nat):Sum Er (List UInt8×List (List UInt8))×Cl×σ :=
 match xu fe c.proved c.size ⟨s,[]⟩ (-1) i with
 | (.inl p,m)=>(.inl (.tile p),c,m.net)
 | (.inr own,m)=>match yh fe c.proved c.size m (xp 64 0 c.size i) with
  | (.inl p,m)=>(.inl (.tile p),c,m.net)
  | (.inr ps,m)=>if inc own.hash i c.size ps c.root then (.inr (own.entry,ps),{ c with proved:=ym c.room c.proved (jw c.size m.needed i own.hash) },m.net) else (.inl .proof,c,m.net)
def qi (con:Nat→Nat→List UInt8→List UInt8→List (List UInt8)→Bool)(c:Cl)(s:σ)(n:Nat)(r:List UInt8):Sum Er (List (List UInt8))×Mm×σ :=
 if n < c.size then (.inl .old,c.proved,s)
 else if n=c.size then (if r=c.root then (.inr [],c.proved,s) else (.inl .proof,c.proved,s))
 else if c.size=0 then (.inr [],c.proved,s)
 else match yh fe c.proved n ⟨s,[]⟩ (xr 64 c.size 0 n true) with
  | (.inl p,m)=>(.inl (.tile p),c.proved,m.net)
  | (.inr ps,m)=>if con c.size n c.root r ps then (.inr ps,ym c.room c.proved (zaq n m.needed c.size c.root),m.net) else (.inl .proof,c.proved,m.net)
def zdp (con:Nat→Nat→List UInt8→List UInt8→List (List UInt8)→Bool)(c:Cl)(s:σ)(o:Option (Nat×List UInt8)):Sum Er (List (List UInt8))×Cl×σ :=
 match o with
 | none=>(.inl .cp,c,s)
 | some (n,r)=>match qi fe con c s n r with
  | (.inl e,_,s1)=>(.inl e,c,s1)
  | (.inr ps,pr,s1)=>(.inr ps,{ c with size:=n,root:=r,proved:=pr },s1)
end
def zkx (key:List UInt8)(x:List UInt8×Bool)(o:Option (Nat×List UInt8)):Prop:=match o with
 | some (n,r)=>x.2=true∧jq x.1 key n r
 | none=>x.2=false∨∀ n r,¬ jq x.1 key n r
theorem zkx.yes {key d:List UInt8}{o:Option (Nat×List UInt8)}{n:Nat}{r:List UInt8}(h:zkx key (d,true) o)(hs:jq d key n r):o=some (n,r):=by
 cases o with
 | none =>
  rcases h with h | h
  ·simp at h
  ·exact absurd hs (h n r)
 | some x =>
  obtain⟨n',r'⟩:=x
  obtain⟨rfl,rfl⟩:=h.2.inj hs
  rfl
section
variable {σ : Type} {fe : σ → List UInt8 → (List UInt8 × Bool) × σ}
structure Tru (fe:σ→List UInt8→(List UInt8×Bool)×σ)(I:σ→Prop)(say:Say)(es:List (List UInt8))(size:Nat):Prop where
 tells:zps fe I say
 h20:∀ e∈es,e.length≤20
 le:size≤es.length
 lt:size < 2 ^ 63
 files:∀(l:Int) (j w:Nat),-1≤l→j < zz l size→zi size l j=(l,((j / 4:Nat):Int),(w:Int))→say (zdw (zi size l j))=some (zad es l (j / 4) w)
theorem zno (size:Nat)(l:Int)(j:Nat)(h:j < zz l size):∃ w:Nat,zi size l j=(l,((j / 4:Nat):Int),(w:Int))∧1≤w∧w≤4∧4*(j / 4)+w≤zz l size:=by
 refine⟨min (zz l size - j / 4*4) 4,?_,by omega,by omega,by omega⟩
 unfold zi
 simp only [Prod.mk.injEq,true_and]
 omega
theorem Tru.file {I:σ→Prop}{say:Say}{es:List (List UInt8)}{size:Nat}(h:Tru fe I say es size)(l:Int)(hl:-1≤l)(j:Nat)(hj:j < zz l size):∃ f,zmf say (zi size l j)=some f∧GdF (zap es) (zi size l j) f:=by
 obtain⟨w,e,w1,w4,hw⟩:=zno size l j hj
 have hle:=zhl l h.le
 obtain⟨f,hf,ht⟩:=zyc es h.h20 l hl (j / 4) w w1 w4 (by omega)
 have hc:=zh5 hf
 refine⟨f,?_,hc.len,fun k hk=>⟨fun hh=>by rw [hc.fits k] at hh;simp at hh,fun hh=>?_⟩⟩
 ·unfold zmf zmr
  rw [h.files l j w hl hj e,e]
  simp only
  rw [hf]
 ·rw [e]
  refine⟨ht k hk hh,?_⟩
  rw [hc.there k hk] at hh
  have:(k:Int) < w:=by simpa using hh
  unfold zc0
  simp only [Int.toNat_natCast]
  omega
theorem Tru.ctx {I:σ→Prop}{say:Say}{es:List (List UInt8)}{size:Nat}(h:Tru fe I say es size){proved:Mm}(hp:GdM (zap es) proved):Ctx fe I (zmf say) (zap es) (zok es) proved size :=
 ⟨h.tells.says_file,ze7 es,fun l j came hl hj e=>by
  obtain⟨f,e1,e2⟩:=h.file l hl j hj
  rw [e1] at e
  simp only [Option.some.injEq] at e
  rw [← e];exact e2,fun l j c _ hv=>zud es size l j c hv.1,hp⟩
theorem Tru.there {I:σ→Prop}{say:Say}{es:List (List UInt8)}{size:Nat}(h:Tru fe I say es size)(a n:Nat)(h1:a+n≤size)(h2:1≤n):∀ p∈yi size 64 a n,zmf say p.1≠none:=by
 intro p hp
 have:=h.lt
 obtain⟨l,j,rfl,-,hj,-⟩:=zdl size h.lt 63 a n h1 h2 (by omega) p hp
 obtain⟨f,e,-⟩:=h.file (l:Int) (by omega) j hj
 simp only
 rw [e];simp
theorem Tru.roots {I:σ→Prop}{say:Say}{es:List (List UInt8)}{size:Nat}(h:Tru fe I say es size){proved:Mm}(hp:GdM (zap es) proved)(ss:List (Nat×Nat))(m:Ms σ)(hm:GdM (zap es) m.needed)(hI:I m.net)(hs:∀ s∈ss,s.1+s.2≤size∧1≤s.2)(ha:∀ s∈ss,Al s.1 s.2):
  ∃ m',yh fe proved size m ss=(.inr (ss.map fun s=>yb (run es s)),m')∧GdM (zap es) m'.needed∧I m'.net∧jt fe proved size m (ss.flatMap fun s=>yi size 64 s.1 s.2) m':=by
 have hlt:=h.lt
 obtain⟨m',g1,g2,e | ⟨s,hs',p,e,hp',hT⟩⟩:=ztz (h.ctx hp) h.lt ss m hm hI hs
 ·have hx:(ss.map fun s=>zfo (zok es) size 64 s.1 s.2)=ss.map fun s=>yb (run es s):=by
   apply List.map_congr_left
   intro s hs'
   obtain⟨q1,q2⟩:=hs s hs'
   exact zuc es size h.le h.lt 63 s.1 s.2 q1 q2 (by omega) (ha s hs')
  rw [hx] at e
  exact⟨m',e,g1,g2,zdv h.lt ss m m' _ hs e⟩
 ·obtain⟨q1,q2⟩:=hs s hs'
  exact absurd hT (h.there s.1 s.2 q1 q2 p hp')
theorem zvk {I:σ→Prop}{say:Say}{es:List (List UInt8)}{c:Cl}(h:Tru fe I say es c.size)(hp:GdM (zap es) c.proved)(hn:InS c.size c.proved){s:σ}(hI:I s){i:Nat}(hi:i < c.size)(inc:List UInt8→Nat→Nat→List (List UInt8)→List UInt8→Bool)
  (hinc:inc (qu (es.getD i [])) i c.size ((xp 64 0 c.size i).map fun s=>yb (run es s)) c.root=true) :
  ∃ m,jt fe c.proved c.size ⟨s,[]⟩ (zm7 c.size i) m∧I m.net∧jd fe inc c s i=(.inr (es.getD i [],(xp 64 0 c.size i).map fun s=>yb (run es s)),{ c with proved:=ym c.room c.proved (jw c.size m.needed i (qu (es.getD i []))) },m.net) ∧
   GdM (zap es) (ym c.room c.proved (jw c.size m.needed i (qu (es.getD i []))))∧InS c.size (ym c.room c.proved (jw c.size m.needed i (qu (es.getD i [])))):=by
 have hlt:=h.lt
 have hle:=h.le
 have hj:i < zz (-1) c.size:=by simpa [zz] using hi
 have hnil:GdM (zap es) ([]:Mm):=zb5 _
 rcases zoc (fe:=fe) (proved:=c.proved) (m:=⟨s,[]⟩) (l:=-1) (j:=i) h.tells.says_file (ze7 es) (fun came e=>(h.ctx hp).told _ _ came (by omega) hj e) hp hnil hI hj with ⟨own,m1,e1,ht,hv,hg,hI1⟩ | ⟨m1,e1,e2,-,-⟩
 ·have ho:own.hash=qu (es.getD i [])∧own.entry=es.getD i []:=by
   have:=hv.1.1 rfl
   rw [zcr] at this
   exact this
  have hin:∀ s∈xp 64 0 c.size i,s.1+s.2≤c.size∧1≤s.2:=fun s hs=>by
   have:=zgp 64 0 c.size i (by omega) s hs
   omega
  obtain⟨m2,e2,g1,g2,hq⟩:=h.roots hp (xp 64 0 c.size i) m1 hg hI1 hin (z28 64 0 c.size i (by omega) (zqy _))
  have hS:jt fe c.proved c.size ⟨s,[]⟩ (zm7 c.size i) m2:= .cons hj e1 hq
  have hE:=zvt es c.size m2.needed i (qu (es.getD i [])) g1 (by omega) rfl
  refine⟨m2,hS,g2,?_,zcv c.room _ _ hp hE.2,InS.remember c.room _ _ hn ?_⟩
  ·unfold jd
   rw [e1]
   simp only
   rw [e2]
   simp only
   rw [ho.1,ho.2,hinc]
   rfl
  ·refine InS.keys (a:=m2.needed) ?_ (zc7 ..)
   intro x hx
   rcases hS.keys hp.wf (zb5 _) x hx with ⟨y,hy,-⟩ | ⟨q,hq',e⟩
   ·simp at hy
   ·rw [← e]
    rcases List.mem_cons.1 hq' with rfl | hq'
    ·exact zdf ..
    ·obtain⟨sp,h1,h2⟩:=List.mem_flatMap.1 hq'
     obtain⟨q1,q2⟩:=hin sp h1
     obtain⟨l,j,rfl,-⟩:=zdl c.size hlt 63 sp.1 sp.2 q1 q2 (by omega) q h2
     exact zdf ..
 ·exfalso
  obtain⟨f,e,-⟩:=h.file (-1) (by omega) i hj
  rw [e] at e2
  simp at e2
theorem zrd {I:σ→Prop}{say:Say}{es:List (List UInt8)}{c:Cl}{n:Nat}(h:Tru fe I say es n)(hp:GdM (zap es) c.proved)(hn:InS c.size c.proved){s:σ}(hI:I s)(hr:c.root=yb (es.take c.size))(hc:c.size≤n)(con:Nat→Nat→List UInt8→List UInt8→List (List UInt8)→Bool)
  (hcon:0 < c.size→c.size < n→con c.size n c.root (yb (es.take n)) ((xr 64 c.size 0 n true).map fun s=>yb (run es s))=true) :
  ∃ pr s',qi fe con c s n (yb (es.take n))=(.inr (if 0 < c.size∧c.size < n then (xr 64 c.size 0 n true).map (fun s=>yb (run es s)) else []),pr,s')∧GdM (zap es) pr∧InS n pr∧I s'∧((pr=c.proved∧s'=s)∨∃ m2,jt fe c.proved n ⟨s,[]⟩ ((xr 64 c.size 0 n true).flatMap fun s=>yi n 64 s.1 s.2) m2∧pr=ym c.room c.proved (zaq n m2.needed c.size c.root)∧s'=m2.net∧0 < c.size):=by
 have hlt:=h.lt
 have hle:=h.le
 unfold qi
 rw [if_neg (by omega)]
 by_cases e1:n=c.size
 ·rw [if_pos e1,if_pos (by rw [hr,e1]),if_neg (by omega)]
  exact⟨_,_,rfl,hp,e1▸hn,hI,.inl ⟨rfl,rfl⟩⟩
 ·rw [if_neg e1]
  by_cases e0:c.size=0
  ·rw [if_pos e0,if_neg (by omega)]
   exact⟨_,_,rfl,hp,hn.more (by omega),hI,.inl ⟨rfl,rfl⟩⟩
  ·rw [if_neg e0,if_pos (by omega)]
   have hin:∀ s∈xr 64 c.size 0 n true,s.1+s.2≤n∧1≤s.2:=fun s hs=>by
    have:=zgg 64 c.size 0 n true (by omega) (by omega) (by omega) (by omega) s hs
    omega
   obtain⟨m2,e2,g1,g2,hq⟩:=h.roots hp (xr 64 c.size 0 n true) ⟨s,[]⟩ (zb5 _) hI hin (z09 64 c.size 0 n true (by omega) (by omega) (by omega) (zqy _))
   rw [e2]
   simp only
   rw [hcon (by omega) (by omega)]
   have hO:=zvx es n m2.needed c.size c.root g1 (by omega) (by omega) (by omega) hr (zlr hlt (by omega) (by omega) hp.wf hn hq)
   refine⟨_,_,rfl,zcv c.room _ _ hp hO.2,InS.remember c.room _ _ (hn.more hc) ?_,g2,.inr ⟨m2,hq,rfl,rfl,by omega⟩⟩
   refine InS.keys (a:=m2.needed) ?_ (zc9 ..)
   intro x hx
   rcases hq.keys hp.wf (zb5 _) x hx with ⟨y,hy,-⟩ | ⟨q,hq',e⟩
   ·simp at hy
   ·rw [← e]
    obtain⟨sp,h1,h2⟩:=List.mem_flatMap.1 hq'
    obtain⟨q1,q2⟩:=hin sp h1
    obtain⟨l,j,rfl,-⟩:=zdl n hlt 63 sp.1 sp.2 q1 q2 (by omega) q h2
    exact zdf ..
theorem z2m (room:Int)(h:room≤0)(p:Pl)(f:Fl):Mm.put room [] p f=[]:=by
 unfold Mm.put Mm.drop
 rw [if_pos (by simp;omega)]
 rfl
theorem zhz (room:Int)(h:room≤0):∀ nd:Mm,ym room [] nd=[]
 | []=>rfl
 | x::nd=>by
  show ym room (Mm.put room [] x.1 (zip x.2)) nd=[]
  rw [z2m room h]
  exact zhz room h nd
theorem z2b (m:Mm)(h:m.length≤1)(p:Pl)(f:Fl):m.put 1 p f=[(p,f)]:=by
 have hd:(m.drop p).length≤1:=Nat.le_trans (List.length_filter_le ..) h
 unfold Mm.put
 match hm:m.drop p,hd with
 | [],_=>rfl
 | [y],_=>rfl
theorem zg3:∀(nd pr:Mm),pr.length≤1→(ym 1 pr nd).length≤1
 | [],pr,h=>h
 | x::nd,pr,h=>by
  show(ym 1 (pr.put 1 x.1 (zip x.2)) nd).length≤1
  exact zg3 nd _ (by rw [z2b pr h];simp)
def z5r (room:Int)(m:Mm):Prop:=(room≤0→m=[])∧(room=1→m.length≤1)
theorem z5r.remember {room:Int}{m:Mm}(h:z5r room m)(nd:Mm):z5r room (ym room m nd) :=
 ⟨fun hr=>by rw [h.1 hr];exact zhz room hr nd,fun hr=>by subst hr;exact zg3 nd m (h.2 rfl)⟩
theorem zph (cnt:σ→Int)(hc:∀ s p,cnt (fe s p).2=cnt s+1){proved:Mm}{size:Nat}{m m1:Ms σ}{l:Int}{j:Nat}{o:Sum (List UInt8) Pc}(h:xu fe proved size m l j=(o,m1)):
  cnt m.net≤cnt m1.net∧(((yx proved m.needed (zi size l j)).getD (j % 4) .no).there=false→cnt m.net < cnt m1.net):=by
 have hpl:∀ s p,cnt (yw fe s p).2=cnt s+1:=fun s p=>hc s _
 have hfl:∀ s p,cnt s < cnt (qy fe s p).2:=by
  intro s p
  have a1:=hpl s p
  unfold qy
  cases e1:yw fe s p with
  | mk o s1 =>
   rw [e1] at a1
   simp only at a1
   cases o with
   | some f=>simp only;omega
   | none =>
    simp only
    split
    ·simp only;omega
    ·have a2:=hpl s1 (p.1,p.2.1,4)
     cases e2:yw fe s1 (p.1,p.2.1,4) with
     | mk o2 s2 =>
      rw [e2] at a2
      simp only at a2
      cases o2<;>simp only<;>omega
 unfold xu at h
 by_cases ht:((yx proved m.needed (zi size l j)).getD (j % 4) .no).there=true
 ·rw [if_pos ht] at h
  simp only [Prod.mk.injEq] at h
  obtain⟨-,rfl⟩:=h
  exact⟨Int.le_refl _,fun hh=>by rw [ht] at hh;simp at hh⟩
 ·rw [if_neg ht] at h
  have a1:=hfl m.net (zi size l j)
  cases hf:qy fe m.net (zi size l j) with
  | mk o s =>
   rw [hf] at h a1
   cases o with
   | none =>
    simp only [Prod.mk.injEq] at h
    obtain⟨-,rfl⟩:=h
    simp only at *
    exact⟨by omega,fun _=>by omega⟩
   | some came =>
    simp only [Prod.mk.injEq] at h
    obtain⟨-,rfl⟩:=h
    simp only at *
    exact⟨by omega,fun _=>by omega⟩
theorem jt.cnt {proved:Mm}{size:Nat}{m m':Ms σ}{ps:List (Pl×Nat)}(h:jt fe proved size m ps m')(cnt:σ→Int)(hc:∀ s p,cnt (fe s p).2=cnt s+1):cnt m.net≤cnt m'.net:=by
 induction h using jt.ind with
 | nil m=>exact Int.le_refl _
 | cons hj e _ ih =>
  have:=(zph cnt hc e).1
  omega
end
end
section
def zaa (fs:Fs)(es:List (List UInt8))(size:Nat):Prop:=∀ f∈xj (es.take size),zx fs f.1=some f.2
theorem zh9 (fs:Fs)(n:Nt)(h:n.lies=[])(p:List UInt8):zq fs n p=(match zx fs p with
 | some d=>((d,true),{ n with fetches:=n.fetches+1 })
 | none=>(([],false),{ n with fetches:=n.fetches+1 })):=by
 unfold zq
 have:zfs n p=none:=by unfold zfs;rw [h];rfl
 simp only [this]
 cases zx fs p<;>rfl
theorem zby (fs:Fs)(n:Nt)(p:List UInt8):(zq fs n p).2.fetches=n.fetches+1:=by
 unfold zq
 split
 ·rfl
 ·split<;>rfl
theorem zs9 (fs:Fs):zps (zq fs) (fun n=>n.lies=[]) (zx fs):=by
 refine⟨fun n p h=>?_,fun n p h=>?_⟩
 ·rw [zh9 fs n h]
  cases zx fs p<;>rfl
 ·rw [zh9 fs n h]
  cases zx fs p<;>exact h
theorem zoq {fs:Fs}{es:List (List UInt8)}{size:Nat}(h20:∀ e∈es,e.length≤20)(hle:size≤es.length)(hlt:size < 4 ^ 21)(h:zaa fs es size):Tru (zq fs) (fun n=>n.lies=[]) (zx fs) es size:=by
 have h63:size < 2 ^ 63:=Nat.lt_of_lt_of_le hlt (by decide)
 refine⟨zs9 fs,h20,hle,h63,fun l j w hl hj e=>?_⟩
 have hlen:(es.take size).length=size:=by simp;omega
 have hL:l≤20:=by
  rcases Int.lt_or_le 20 l with h' | h'
  ·exfalso
   have h1:4 ^ 21≤4 ^ l.toNat:=Nat.pow_le_pow_right (by omega) (by omega)
   have h2:zz l size=0:=by unfold zz;exact Nat.div_eq_of_lt (by omega)
   omega
  ·exact h'
 have hw:wid (zz l size) (j / 4)=w:=by
  unfold zi at e
  simp only [Prod.mk.injEq,true_and] at e
  unfold wid
  omega
 have hc:4*(j / 4)+w≤zz l size:=by unfold wid at hw;omega
 have hmem:jx (es.take size) l (zz l size) (j / 4)∈xj (es.take size):=by
  rw [jh,hlen]
  exact⟨l,j / 4,⟨hl,hL⟩,by omega,rfl⟩
 have:=h _ hmem
 unfold jx at this
 simp only at this
 rw [hw,zat es size l (j / 4) w hc hle] at this
 rw [e]
 exact this
theorem zaa.went {es more:List (List UInt8)}{size:Nat}{fs fs':Fs}{W:Fs}{c:List UInt8}(h:zaa fs es size)(hw:zek W c fs fs')(hle:size≤es.length):zaa fs' (es++more) size:=by
 intro f hf
 rw [List.take_append_of_le_length hle] at hf
 refine hw.stays (h f hf) ?_
 obtain⟨l,j,-,-,rfl⟩:=jh.1 hf
 exact zgc
def vw (fs:Fs)(es:List (List UInt8)):Prop:=∀ q x,zx fs q=some x→q=cpF∨∃ n,n≤es.length∧(q,x)∈xj (es.take n)
theorem vw.more {fs:Fs}{es:List (List UInt8)}(h:vw fs es)(more:List (List UInt8)):vw fs (es++more):=by
 intro q x hq
 rcases h q x hq with h | ⟨n,h1,h2⟩
 ·exact .inl h
 ·exact .inr ⟨n,by simp;omega,by rw [List.take_append_of_le_length h1];exact h2⟩
theorem vw.went {fs fs':Fs}{es:List (List UInt8)}{c:List UInt8}(h:vw fs es)(hw:zek (xj es) c fs fs'):vw fs' es:=by
 intro q x hq
 rcases hw q with h1 | ⟨h1,h2⟩ | h1
 ·rw [h1] at hq;exact h q x hq
 ·obtain⟨y,hy,e⟩:=h2
  rw [hq] at e
  simp only [Option.some.injEq] at e
  exact .inr ⟨es.length,Nat.le_refl _,by rw [List.take_length,e];exact hy⟩
 ·exact .inl h1.1
theorem vw.noClash {fs:Fs}{es:List (List UInt8)}(h:vw fs es)(hl:es.length≤1000000):ve fs (xj es):=by
 intro q x hx
 cases hq:zx fs q with
 | none=>exact .inl rfl
 | some y =>
  right
  rcases h q y hq with rfl | ⟨n,hn,hy⟩
  ·exact absurd hx ((zho hl).2 x)
  ·obtain⟨l,j,h1,h2,h3⟩:=jh.1 hx
   obtain⟨l',j',h1',h2',h3'⟩:=jh.1 hy
   unfold jx at h3 h3'
   simp only [Prod.mk.injEq] at h3 h3'
   have hlen:(es.take n).length=n:=by simp;omega
   rw [hlen] at h2' h3'
   have c1:=zc2 l es.length
   have c2:=zc2 l' n
   obtain⟨rfl,ej,ew⟩:=zhr (zdg h1 h2) (zdg h1' h2') (by omega) (by omega) (h3.1.symm.trans h3'.1)
   have ej':j=j':=by omega
   subst ej'
   have ew':wid (zz l es.length) j=wid (zz l n) j:=by omega
   rw [h3.2,h3'.2,ew',zat es n l j _ (by unfold wid;omega) hn]
end
section
set_option maxHeartbeats 4000000
open Go.RowKit
set_option maxRecDepth 100000
attribute [local go_sem ↓] yq yk yt yp yn yo yu yl
structure NSt (d:Dk)(n:Nt):Prop where
 nf:d.fs.length≤1000000000
 fl:∀ f∈d.fs,f.2.length≤1000000000
 ly:∀ l∈n.lies,l.data.length≤1000000000
 ll:n.lies.length≤1000000000
 fe:0≤n.fetches
 td:∀ t∈n.told,0≤t∧t≤n.fetches
theorem NSt.ok {d:Dk}{n:Nt}(h:NSt d n)(hf:n.fetches < 4611686018427387904):NOk d n :=
 ⟨h.nf,h.fl,h.ly,h.ll,⟨h.fe,hf⟩,fun t ht=>⟨(h.td t ht).1,by have:=(h.td t ht).2;omega⟩⟩
theorem NSt.step {d:Dk}{n:Nt}(h:NSt d n)(p:List UInt8):NSt d (zq d.fs n p).2:=by
 have hfe:=h.fe
 unfold zq
 split
 ·rename_i k hk
  refine⟨h.nf,h.fl,h.ly,h.ll,by show 0≤n.fetches+1;omega,fun t ht=>?_⟩
  simp only at ht ⊢
  rcases List.mem_or_eq_of_mem_set ht with ht | rfl
  ·have:=h.td t ht;omega
  ·have hg:0≤n.told.getD k 0∧n.told.getD k 0≤n.fetches:=by
    by_cases hk2:k < n.told.length
    ·rw [List.getD_eq_getElem?_getD,List.getElem?_eq_getElem hk2]
     exact h.td _ (List.getElem_mem hk2)
    ·rw [List.getD_eq_getElem?_getD,List.getElem?_eq_none (by omega)]
     exact⟨Int.le_refl _,hfe⟩
   omega
 ·split
  ·exact⟨h.nf,h.fl,h.ly,h.ll,by show 0≤n.fetches+1;omega,fun t ht=>by have:=h.td t ht;show 0≤t∧t≤n.fetches+1;omega⟩
  ·exact⟨h.nf,h.fl,h.ly,h.ll,by show 0≤n.fetches+1;omega,fun t ht=>by have:=h.td t ht;show 0≤t∧t≤n.fetches+1;omega⟩
theorem NSt.place {d:Dk}{n:Nt}(h:NSt d n)(p:Pl):NSt d (yw (zq d.fs) n p).2:=h.step _
theorem NSt.file {d:Dk}{n:Nt}(h:NSt d n)(p:Pl):NSt d (qy (zq d.fs) n p).2:=by
 cases hp:(yw (zq d.fs) n p).1 with
 | some f=>rw [zia hp];exact h.place p
 | none =>
  by_cases h4:p.2.2=4
  ·rw [zgk hp h4];exact h.place p
  ·rw [zh3 hp h4];exact(h.place p).place _
theorem zhp (fs:Fs)(n:Nt)(p:Pl):(yw (zq fs) n p).2.fetches=n.fetches+1:=zby fs n _
theorem zi0 (fs:Fs)(n:Nt)(p:Pl):n.fetches+1≤(qy (zq fs) n p).2.fetches∧(qy (zq fs) n p).2.fetches≤n.fetches+2:=by
 have a1:=zhp fs n p
 cases hp:(yw (zq fs) n p).1 with
 | some f=>rw [zia hp];simp only;omega
 | none =>
  by_cases h4:p.2.2=4
  ·rw [zgk hp h4];simp only;omega
  ·rw [zh3 hp h4]
   have a2:=zhp fs (yw (zq fs) n p).2 (p.1,p.2.1,4)
   simp only
   omega
theorem zv7 (b k:Nat)(h0:0 < k)(h4:k < 4)(w:World):(Instr.sliceAt 130 (.pointer (some ⟨b,0,none⟩)) (some (.int .i64 k)) none none).run Tryz.prog w= .ok (.slice (some ⟨b,k*11,none⟩) (4 - k) (4 - k)) w:=by
 match k,h0,h4 with
 | 1,_,_=>simp [go_sem,Tryz.underlying130]
 | 2,_,_=>simp [go_sem,Tryz.underlying130]
 | 3,_,_=>simp [go_sem,Tryz.underlying130]
theorem z57 {xs:List Px}(h:FOk xs){k:Nat}(hk:k≤4):FOk (xs.take k++List.replicate (4 - k) .no):=by
 refine⟨by simp [h.1];omega,fun x hx=>?_⟩
 rcases List.mem_append.1 hx with hx | hx
 ·exact h.2 x (List.mem_of_mem_take hx)
 ·exact zt0 _ x hx
abbrev qw:Nat:=142
theorem zz3 (W0:World)(at_:Nat→Addr)(O:Nat→Prop)(nb db cb:Nat)(n:Nt)(d:Dk)(l ix:Int)(k:Nat)(hk0:0 < k)(hk:k≤4)(hix:ix≤9223372036854775807)(w:World)(hW:Below W0.heap.size W0 w)(hE:Env W0)(hS:qm W0 at_)
  (hO:∀ b,O b→W0.heap.size≤b) (hok:NSt d n) (hfin:(qy (zq d.fs) n (l,ix,(k:Int))).2.fetches < 4611686018427387904) (hD:zm w O db d) (hN:j5 w O nb db n) (C:Array Value) (hc:w.heap[cb]?=some (.cells C qw (0,0))) (hC:C[2]?=some (znk nb)) :
  Calls Tryz.prog 151 #[zt cb,plV (l,ix,k)] w fun r w'=>zf O nT w w'∧j5 w' O nb db (qy (zq d.fs) n (l,ix,k)).2∧z9f at_ w.heap.size (yr l ix k) w' (qy (zq d.fs) n (l,ix,k)).1 r:=by
 have hfi:=(zi0 d.fs n (l,ix,(k:Int))).1
 have H0:Hid (Below w.heap.size w ((w.alloc (.cells #[.int .i64 l,.int .i64 ix,.int .i64 k] 126)).alloc (.cells qh zr))∧((w.alloc (.cells #[.int .i64 l,.int .i64 ix,.int .i64 k] 126)).alloc (.cells qh zr)).heap[w.heap.size]?=some (.cells #[.int .i64 l,.int .i64 ix,.int .i64 k] 126 (0,0))∧zn ((w.alloc (.cells #[.int .i64 l,.int .i64 ix,.int .i64 k] 126)).alloc (.cells qh zr)) (w.heap.size+1) Fx.no):=by
  refine⟨zw _ _ _,zc (heap_alloc_last _ _),?_⟩
  have:=heap_alloc_last (w.alloc (.cells #[.int .i64 l,.int .i64 ix,.int .i64 k] 126)) (.cells qh zr)
  rw [show(w.alloc (.cells #[.int .i64 l,.int .i64 ix,.int .i64 k] 126)).heap.size=w.heap.size+1 by simp] at this
  exact this
 have HW:=za hW
 have HE:=za hE
 have HS:=za hS
 have HO:=za hO
 have HOK:=za hok
 have HFIN:=za hfin
 have HD:=za hD
 have HN:=za hN
 have HC:=za hc
 have HC2:=za hC
 have hlt:n.fetches < 4611686018427387904:=by omega
 have HLT:=za hlt
 clear hW hE hS hO hok hD hN hc hC hfin hfi hlt
 unfold plV
 simp only
 unfold zt
 go_enter Tryz.func151,Tryz.ntmps151
 go_wp2_with fail
 generalize (w.alloc (.cells #[.int .i64 l,.int .i64 ix,.int .i64 k] 126)).alloc (.cells qh zr)=W1 at *
 have hW1:Below W0.heap.size W0 W1:=HW.o.trans (H0.o.1.mono HW.o.size)
 have hT1:zf O nT w W1:= .of_below H0.o.1
 have HC1:Hid (W1.heap[cb]?=some (.cells C qw (0,0))):=hT1.keep HC.o (by decide)
 have HF:=za (zmv W0 at_ O nb db cb n d l ix k hk0 hk hix W1 hW1 HE.o HS.o HO.o (HOK.o.ok HLT.o) (HD.o.stay hT1 (by decide) (by decide)) (HN.o.below H0.o.1) (by obtain⟨x,-⟩:=zg HC1.o 2 _ HC2.o;exact x))
 have HT1:=za hT1
 have HB1:=za H0.o.1
 have HP1:=za H0.o.2
 have HPC:=za (zhp d.fs n (l,ix,(k:Int)))
 have HSP:=za (HOK.o.place (l,ix,(k:Int)))
 have HW1:=za hW1
 have HM1:Hid (∀ f,(yw (zq d.fs) n (l,ix,(k:Int))).1=some f→qy (zq d.fs) n (l,ix,(k:Int))=(some f,(yw (zq d.fs) n (l,ix,(k:Int))).2)):=fun f h=>zia h
 have HM2:Hid ((yw (zq d.fs) n (l,ix,(k:Int))).1=none→k=4→qy (zq d.fs) n (l,ix,(k:Int))=(none,(yw (zq d.fs) n (l,ix,(k:Int))).2)):=fun h h4=>zgk h (by show(k:Int)=4;omega)
 have HM3:Hid ((yw (zq d.fs) n (l,ix,(k:Int))).1=none→k≠4→qy (zq d.fs) n (l,ix,(k:Int))=(((yw (zq d.fs) (yw (zq d.fs) n (l,ix,(k:Int))).2 (l,ix,4)).1).map (zft k),(yw (zq d.fs) (yw (zq d.fs) n (l,ix,(k:Int))).2 (l,ix,4)).2)):=fun h h4=>zh3 h (by show(k:Int)≠4;omega)
 unfold plV zt at HF
 simp only at HF
 generalize hPN:yr l ix k=pn at *
 generalize hFM:qy (zq d.fs) n (l,ix,(k:Int))=FM at *
 have HFM:=za hFM
 have HPN:=za hPN
 generalize hPM:yw (zq d.fs) n (l,ix,(k:Int))=PM at *
 obtain⟨o1,n1⟩:=PM
 simp only at *
 clear hPM hPN hFM H0 hW1 hT1
 go_wp2_with fail
 refine HF.o.mono ?_
 rintro r w2 ⟨ht2,hN2,hg2⟩
 have hT2:zf O nT w w2:=HT1.o.trans (ht2.mono (fun _ h=> .inl h) (fun _ h=>h))
 have HT2:=za hT2
 have hp2:w2.heap[w.heap.size]?=some (.cells #[.int .i64 l,.int .i64 ix,.int .i64 k] 126 (0,0)):=ht2.keep HP1.o.1 (by decide)
 have hf2:zn w2 (w.heap.size+1) Fx.no:=ht2.keep HP1.o.2 (by decide)
 have HP2:=za hp2
 have HF2:=za hf2
 have HN2:=za hN2
 have HW2:Hid (Below W0.heap.size W0 w2):=HW1.o.trans (ht2.below HO.o HW1.o.size)
 have HC2':Hid (w2.heap[cb]?=some (.cells C qw (0,0))):=ht2.keep HC1.o (by decide)
 have HZ:Hid (w.heap.size≤W1.heap.size):=HB1.o.size
 have hw2:w.heap.size+1 < w2.heap.size:=zb hf2
 clear ht2 hN2 hT2 HF
 have HG:Hid (∀ xs,FOk xs→(zcd (.pointer (some ⟨w2.heap.size,0,none⟩)) (.agg (fcs xs).toArray)).run Tryz.prog (w2.alloc (.cells qh zr))= .ok () ((w2.alloc (.cells qh zr)).setCells w2.heap.size 0 (fcs xs))∧zn ((w2.alloc (.cells qh zr)).setCells w2.heap.size 0 (fcs xs)) w2.heap.size xs∧Below w2.heap.size w2 ((w2.alloc (.cells qh zr)).setCells w2.heap.size 0 (fcs xs))):=by
  intro xs hx
  have hf4:zn (w2.alloc (.cells qh zr)) w2.heap.size Fx.no:=heap_alloc_last _ _
  exact⟨qc (xg hf4 Fx.no_ok) hx.len (ji hx.2),xt hf4 Fx.no_ok hx,zu (ze _ _) (Nat.le_refl _) _ _⟩
 rcases hg2 with ⟨xs,f,rfl,hxk,hxi,rfl⟩ | ⟨rfl,g,hgs,hgb,rfl⟩
 ·have hm:=HM1.o f rfl
  subst hm
  simp only
  obtain⟨hst1,hf5,hb5⟩:=HG.o xs hxk
  have HF5:=za hf5
  have HB5:=za hb5
  have HXK:=za hxk
  have HXI:=za hxi
  clear hf5 hb5 hxk hxi HM1 HM2 HM3 HG
  have hgt:((w2.alloc (.cells qh zr)).setCells w2.heap.size 0 (fcs xs)).cell? ⟨6,0,none⟩=some (.iface 326 (.pointer (some (at_ 5)))):=by
   have hb0:=HW2.o.trans (HB5.o.mono HW2.o.size)
   exact(HS.o.below hb0).tile
  go_wp2_with fail
  generalize (w2.alloc (.cells qh zr)).setCells w2.heap.size 0 (fcs xs)=W5 at *
  have hp5:W5.heap[w.heap.size]?=some (.cells #[.int .i64 l,.int .i64 ix,.int .i64 k] 126 (0,0)):=(HB5.o.block _ (zb HP2.o)).trans HP2.o
  have hf5:zn W5 (w.heap.size+1) Fx.no:=(HB5.o.block _ (zb HF2.o)).trans HF2.o
  have hld:=vy (yv HF5.o) HXK.o.len
  have hst2:=qc (xg hf5 Fx.no_ok) HXK.o.len (ji HXK.o.2)
  have HW6:=za (xt hf5 Fx.no_ok HXK.o)
  have HT5:=za (HT2.o.then_below HB5.o)
  have HT6:=za (HT5.o.setCellsNew (Nat.le_succ w.heap.size) (fcs xs) 0)
  have HTN:=za ((zf.refl (fun b=>b=w.heap.size+1) [zr] _).setCells (.inl rfl) hf5 (by simp) (fcs xs) 0)
  have HN5:=za (HN2.o.below HB5.o)
  have HX5:=za (HXI.o.below HB5.o)
  clear hf5 hp5
  refine(z8u (at_ 5) W5).mono ?_
  rintro r w6 ⟨rfl,rfl⟩
  go_wp2_with fail
  refine bodyPost_ret (v:= .tuple #[.agg (fcs xs).toArray,.nilIface]) (zy Tryz.results151 _ _ (w.heap.size+1) zr _ (0,0) _ rfl HW6.o Tryz.underlying130 rfl (by rw [jk,List.size_toArray,HXK.o.len]) _ rfl) rfl ⟨HT6.o,by rw [HFM.o];exact HN5.o.turn HTN.o (by decide) (by decide) (by decide),by rw [HFM.o,HPN.o];exact .inl ⟨xs,f,rfl,HXK.o,HX5.o.turn HTN.o (by decide),rfl⟩⟩
 ·obtain⟨hst1,hf5,hb5⟩:=HG.o Fx.no Fx.no_ok
  have HF5:=za hf5
  have HB5:=za hb5
  have HGB:=za hgb
  have HGS:=za hgs
  clear hf5 hb5 HG hgb hgs HM1
  have hgt:((w2.alloc (.cells qh zr)).setCells w2.heap.size 0 (fcs Fx.no)).cell? ⟨6,0,none⟩=some (.iface 326 (.pointer (some (at_ 5)))):=by
   have hb0:=HW2.o.trans (HB5.o.mono HW2.o.size)
   exact(HS.o.below hb0).tile
  go_wp2_with fail
  generalize (w2.alloc (.cells qh zr)).setCells w2.heap.size 0 (fcs Fx.no)=W5 at *
  have HG5:Hid (W5.heap[g]?=some (.cells #[txv pn,jo at_ 5] 115 (0,0))):=(HB5.o.block _ (zb HGB.o)).trans HGB.o
  have hp5:W5.heap[w.heap.size]?=some (.cells #[.int .i64 l,.int .i64 ix,.int .i64 k] 126 (0,0)):=(HB5.o.block _ (zb HP2.o)).trans HP2.o
  have HFR:Hid (zn W5 (w.heap.size+1) Fx.no):=(HB5.o.block _ (zb HF2.o)).trans HF2.o
  have HT5:=za (HT2.o.then_below HB5.o)
  have HN5:=za (HN2.o.below HB5.o)
  have HC5:Hid (W5.heap[cb]?=some (.cells C qw (0,0))):=(HB5.o.block _ (zb HC2'.o)).trans HC2'.o
  have HW5:Hid (Below W0.heap.size W0 W5):=HW2.o.trans (HB5.o.mono HW2.o.size)
  have HD5:Hid (zm W5 O db d):=HD.o.stay HT5.o (by decide) (by decide)
  have p0:W5.cell? ⟨w.heap.size,0,none⟩=some (.int .i64 l):=(zg hp5 0 _ rfl).1
  have p1:W5.cell? ⟨w.heap.size,1,none⟩=some (.int .i64 ix):=(zg hp5 1 _ rfl).1
  have p2:W5.cell? ⟨w.heap.size,2,none⟩=some (.int .i64 k):=(zg hp5 2 _ rfl).1
  have HP5:=za hp5
  clear hp5
  by_cases h4:k=4
  ·have hm:=HM2.o trivial h4
   subst hm
   have p2':W5.cell? ⟨w.heap.size,2,none⟩=some (.int .i64 4):=by rw [p2,h4];rfl
   clear p2
   have hld:=vy (yv HF5.o) Fx.no_ok.len
   have hst2:=qc (xg HFR.o Fx.no_ok) Fx.no_ok.len (ji Fx.no_ok.2)
   have HW6:=za (xt HFR.o Fx.no_ok Fx.no_ok)
   have HT6:=za (HT5.o.setCellsNew (Nat.le_succ w.heap.size) (fcs Fx.no) 0)
   have HTN:=za ((zf.refl (fun b=>b=w.heap.size+1) [zr] _).setCells (.inl rfl) HFR.o (by simp) (fcs Fx.no) 0)
   refine(zqc g (at_ 5) W5 (by exact(zg HG5.o 1 _ rfl).1)).mono ?_
   rintro r w6 ⟨rfl,rfl⟩
   go_wp2_with fail
   refine bodyPost_ret (v:= .tuple #[.agg (fcs Fx.no).toArray,xm g]) (zy Tryz.results151 _ _ (w.heap.size+1) zr _ (0,0) _ rfl HW6.o Tryz.underlying130 rfl (by rw [jk,List.size_toArray,Fx.no_ok.len]) _ rfl) rfl ⟨HT6.o,by rw [HFM.o];exact HN5.o.turn HTN.o (by decide) (by decide) (by decide),by rw [HFM.o,HPN.o];exact .inr ⟨rfl,g,Nat.le_trans HZ.o HGS.o,HTN.o.keep HG5.o (by decide),rfl⟩⟩
  ·have hm:=HM3.o trivial h4
   subst hm
   have h4d:((k:Int)==4)=false:=by simpa using (by omega:¬(k:Int)=4)
   have HFI:=za HFIN.o
   have HF:=za (zmv W0 at_ O nb db cb n1 d l ix 4 (by omega) (by omega) hix W5 HW5.o HE.o HS.o HO.o (HSP.o.ok (by have:=HFIN.o;have:=zhp d.fs n1 (l,ix,(4:Int));simp only at *;omega)) HD5.o HN5.o (by obtain⟨x,-⟩:=zg HC5.o 2 _ HC2.o;exact x))
   have HK3:Hid (0 < k∧k < 4):=⟨hk0,by omega⟩
   clear HFIN HM2 HM3 hk0 hk h4
   unfold plV zt at HF
   simp only at HF
   rw [show((4:Nat):Int)=4 from rfl] at HF
   generalize hPM2:yw (zq d.fs) n1 (l,ix,(4:Int))=PM2 at *
   clear hPM2
   obtain⟨o2,n2⟩:=PM2
   simp only at *
   refine(zqc g (at_ 5) W5 (by exact(zg HG5.o 1 _ rfl).1)).mono ?_
   rintro r w6 ⟨rfl,rfl⟩
   go_wp2_with fail
   refine HF.o.mono ?_
   rintro r w7 ⟨ht7,hN7,hg7⟩
   have HT7:=za (HT5.o.trans (ht7.mono (fun _ h=> .inl h) (fun _ h=>h)))
   have HG7:Hid (w7.heap[g]?=some (.cells #[txv pn,jo at_ 5] 115 (0,0))):=ht7.keep HG5.o (by decide)
   have HP7:Hid (w7.heap[w.heap.size]?=some (.cells #[.int .i64 l,.int .i64 ix,.int .i64 k] 126 (0,0))):=ht7.keep HP5.o (by decide)
   have HFR7:Hid (zn w7 (w.heap.size+1) Fx.no):=ht7.keep HFR.o (by decide)
   have HN7:=za hN7
   clear ht7 hN7 p0 p1 p2 hgt HF
   have HG:Hid (∀ xs,FOk xs→(zcd (.pointer (some ⟨w7.heap.size,0,none⟩)) (.agg (fcs xs).toArray)).run Tryz.prog (w7.alloc (.cells qh zr))= .ok () ((w7.alloc (.cells qh zr)).setCells w7.heap.size 0 (fcs xs))∧zn ((w7.alloc (.cells qh zr)).setCells w7.heap.size 0 (fcs xs)) w7.heap.size xs∧Below w7.heap.size w7 ((w7.alloc (.cells qh zr)).setCells w7.heap.size 0 (fcs xs))):=by
    intro xs hx
    have hf4:zn (w7.alloc (.cells qh zr)) w7.heap.size Fx.no:=heap_alloc_last _ _
    exact⟨qc (xg hf4 Fx.no_ok) hx.len (ji hx.2),xt hf4 Fx.no_ok hx,zu (ze _ _) (Nat.le_refl _) _ _⟩
   rcases hg7 with ⟨xs,f,rfl,hxk,hxi,rfl⟩ | ⟨rfl,g2,hgs,hgb,rfl⟩
   ·obtain⟨hst8,hf8,hb8⟩:=HG.o xs hxk
    have HF8:=za hf8
    have HB8:=za hb8
    have HXK:=za hxk
    have HXI:=za hxi
    have p2:((w7.alloc (.cells qh zr)).setCells w7.heap.size 0 (fcs xs)).cell? ⟨w.heap.size,2,none⟩=some (.int .i64 k):=(zg ((hb8.block _ (zb HP7.o)).trans HP7.o) 2 _ rfl).1
    have hw7:w.heap.size+1 < w7.heap.size:=zb HFR7.o
    have hsl:=zv7 w7.heap.size k HK3.o.1 HK3.o.2 ((w7.alloc (.cells qh zr)).setCells w7.heap.size 0 (fcs xs))
    have hcl:=fun ty=>zzt HXK.o HK3.o.1 HK3.o.2 HF8.o (4 - k) ty
    have hc1:=fun ty=>(hcl ty).1
    have HF9:=za (hcl 0).2
    have hk9:=z57 hxk (Nat.le_of_lt HK3.o.2)
    have HK9:=za hk9
    have hld:=vy (yv HF9.o) hk9.len
    have HB9:Hid (Below w7.heap.size w7 (((w7.alloc (.cells qh zr)).setCells w7.heap.size 0 (fcs xs)).setCells w7.heap.size (k*11) (fcs (List.replicate (4 - k) .no)))):=zu HB8.o (Nat.le_refl _) _ _
    have hfr:zn (((w7.alloc (.cells qh zr)).setCells w7.heap.size 0 (fcs xs)).setCells w7.heap.size (k*11) (fcs (List.replicate (4 - k) .no))) (w.heap.size+1) Fx.no:=(HB9.o.block _ hw7).trans HFR7.o
    have hst9:=qc (xg hfr Fx.no_ok) hk9.len (ji hk9.2)
    have HW9:=za (xt hfr Fx.no_ok hk9)
    have HTN:=za ((zf.refl (fun b=>b=w.heap.size+1) [zr] _).setCells (.inl rfl) hfr (by simp) (fcs (xs.take k++List.replicate (4 - k) .no)) 0)
    have HT9:=za ((HT7.o.then_below HB9.o).setCellsNew (Nat.le_succ w.heap.size) (fcs (xs.take k++List.replicate (4 - k) .no)) 0)
    have HN9:=za (HN7.o.below HB9.o)
    have HX9:=za (z5v (HXI.o.below HB9.o) (Nat.le_of_lt HK3.o.2))
    clear hf8 hb8 hxk hxi HG hcl hk9 hfr
    go_wp2_with fail
    refine bodyPost_ret (v:= .tuple #[.agg (fcs (xs.take k++List.replicate (4 - k) .no)).toArray,.nilIface]) (zy Tryz.results151 _ _ (w.heap.size+1) zr _ (0,0) _ rfl HW9.o Tryz.underlying130 rfl (by rw [jk,List.size_toArray,HK9.o.len]) _ rfl) rfl ⟨HT9.o,by rw [HFM.o];exact HN9.o.turn HTN.o (by decide) (by decide) (by decide),by rw [HFM.o,HPN.o];exact .inl ⟨_,_,rfl,HK9.o,HX9.o.turn HTN.o (by decide),rfl⟩⟩
   ·obtain⟨hst8,hf8,hb8⟩:=HG.o Fx.no Fx.no_ok
    have HB8:=za hb8
    have hw7:w.heap.size+1 < w7.heap.size:=zb HFR7.o
    have hfr:zn ((w7.alloc (.cells qh zr)).setCells w7.heap.size 0 (fcs Fx.no)) (w.heap.size+1) Fx.no:=(hb8.block _ hw7).trans HFR7.o
    have hst9:=qc (xg hfr Fx.no_ok) Fx.no_ok.len (ji Fx.no_ok.2)
    have HW9:=za (xt hfr Fx.no_ok Fx.no_ok)
    have HTN:=za ((zf.refl (fun b=>b=w.heap.size+1) [zr] _).setCells (.inl rfl) hfr (by simp) (fcs Fx.no) 0)
    have HT9:=za ((HT7.o.then_below HB8.o).setCellsNew (Nat.le_succ w.heap.size) (fcs Fx.no) 0)
    have HN9:=za (HN7.o.below HB8.o)
    have HG9:Hid (((w7.alloc (.cells qh zr)).setCells w7.heap.size 0 (fcs Fx.no)).heap[g]?=some (.cells #[txv pn,jo at_ 5] 115 (0,0))):=(hb8.block _ (zb HG7.o)).trans HG7.o
    have hbf:=fun w0=>zjz w0
    rw [zpz] at hbf
    clear hf8 hb8 HG hgs hgb hfr
    unfold xm
    go_wp2_with fail
    refine bodyPost_ret (v:= .tuple #[.agg (fcs Fx.no).toArray,xm g]) (zy Tryz.results151 _ _ (w.heap.size+1) zr _ (0,0) _ rfl HW9.o Tryz.underlying130 rfl (by rw [jk,List.size_toArray,Fx.no_ok.len]) _ rfl) rfl ⟨HT9.o,by rw [HFM.o];exact HN9.o.turn HTN.o (by decide) (by decide) (by decide),by rw [HFM.o,HPN.o];exact .inr ⟨rfl,g,Nat.le_trans HZ.o HGS.o,HTN.o.keep HG9.o (by decide),rfl⟩⟩
end
end Go.Proofs.YtinhekmmdlhfkaaGreatDoor
