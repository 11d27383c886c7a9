import Derived.Test.YtinhekmmdlhfkaaGreatDoorG23
import Derived.Test.YtinhekmmdlhfkaaGreatDoorG01
import Derived.Test.YtinhekmmdlhfkaaGreatDoorG21
namespace Go.Proofs.YtinhekmmdlhfkaaGreatDoor
section
structure Cl where
 key:List UInt8
 size:Nat
 root:List UInt8
 room:Int
 proved:Mm
structure Er where
 n:Int
 p:List UInt8
def Er.cp:Er:=⟨3,[]⟩
def Er.old:Er:=⟨4,[]⟩
def Er.proof:Er:=⟨5,[]⟩
def Er.range:Er:=⟨2,[]⟩
def Er.tile (p:List UInt8):Er:=⟨6,p⟩
section
variable {σ : Type} (fe : σ → List UInt8 → (List UInt8 × Bool) × σ)
def readC (inc:List UInt8→Nat→Nat→List (List UInt8)→List UInt8→Bool)(c:Cl)(s:σ)(i:Nat):Sum Er (List UInt8×List (List UInt8))×Cl×σ :=
 match needM fe c.proved c.size ⟨s,[]⟩ (-1) i with
 | (.inl p,m)=>(.inl (.tile p),c,m.net)
 | (.inr own,m)=>match rootsM fe c.proved c.size m (pathS 64 0 c.size i) with
  | (.inl p,m)=>(.inl (.tile p),c,m.net)
  | (.inr ps,m)=>if inc own.hash i c.size ps c.root then (.inr (own.entry,ps),{ c with proved:=rememberM c.room c.proved (settleE c.size m.needed i own.hash) },m.net) else (.inl .proof,c,m.net)
def proveC (con:Nat→Nat→List UInt8→List UInt8→List (List UInt8)→Bool)(c:Cl)(s:σ)(n:Nat)(r:List UInt8):Sum Er (List (List UInt8))×Mm×σ :=
 if n < c.size then (.inl .old,c.proved,s)
 else if n=c.size then (if r=c.root then (.inr [],c.proved,s) else (.inl .proof,c.proved,s))
 else if c.size=0 then (.inr [],c.proved,s)
 else match rootsM fe c.proved n ⟨s,[]⟩ (partS 64 c.size 0 n true) with
  | (.inl p,m)=>(.inl (.tile p),c.proved,m.net)
  | (.inr ps,m)=>if con c.size n c.root r ps then (.inr ps,rememberM c.room c.proved (settleO n m.needed c.size c.root),m.net) else (.inl .proof,c.proved,m.net)
def updC (con:Nat→Nat→List UInt8→List UInt8→List (List UInt8)→Bool)(c:Cl)(s:σ)(o:Option (Nat×List UInt8)):Sum Er (List (List UInt8))×Cl×σ :=
 match o with
 | none=>(.inl .cp,c,s)
 | some (n,r)=>match proveC fe con c s n r with
  | (.inl e,_,s1)=>(.inl e,c,s1)
  | (.inr ps,pr,s1)=>(.inr ps,{ c with size:=n,root:=r,proved:=pr },s1)
end
def ChkIs (key:List UInt8)(x:List UInt8×Bool)(o:Option (Nat×List UInt8)):Prop:=match o with
 | some (n,r)=>x.2=true∧IsSign x.1 key n r
 | none=>x.2=false∨∀ n r,¬ IsSign x.1 key n r
theorem ChkIs.yes {key d:List UInt8}{o:Option (Nat×List UInt8)}{n:Nat}{r:List UInt8}(h:ChkIs key (d,true) o)(hs:IsSign d key n r):o=some (n,r):=by
 cases o with
 | none =>
  rcases h with h | h
  ·simp at h
  ·exact absurd hs (h n r)
 | some x =>
  obtain⟨n',r'⟩:=x
  obtain⟨rfl,rfl⟩:=h.2.inj hs
  rfl
section
variable {σ : Type} {fe : σ → List UInt8 → (List UInt8 × Bool) × σ}
structure Tru (fe:σ→List UInt8→(List UInt8×Bool)×σ)(I:σ→Prop)(say:Say)(es:List (List UInt8))(size:Nat):Prop where
 tells:Tells fe I say
 h20:∀ e∈es,e.length≤20
 le:size≤es.length
 lt:size < 2 ^ 63
 files:∀(l:Int) (j w:Nat),-1≤l→j < cntL l size→placeN size l j=(l,((j / 4:Nat):Int),(w:Int))→say (nameP (placeN size l j))=some (fileD es l (j / 4) w)
theorem placeN_wid (size:Nat)(l:Int)(j:Nat)(h:j < cntL l size):∃ w:Nat,placeN size l j=(l,((j / 4:Nat):Int),(w:Int))∧1≤w∧w≤4∧4*(j / 4)+w≤cntL l size:=by
 refine⟨min (cntL l size - j / 4*4) 4,?_,by omega,by omega,by omega⟩
 unfold placeN
 simp only [Prod.mk.injEq,true_and]
 omega
theorem Tru.file {I:σ→Prop}{say:Say}{es:List (List UInt8)}{size:Nat}(h:Tru fe I say es size)(l:Int)(hl:-1≤l)(j:Nat)(hj:j < cntL l size):∃ f,fileS say (placeN size l j)=some f∧GdF (TrueQ es) (placeN size l j) f:=by
 obtain⟨w,e,w1,w4,hw⟩:=placeN_wid size l j hj
 have hle:=cntL_mono l h.le
 obtain⟨f,hf,ht⟩:=read_true es h.h20 l hl (j / 4) w w1 w4 (by omega)
 have hc:=readF_came hf
 refine⟨f,?_,hc.len,fun k hk=>⟨fun hh=>by rw [hc.fits k] at hh;simp at hh,fun hh=>?_⟩⟩
 ·unfold fileS placeS
  rw [h.files l j w hl hj e,e]
  simp only
  rw [hf]
 ·rw [e]
  refine⟨ht k hk hh,?_⟩
  rw [hc.there k hk] at hh
  have:(k:Int) < w:=by simpa using hh
  unfold trueN
  simp only [Int.toNat_natCast]
  omega
theorem Tru.ctx {I:σ→Prop}{say:Say}{es:List (List UInt8)}{size:Nat}(h:Tru fe I say es size){proved:Mm}(hp:GdM (TrueQ es) proved):Ctx fe I (fileS say) (TrueQ es) (trueH es) proved size :=
 ⟨h.tells.says_file,trueQ_bare es,fun l j came hl hj e=>by
  obtain⟨f,e1,e2⟩:=h.file l hl j hj
  rw [e1] at e
  simp only [Option.some.injEq] at e
  rw [← e];exact e2,fun l j c _ hv=>trueP_hash es size l j c hv.1,hp⟩
theorem Tru.there {I:σ→Prop}{say:Say}{es:List (List UInt8)}{size:Nat}(h:Tru fe I say es size)(a n:Nat)(h1:a+n≤size)(h2:1≤n):∀ p∈rootPl size 64 a n,fileS say p.1≠none:=by
 intro p hp
 have:=h.lt
 obtain⟨l,j,rfl,-,hj,-⟩:=rootPl_in size h.lt 63 a n h1 h2 (by omega) p hp
 obtain⟨f,e,-⟩:=h.file (l:Int) (by omega) j hj
 simp only
 rw [e];simp
theorem Tru.roots {I:σ→Prop}{say:Say}{es:List (List UInt8)}{size:Nat}(h:Tru fe I say es size){proved:Mm}(hp:GdM (TrueQ es) proved)(ss:List (Nat×Nat))(m:Ms σ)(hm:GdM (TrueQ es) m.needed)(hI:I m.net)(hs:∀ s∈ss,s.1+s.2≤size∧1≤s.2)(ha:∀ s∈ss,Al s.1 s.2):
  ∃ m',rootsM fe proved size m ss=(.inr (ss.map fun s=>rootT (run es s)),m')∧GdM (TrueQ es) m'.needed∧I m'.net∧SeqN fe proved size m (ss.flatMap fun s=>rootPl size 64 s.1 s.2) m':=by
 have hlt:=h.lt
 obtain⟨m',g1,g2,e | ⟨s,hs',p,e,hp',hT⟩⟩:=rootsM_val (h.ctx hp) h.lt ss m hm hI hs
 ·have hx:(ss.map fun s=>rootH (trueH es) size 64 s.1 s.2)=ss.map fun s=>rootT (run es s):=by
   apply List.map_congr_left
   intro s hs'
   obtain⟨q1,q2⟩:=hs s hs'
   exact rootH_true es size h.le h.lt 63 s.1 s.2 q1 q2 (by omega) (ha s hs')
  rw [hx] at e
  exact⟨m',e,g1,g2,rootsM_seq h.lt ss m m' _ hs e⟩
 ·obtain⟨q1,q2⟩:=hs s hs'
  exact absurd hT (h.there s.1 s.2 q1 q2 p hp')
theorem read_truth {I:σ→Prop}{say:Say}{es:List (List UInt8)}{c:Cl}(h:Tru fe I say es c.size)(hp:GdM (TrueQ es) c.proved)(hn:InS c.size c.proved){s:σ}(hI:I s){i:Nat}(hi:i < c.size)(inc:List UInt8→Nat→Nat→List (List UInt8)→List UInt8→Bool)
  (hinc:inc (leafH (es.getD i [])) i c.size ((pathS 64 0 c.size i).map fun s=>rootT (run es s)) c.root=true) :
  ∃ m,SeqN fe c.proved c.size ⟨s,[]⟩ (readPl c.size i) m∧I m.net∧readC fe inc c s i=(.inr (es.getD i [],(pathS 64 0 c.size i).map fun s=>rootT (run es s)),{ c with proved:=rememberM c.room c.proved (settleE c.size m.needed i (leafH (es.getD i []))) },m.net) ∧
   GdM (TrueQ es) (rememberM c.room c.proved (settleE c.size m.needed i (leafH (es.getD i []))))∧InS c.size (rememberM c.room c.proved (settleE c.size m.needed i (leafH (es.getD i [])))):=by
 have hlt:=h.lt
 have hle:=h.le
 have hj:i < cntL (-1) c.size:=by simpa [cntL] using hi
 have hnil:GdM (TrueQ es) ([]:Mm):=gdM_nil _
 rcases needM_val (fe:=fe) (proved:=c.proved) (m:=⟨s,[]⟩) (l:=-1) (j:=i) h.tells.says_file (trueQ_bare es) (fun came e=>(h.ctx hp).told _ _ came (by omega) hj e) hp hnil hI hj with ⟨own,m1,e1,ht,hv,hg,hI1⟩ | ⟨m1,e1,e2,-,-⟩
 ·have ho:own.hash=leafH (es.getD i [])∧own.entry=es.getD i []:=by
   have:=hv.1.1 rfl
   rw [trueN_place] at this
   exact this
  have hin:∀ s∈pathS 64 0 c.size i,s.1+s.2≤c.size∧1≤s.2:=fun s hs=>by
   have:=pathS_in 64 0 c.size i (by omega) s hs
   omega
  obtain⟨m2,e2,g1,g2,hq⟩:=h.roots hp (pathS 64 0 c.size i) m1 hg hI1 hin (pathS_al 64 0 c.size i (by omega) (al_zero _))
  have hS:SeqN fe c.proved c.size ⟨s,[]⟩ (readPl c.size i) m2:= .cons hj e1 hq
  have hE:=settleE_gd es c.size m2.needed i (leafH (es.getD i [])) g1 (by omega) rfl
  refine⟨m2,hS,g2,?_,remember_gd c.room _ _ hp hE.2,InS.remember c.room _ _ hn ?_⟩
  ·unfold readC
   rw [e1]
   simp only
   rw [e2]
   simp only
   rw [ho.1,ho.2,hinc]
   rfl
  ·refine InS.keys (a:=m2.needed) ?_ (settleE_keys ..)
   intro x hx
   rcases hS.keys hp.wf (gdM_nil _) x hx with ⟨y,hy,-⟩ | ⟨q,hq',e⟩
   ·simp at hy
   ·rw [← e]
    rcases List.mem_cons.1 hq' with rfl | hq'
    ·exact placeN_in ..
    ·obtain⟨sp,h1,h2⟩:=List.mem_flatMap.1 hq'
     obtain⟨q1,q2⟩:=hin sp h1
     obtain⟨l,j,rfl,-⟩:=rootPl_in c.size hlt 63 sp.1 sp.2 q1 q2 (by omega) q h2
     exact placeN_in ..
 ·exfalso
  obtain⟨f,e,-⟩:=h.file (-1) (by omega) i hj
  rw [e] at e2
  simp at e2
theorem prove_truth {I:σ→Prop}{say:Say}{es:List (List UInt8)}{c:Cl}{n:Nat}(h:Tru fe I say es n)(hp:GdM (TrueQ es) c.proved)(hn:InS c.size c.proved){s:σ}(hI:I s)(hr:c.root=rootT (es.take c.size))(hc:c.size≤n)(con:Nat→Nat→List UInt8→List UInt8→List (List UInt8)→Bool)
  (hcon:0 < c.size→c.size < n→con c.size n c.root (rootT (es.take n)) ((partS 64 c.size 0 n true).map fun s=>rootT (run es s))=true) :
  ∃ pr s',proveC fe con c s n (rootT (es.take n))=(.inr (if 0 < c.size∧c.size < n then (partS 64 c.size 0 n true).map (fun s=>rootT (run es s)) else []),pr,s')∧GdM (TrueQ es) pr∧InS n pr∧I s'∧((pr=c.proved∧s'=s)∨∃ m2,SeqN fe c.proved n ⟨s,[]⟩ ((partS 64 c.size 0 n true).flatMap fun s=>rootPl n 64 s.1 s.2) m2∧pr=rememberM c.room c.proved (settleO n m2.needed c.size c.root)∧s'=m2.net∧0 < c.size):=by
 have hlt:=h.lt
 have hle:=h.le
 unfold proveC
 rw [if_neg (by omega)]
 by_cases e1:n=c.size
 ·rw [if_pos e1,if_pos (by rw [hr,e1]),if_neg (by omega)]
  exact⟨_,_,rfl,hp,e1▸hn,hI,.inl ⟨rfl,rfl⟩⟩
 ·rw [if_neg e1]
  by_cases e0:c.size=0
  ·rw [if_pos e0,if_neg (by omega)]
   exact⟨_,_,rfl,hp,hn.more (by omega),hI,.inl ⟨rfl,rfl⟩⟩
  ·rw [if_neg e0,if_pos (by omega)]
   have hin:∀ s∈partS 64 c.size 0 n true,s.1+s.2≤n∧1≤s.2:=fun s hs=>by
    have:=partS_in 64 c.size 0 n true (by omega) (by omega) (by omega) (by omega) s hs
    omega
   obtain⟨m2,e2,g1,g2,hq⟩:=h.roots hp (partS 64 c.size 0 n true) ⟨s,[]⟩ (gdM_nil _) hI hin (partS_al 64 c.size 0 n true (by omega) (by omega) (by omega) (al_zero _))
   rw [e2]
   simp only
   rw [hcon (by omega) (by omega)]
   have hO:=settleO_gd es n m2.needed c.size c.root g1 (by omega) (by omega) (by omega) hr (seq_settle hlt (by omega) (by omega) hp.wf hn hq)
   refine⟨_,_,rfl,remember_gd c.room _ _ hp hO.2,InS.remember c.room _ _ (hn.more hc) ?_,g2,.inr ⟨m2,hq,rfl,rfl,by omega⟩⟩
   refine InS.keys (a:=m2.needed) ?_ (settleO_keys ..)
   intro x hx
   rcases hq.keys hp.wf (gdM_nil _) x hx with ⟨y,hy,-⟩ | ⟨q,hq',e⟩
   ·simp at hy
   ·rw [← e]
    obtain⟨sp,h1,h2⟩:=List.mem_flatMap.1 hq'
    obtain⟨q1,q2⟩:=hin sp h1
    obtain⟨l,j,rfl,-⟩:=rootPl_in n hlt 63 sp.1 sp.2 q1 q2 (by omega) q h2
    exact placeN_in ..
theorem put_none (room:Int)(h:room≤0)(p:Pl)(f:Fl):Mm.put room [] p f=[]:=by
 unfold Mm.put Mm.drop
 rw [if_pos (by simp;omega)]
 rfl
theorem remember_none (room:Int)(h:room≤0):∀ nd:Mm,rememberM room [] nd=[]
 | []=>rfl
 | x::nd=>by
  show rememberM room (Mm.put room [] x.1 (fitF x.2)) nd=[]
  rw [put_none room h]
  exact remember_none room h nd
theorem put_one1 (m:Mm)(h:m.length≤1)(p:Pl)(f:Fl):m.put 1 p f=[(p,f)]:=by
 have hd:(m.drop p).length≤1:=Nat.le_trans (List.length_filter_le ..) h
 unfold Mm.put
 match hm:m.drop p,hd with
 | [],_=>rfl
 | [y],_=>rfl
theorem remember_short:∀(nd pr:Mm),pr.length≤1→(rememberM 1 pr nd).length≤1
 | [],pr,h=>h
 | x::nd,pr,h=>by
  show(rememberM 1 (pr.put 1 x.1 (fitF x.2)) nd).length≤1
  exact remember_short nd _ (by rw [put_one1 pr h];simp)
def Room (room:Int)(m:Mm):Prop:=(room≤0→m=[])∧(room=1→m.length≤1)
theorem Room.remember {room:Int}{m:Mm}(h:Room room m)(nd:Mm):Room room (rememberM room m nd) :=
 ⟨fun hr=>by rw [h.1 hr];exact remember_none room hr nd,fun hr=>by subst hr;exact remember_short nd m (h.2 rfl)⟩
theorem needM_cnt (cnt:σ→Int)(hc:∀ s p,cnt (fe s p).2=cnt s+1){proved:Mm}{size:Nat}{m m1:Ms σ}{l:Int}{j:Nat}{o:Sum (List UInt8) Pc}(h:needM fe proved size m l j=(o,m1)):
  cnt m.net≤cnt m1.net∧(((knownM proved m.needed (placeN size l j)).getD (j % 4) .no).there=false→cnt m.net < cnt m1.net):=by
 have hpl:∀ s p,cnt (placeM fe s p).2=cnt s+1:=fun s p=>hc s _
 have hfl:∀ s p,cnt s < cnt (fileM fe s p).2:=by
  intro s p
  have a1:=hpl s p
  unfold fileM
  cases e1:placeM fe s p with
  | mk o s1 =>
   rw [e1] at a1
   simp only at a1
   cases o with
   | some f=>simp only;omega
   | none =>
    simp only
    split
    ·simp only;omega
    ·have a2:=hpl s1 (p.1,p.2.1,4)
     cases e2:placeM fe s1 (p.1,p.2.1,4) with
     | mk o2 s2 =>
      rw [e2] at a2
      simp only at a2
      cases o2<;>simp only<;>omega
 unfold needM at h
 by_cases ht:((knownM proved m.needed (placeN size l j)).getD (j % 4) .no).there=true
 ·rw [if_pos ht] at h
  simp only [Prod.mk.injEq] at h
  obtain⟨-,rfl⟩:=h
  exact⟨Int.le_refl _,fun hh=>by rw [ht] at hh;simp at hh⟩
 ·rw [if_neg ht] at h
  have a1:=hfl m.net (placeN size l j)
  cases hf:fileM fe m.net (placeN size l j) with
  | mk o s =>
   rw [hf] at h a1
   cases o with
   | none =>
    simp only [Prod.mk.injEq] at h
    obtain⟨-,rfl⟩:=h
    simp only at *
    exact⟨by omega,fun _=>by omega⟩
   | some came =>
    simp only [Prod.mk.injEq] at h
    obtain⟨-,rfl⟩:=h
    simp only at *
    exact⟨by omega,fun _=>by omega⟩
theorem SeqN.cnt {proved:Mm}{size:Nat}{m m':Ms σ}{ps:List (Pl×Nat)}(h:SeqN fe proved size m ps m')(cnt:σ→Int)(hc:∀ s p,cnt (fe s p).2=cnt s+1):cnt m.net≤cnt m'.net:=by
 induction h using SeqN.ind with
 | nil m=>exact Int.le_refl _
 | cons hj e _ ih =>
  have:=(needM_cnt cnt hc e).1
  omega
end
end
section
def HasAll (fs:Fs)(es:List (List UInt8))(size:Nat):Prop:=∀ f∈want (es.take size),look fs f.1=some f.2
theorem netF_plain (fs:Fs)(n:Nt)(h:n.lies=[])(p:List UInt8):netF fs n p=(match look fs p with
 | some d=>((d,true),{ n with fetches:=n.fetches+1 })
 | none=>(([],false),{ n with fetches:=n.fetches+1 })):=by
 unfold netF
 have:lieIx n p=none:=by unfold lieIx;rw [h];rfl
 simp only [this]
 cases look fs p<;>rfl
theorem netF_cnt (fs:Fs)(n:Nt)(p:List UInt8):(netF fs n p).2.fetches=n.fetches+1:=by
 unfold netF
 split
 ·rfl
 ·split<;>rfl
theorem tells_plain (fs:Fs):Tells (netF fs) (fun n=>n.lies=[]) (look fs):=by
 refine⟨fun n p h=>?_,fun n p h=>?_⟩
 ·rw [netF_plain fs n h]
  cases look fs p<;>rfl
 ·rw [netF_plain fs n h]
  cases look fs p<;>exact h
theorem tru_plain {fs:Fs}{es:List (List UInt8)}{size:Nat}(h20:∀ e∈es,e.length≤20)(hle:size≤es.length)(hlt:size < 4 ^ 21)(h:HasAll fs es size):Tru (netF fs) (fun n=>n.lies=[]) (look fs) es size:=by
 have h63:size < 2 ^ 63:=Nat.lt_of_lt_of_le hlt (by decide)
 refine⟨tells_plain fs,h20,hle,h63,fun l j w hl hj e=>?_⟩
 have hlen:(es.take size).length=size:=by simp;omega
 have hL:l≤20:=by
  rcases Int.lt_or_le 20 l with h' | h'
  ·exfalso
   have h1:4 ^ 21≤4 ^ l.toNat:=Nat.pow_le_pow_right (by omega) (by omega)
   have h2:cntL l size=0:=by unfold cntL;exact Nat.div_eq_of_lt (by omega)
   omega
  ·exact h'
 have hw:wid (cntL l size) (j / 4)=w:=by
  unfold placeN at e
  simp only [Prod.mk.injEq,true_and] at e
  unfold wid
  omega
 have hc:4*(j / 4)+w≤cntL l size:=by unfold wid at hw;omega
 have hmem:fileF (es.take size) l (cntL l size) (j / 4)∈want (es.take size):=by
  rw [mem_want,hlen]
  exact⟨l,j / 4,⟨hl,hL⟩,by omega,rfl⟩
 have:=h _ hmem
 unfold fileF at this
 simp only at this
 rw [hw,fileD_first es size l (j / 4) w hc hle] at this
 rw [e]
 exact this
def FromOf (fs:Fs)(es:List (List UInt8)):Prop:=∀ q x,look fs q=some x→q=cpF∨∃ n,n≤es.length∧(q,x)∈want (es.take n)
theorem FromOf.more {fs:Fs}{es:List (List UInt8)}(h:FromOf fs es)(more:List (List UInt8)):FromOf fs (es++more):=by
 intro q x hq
 rcases h q x hq with h | ⟨n,h1,h2⟩
 ·exact .inl h
 ·exact .inr ⟨n,by simp;omega,by rw [List.take_append_of_le_length h1];exact h2⟩
theorem FromOf.went {fs fs':Fs}{es:List (List UInt8)}{c:List UInt8}(h:FromOf fs es)(hw:Went (want es) c fs fs'):FromOf fs' es:=by
 intro q x hq
 rcases hw q with h1 | ⟨h1,h2⟩ | h1
 ·rw [h1] at hq;exact h q x hq
 ·obtain⟨y,hy,e⟩:=h2
  rw [hq] at e
  simp only [Option.some.injEq] at e
  exact .inr ⟨es.length,Nat.le_refl _,by rw [List.take_length,e];exact hy⟩
 ·exact .inl h1.1
theorem FromOf.noClash {fs:Fs}{es:List (List UInt8)}(h:FromOf fs es)(hl:es.length≤1000000):NoClash fs (want es):=by
 intro q x hx
 cases hq:look fs q with
 | none=>exact .inl rfl
 | some y =>
  right
  rcases h q y hq with rfl | ⟨n,hn,hy⟩
  ·exact absurd hx ((want_fine hl).2 x)
  ·obtain⟨l,j,h1,h2,h3⟩:=mem_want.1 hx
   obtain⟨l',j',h1',h2',h3'⟩:=mem_want.1 hy
   unfold fileF at h3 h3'
   simp only [Prod.mk.injEq] at h3 h3'
   have hlen:(es.take n).length=n:=by simp;omega
   rw [hlen] at h2' h3'
   have c1:=cntL_le l es.length
   have c2:=cntL_le l' n
   obtain⟨rfl,ej,ew⟩:=nameF_inj (good_file h1 h2) (good_file h1' h2') (by omega) (by omega) (h3.1.symm.trans h3'.1)
   have ej':j=j':=by omega
   subst ej'
   have ew':wid (cntL l es.length) j=wid (cntL l n) j:=by omega
   rw [h3.2,h3'.2,ew',fileD_first es n l j _ (by unfold wid;omega) hn]
end
section
set_option maxHeartbeats 4000000
open Go.RowKit
set_option maxRecDepth 100000
attribute [local go_sem ↓] loadM_fold storeM_fold loadP_fold storeP_fold buildP_fold buildF_fold loadH_fold storeH_fold
structure NSt (d:Dk)(n:Nt):Prop where
 nf:d.fs.length≤1000000000
 fl:∀ f∈d.fs,f.2.length≤1000000000
 ly:∀ l∈n.lies,l.data.length≤1000000000
 ll:n.lies.length≤1000000000
 fe:0≤n.fetches
 td:∀ t∈n.told,0≤t∧t≤n.fetches
theorem NSt.ok {d:Dk}{n:Nt}(h:NSt d n)(hf:n.fetches < 4611686018427387904):NOk d n :=
 ⟨h.nf,h.fl,h.ly,h.ll,⟨h.fe,hf⟩,fun t ht=>⟨(h.td t ht).1,by have:=(h.td t ht).2;omega⟩⟩
theorem NSt.step {d:Dk}{n:Nt}(h:NSt d n)(p:List UInt8):NSt d (netF d.fs n p).2:=by
 have hfe:=h.fe
 unfold netF
 split
 ·rename_i k hk
  refine⟨h.nf,h.fl,h.ly,h.ll,by show 0≤n.fetches+1;omega,fun t ht=>?_⟩
  simp only at ht ⊢
  rcases List.mem_or_eq_of_mem_set ht with ht | rfl
  ·have:=h.td t ht;omega
  ·have hg:0≤n.told.getD k 0∧n.told.getD k 0≤n.fetches:=by
    by_cases hk2:k < n.told.length
    ·rw [List.getD_eq_getElem?_getD,List.getElem?_eq_getElem hk2]
     exact h.td _ (List.getElem_mem hk2)
    ·rw [List.getD_eq_getElem?_getD,List.getElem?_eq_none (by omega)]
     exact⟨Int.le_refl _,hfe⟩
   omega
 ·split
  ·exact⟨h.nf,h.fl,h.ly,h.ll,by show 0≤n.fetches+1;omega,fun t ht=>by have:=h.td t ht;show 0≤t∧t≤n.fetches+1;omega⟩
  ·exact⟨h.nf,h.fl,h.ly,h.ll,by show 0≤n.fetches+1;omega,fun t ht=>by have:=h.td t ht;show 0≤t∧t≤n.fetches+1;omega⟩
theorem NSt.place {d:Dk}{n:Nt}(h:NSt d n)(p:Pl):NSt d (placeM (netF d.fs) n p).2:=h.step _
theorem NSt.file {d:Dk}{n:Nt}(h:NSt d n)(p:Pl):NSt d (fileM (netF d.fs) n p).2:=by
 cases hp:(placeM (netF d.fs) n p).1 with
 | some f=>rw [fileM_some hp];exact h.place p
 | none =>
  by_cases h4:p.2.2=4
  ·rw [fileM_none4 hp h4];exact h.place p
  ·rw [fileM_none hp h4];exact(h.place p).place _
theorem place_cnt (fs:Fs)(n:Nt)(p:Pl):(placeM (netF fs) n p).2.fetches=n.fetches+1:=netF_cnt fs n _
theorem file_cnt (fs:Fs)(n:Nt)(p:Pl):n.fetches+1≤(fileM (netF fs) n p).2.fetches∧(fileM (netF fs) n p).2.fetches≤n.fetches+2:=by
 have a1:=place_cnt fs n p
 cases hp:(placeM (netF fs) n p).1 with
 | some f=>rw [fileM_some hp];simp only;omega
 | none =>
  by_cases h4:p.2.2=4
  ·rw [fileM_none4 hp h4];simp only;omega
  ·rw [fileM_none hp h4]
   have a2:=place_cnt fs (placeM (netF fs) n p).2 (p.1,p.2.1,4)
   simp only
   omega
theorem slice_file (b k:Nat)(h0:0 < k)(h4:k < 4)(w:World):(Instr.sliceAt 130 (.pointer (some ⟨b,0,none⟩)) (some (.int .i64 k)) none none).run Tryz.prog w= .ok (.slice (some ⟨b,k*11,none⟩) (4 - k) (4 - k)) w:=by
 match k,h0,h4 with
 | 1,_,_=>simp [go_sem,Tryz.underlying130]
 | 2,_,_=>simp [go_sem,Tryz.underlying130]
 | 3,_,_=>simp [go_sem,Tryz.underlying130]
theorem clip_ok {xs:List Px}(h:FOk xs){k:Nat}(hk:k≤4):FOk (xs.take k++List.replicate (4 - k) .no):=by
 refine⟨by simp [h.1];omega,fun x hx=>?_⟩
 rcases List.mem_append.1 hx with hx | hx
 ·exact h.2 x (List.mem_of_mem_take hx)
 ·exact rep_ok _ x hx
abbrev TCli:Nat:=142
theorem ffile_any (W0:World)(at_:Nat→Addr)(O:Nat→Prop)(nb db cb:Nat)(n:Nt)(d:Dk)(l ix:Int)(k:Nat)(hk0:0 < k)(hk:k≤4)(hix:ix≤9223372036854775807)(w:World)(hW:Below W0.heap.size W0 w)(hE:Env W0)(hS:Sents W0 at_)
  (hO:∀ b,O b→W0.heap.size≤b) (hok:NSt d n) (hfin:(fileM (netF d.fs) n (l,ix,(k:Int))).2.fetches < 4611686018427387904) (hD:DiskAt w O db d) (hN:NetAt w O nb db n) (C:Array Value) (hc:w.heap[cb]?=some (.cells C TCli (0,0))) (hC:C[2]?=some (netV nb)) :
  Calls Tryz.prog 151 #[ptrV cb,plV (l,ix,k)] w fun r w'=>Turn O nT w w'∧NetAt w' O nb db (fileM (netF d.fs) n (l,ix,k)).2∧GotF at_ w.heap.size (nameF l ix k) w' (fileM (netF d.fs) n (l,ix,k)).1 r:=by
 have hfi:=(file_cnt d.fs n (l,ix,(k:Int))).1
 have H0:Hid (Below w.heap.size w ((w.alloc (.cells #[.int .i64 l,.int .i64 ix,.int .i64 k] 126)).alloc (.cells noVA TFile))∧((w.alloc (.cells #[.int .i64 l,.int .i64 ix,.int .i64 k] 126)).alloc (.cells noVA TFile)).heap[w.heap.size]?=some (.cells #[.int .i64 l,.int .i64 ix,.int .i64 k] 126 (0,0))∧FileAt ((w.alloc (.cells #[.int .i64 l,.int .i64 ix,.int .i64 k] 126)).alloc (.cells noVA TFile)) (w.heap.size+1) Fx.no):=by
  refine⟨below_alloc2 _ _ _,heap_alloc_old (heap_alloc_last _ _),?_⟩
  have:=heap_alloc_last (w.alloc (.cells #[.int .i64 l,.int .i64 ix,.int .i64 k] 126)) (.cells noVA TFile)
  rw [show(w.alloc (.cells #[.int .i64 l,.int .i64 ix,.int .i64 k] 126)).heap.size=w.heap.size+1 by simp] at this
  exact this
 have HW:=hide hW
 have HE:=hide hE
 have HS:=hide hS
 have HO:=hide hO
 have HOK:=hide hok
 have HFIN:=hide hfin
 have HD:=hide hD
 have HN:=hide hN
 have HC:=hide hc
 have HC2:=hide hC
 have hlt:n.fetches < 4611686018427387904:=by omega
 have HLT:=hide hlt
 clear hW hE hS hO hok hD hN hc hC hfin hfi hlt
 unfold plV
 simp only
 unfold ptrV
 go_enter Tryz.func151,Tryz.ntmps151
 go_wp2_with fail
 generalize (w.alloc (.cells #[.int .i64 l,.int .i64 ix,.int .i64 k] 126)).alloc (.cells noVA TFile)=W1 at *
 have hW1:Below W0.heap.size W0 W1:=HW.out.trans (H0.out.1.mono HW.out.size)
 have hT1:Turn O nT w W1:= .of_below H0.out.1
 have HC1:Hid (W1.heap[cb]?=some (.cells C TCli (0,0))):=hT1.keep HC.out (by decide)
 have HF:=hide (fplace_any W0 at_ O nb db cb n d l ix k hk0 hk hix W1 hW1 HE.out HS.out HO.out (HOK.out.ok HLT.out) (HD.out.stay hT1 (by decide) (by decide)) (HN.out.below H0.out.1) (by obtain⟨x,-⟩:=dcell HC1.out 2 _ HC2.out;exact x))
 have HT1:=hide hT1
 have HB1:=hide H0.out.1
 have HP1:=hide H0.out.2
 have HPC:=hide (place_cnt d.fs n (l,ix,(k:Int)))
 have HSP:=hide (HOK.out.place (l,ix,(k:Int)))
 have HW1:=hide hW1
 have HM1:Hid (∀ f,(placeM (netF d.fs) n (l,ix,(k:Int))).1=some f→fileM (netF d.fs) n (l,ix,(k:Int))=(some f,(placeM (netF d.fs) n (l,ix,(k:Int))).2)):=fun f h=>fileM_some h
 have HM2:Hid ((placeM (netF d.fs) n (l,ix,(k:Int))).1=none→k=4→fileM (netF d.fs) n (l,ix,(k:Int))=(none,(placeM (netF d.fs) n (l,ix,(k:Int))).2)):=fun h h4=>fileM_none4 h (by show(k:Int)=4;omega)
 have HM3:Hid ((placeM (netF d.fs) n (l,ix,(k:Int))).1=none→k≠4→fileM (netF d.fs) n (l,ix,(k:Int))=(((placeM (netF d.fs) (placeM (netF d.fs) n (l,ix,(k:Int))).2 (l,ix,4)).1).map (clipF k),(placeM (netF d.fs) (placeM (netF d.fs) n (l,ix,(k:Int))).2 (l,ix,4)).2)):=fun h h4=>fileM_none h (by show(k:Int)≠4;omega)
 unfold plV ptrV at HF
 simp only at HF
 generalize hPN:nameF l ix k=pn at *
 generalize hFM:fileM (netF d.fs) n (l,ix,(k:Int))=FM at *
 have HFM:=hide hFM
 have HPN:=hide hPN
 generalize hPM:placeM (netF d.fs) n (l,ix,(k:Int))=PM at *
 obtain⟨o1,n1⟩:=PM
 simp only at *
 clear hPM hPN hFM H0 hW1 hT1
 go_wp2_with fail
 refine HF.out.mono ?_
 rintro r w2 ⟨ht2,hN2,hg2⟩
 have hT2:Turn O nT w w2:=HT1.out.trans (ht2.mono (fun _ h=> .inl h) (fun _ h=>h))
 have HT2:=hide hT2
 have hp2:w2.heap[w.heap.size]?=some (.cells #[.int .i64 l,.int .i64 ix,.int .i64 k] 126 (0,0)):=ht2.keep HP1.out.1 (by decide)
 have hf2:FileAt w2 (w.heap.size+1) Fx.no:=ht2.keep HP1.out.2 (by decide)
 have HP2:=hide hp2
 have HF2:=hide hf2
 have HN2:=hide hN2
 have HW2:Hid (Below W0.heap.size W0 w2):=HW1.out.trans (ht2.below HO.out HW1.out.size)
 have HC2':Hid (w2.heap[cb]?=some (.cells C TCli (0,0))):=ht2.keep HC1.out (by decide)
 have HZ:Hid (w.heap.size≤W1.heap.size):=HB1.out.size
 have hw2:w.heap.size+1 < w2.heap.size:=heap_some_lt hf2
 clear ht2 hN2 hT2 HF
 have HG:Hid (∀ xs,FOk xs→(storeM (.pointer (some ⟨w2.heap.size,0,none⟩)) (.agg (fcs xs).toArray)).run Tryz.prog (w2.alloc (.cells noVA TFile))= .ok () ((w2.alloc (.cells noVA TFile)).setCells w2.heap.size 0 (fcs xs))∧FileAt ((w2.alloc (.cells noVA TFile)).setCells w2.heap.size 0 (fcs xs)) w2.heap.size xs∧Below w2.heap.size w2 ((w2.alloc (.cells noVA TFile)).setCells w2.heap.size 0 (fcs xs))):=by
  intro xs hx
  have hf4:FileAt (w2.alloc (.cells noVA TFile)) w2.heap.size Fx.no:=heap_alloc_last _ _
  exact⟨storeM_of (file_there hf4 Fx.no_ok) hx.len (fcs_one hx.2),file_whole hf4 Fx.no_ok hx,below_setCells (below_alloc _ _) (Nat.le_refl _) _ _⟩
 rcases hg2 with ⟨xs,f,rfl,hxk,hxi,rfl⟩ | ⟨rfl,g,hgs,hgb,rfl⟩
 ·have hm:=HM1.out f rfl
  subst hm
  simp only
  obtain⟨hst1,hf5,hb5⟩:=HG.out xs hxk
  have HF5:=hide hf5
  have HB5:=hide hb5
  have HXK:=hide hxk
  have HXI:=hide hxi
  clear hf5 hb5 hxk hxi HM1 HM2 HM3 HG
  have hgt:((w2.alloc (.cells noVA TFile)).setCells w2.heap.size 0 (fcs xs)).cell? ⟨6,0,none⟩=some (.iface 326 (.pointer (some (at_ 5)))):=by
   have hb0:=HW2.out.trans (HB5.out.mono HW2.out.size)
   exact(HS.out.below hb0).tile
  go_wp2_with fail
  generalize (w2.alloc (.cells noVA TFile)).setCells w2.heap.size 0 (fcs xs)=W5 at *
  have hp5:W5.heap[w.heap.size]?=some (.cells #[.int .i64 l,.int .i64 ix,.int .i64 k] 126 (0,0)):=(HB5.out.block _ (heap_some_lt HP2.out)).trans HP2.out
  have hf5:FileAt W5 (w.heap.size+1) Fx.no:=(HB5.out.block _ (heap_some_lt HF2.out)).trans HF2.out
  have hld:=loadM_of (range_row HF5.out) HXK.out.len
  have hst2:=storeM_of (file_there hf5 Fx.no_ok) HXK.out.len (fcs_one HXK.out.2)
  have HW6:=hide (file_whole hf5 Fx.no_ok HXK.out)
  have HT5:=hide (HT2.out.then_below HB5.out)
  have HT6:=hide (HT5.out.setCellsNew (Nat.le_succ w.heap.size) (fcs xs) 0)
  have HTN:=hide ((Turn.refl (fun b=>b=w.heap.size+1) [TFile] _).setCells (.inl rfl) hf5 (by simp) (fcs xs) 0)
  have HN5:=hide (HN2.out.below HB5.out)
  have HX5:=hide (HXI.out.below HB5.out)
  clear hf5 hp5
  refine(is_nil (at_ 5) W5).mono ?_
  rintro r w6 ⟨rfl,rfl⟩
  go_wp2_with fail
  refine bodyPost_ret (v:= .tuple #[.agg (fcs xs).toArray,.nilIface]) (results_cell_tmp Tryz.results151 _ _ (w.heap.size+1) TFile _ (0,0) _ rfl HW6.out Tryz.underlying130 rfl (by rw [infoFil,List.size_toArray,HXK.out.len]) _ rfl) rfl ⟨HT6.out,by rw [HFM.out];exact HN5.out.turn HTN.out (by decide) (by decide) (by decide),by rw [HFM.out,HPN.out];exact .inl ⟨xs,f,rfl,HXK.out,HX5.out.turn HTN.out (by decide),rfl⟩⟩
 ·obtain⟨hst1,hf5,hb5⟩:=HG.out Fx.no Fx.no_ok
  have HF5:=hide hf5
  have HB5:=hide hb5
  have HGB:=hide hgb
  have HGS:=hide hgs
  clear hf5 hb5 HG hgb hgs HM1
  have hgt:((w2.alloc (.cells noVA TFile)).setCells w2.heap.size 0 (fcs Fx.no)).cell? ⟨6,0,none⟩=some (.iface 326 (.pointer (some (at_ 5)))):=by
   have hb0:=HW2.out.trans (HB5.out.mono HW2.out.size)
   exact(HS.out.below hb0).tile
  go_wp2_with fail
  generalize (w2.alloc (.cells noVA TFile)).setCells w2.heap.size 0 (fcs Fx.no)=W5 at *
  have HG5:Hid (W5.heap[g]?=some (.cells #[txv pn,errS at_ 5] 115 (0,0))):=(HB5.out.block _ (heap_some_lt HGB.out)).trans HGB.out
  have hp5:W5.heap[w.heap.size]?=some (.cells #[.int .i64 l,.int .i64 ix,.int .i64 k] 126 (0,0)):=(HB5.out.block _ (heap_some_lt HP2.out)).trans HP2.out
  have HFR:Hid (FileAt W5 (w.heap.size+1) Fx.no):=(HB5.out.block _ (heap_some_lt HF2.out)).trans HF2.out
  have HT5:=hide (HT2.out.then_below HB5.out)
  have HN5:=hide (HN2.out.below HB5.out)
  have HC5:Hid (W5.heap[cb]?=some (.cells C TCli (0,0))):=(HB5.out.block _ (heap_some_lt HC2'.out)).trans HC2'.out
  have HW5:Hid (Below W0.heap.size W0 W5):=HW2.out.trans (HB5.out.mono HW2.out.size)
  have HD5:Hid (DiskAt W5 O db d):=HD.out.stay HT5.out (by decide) (by decide)
  have p0:W5.cell? ⟨w.heap.size,0,none⟩=some (.int .i64 l):=(dcell hp5 0 _ rfl).1
  have p1:W5.cell? ⟨w.heap.size,1,none⟩=some (.int .i64 ix):=(dcell hp5 1 _ rfl).1
  have p2:W5.cell? ⟨w.heap.size,2,none⟩=some (.int .i64 k):=(dcell hp5 2 _ rfl).1
  have HP5:=hide hp5
  clear hp5
  by_cases h4:k=4
  ·have hm:=HM2.out trivial h4
   subst hm
   have p2':W5.cell? ⟨w.heap.size,2,none⟩=some (.int .i64 4):=by rw [p2,h4];rfl
   clear p2
   have hld:=loadM_of (range_row HF5.out) Fx.no_ok.len
   have hst2:=storeM_of (file_there HFR.out Fx.no_ok) Fx.no_ok.len (fcs_one Fx.no_ok.2)
   have HW6:=hide (file_whole HFR.out Fx.no_ok Fx.no_ok)
   have HT6:=hide (HT5.out.setCellsNew (Nat.le_succ w.heap.size) (fcs Fx.no) 0)
   have HTN:=hide ((Turn.refl (fun b=>b=w.heap.size+1) [TFile] _).setCells (.inl rfl) HFR.out (by simp) (fcs Fx.no) 0)
   refine(is_path g (at_ 5) W5 (by exact(dcell HG5.out 1 _ rfl).1)).mono ?_
   rintro r w6 ⟨rfl,rfl⟩
   go_wp2_with fail
   refine bodyPost_ret (v:= .tuple #[.agg (fcs Fx.no).toArray,pathE g]) (results_cell_tmp Tryz.results151 _ _ (w.heap.size+1) TFile _ (0,0) _ rfl HW6.out Tryz.underlying130 rfl (by rw [infoFil,List.size_toArray,Fx.no_ok.len]) _ rfl) rfl ⟨HT6.out,by rw [HFM.out];exact HN5.out.turn HTN.out (by decide) (by decide) (by decide),by rw [HFM.out,HPN.out];exact .inr ⟨rfl,g,Nat.le_trans HZ.out HGS.out,HTN.out.keep HG5.out (by decide),rfl⟩⟩
  ·have hm:=HM3.out trivial h4
   subst hm
   have h4d:((k:Int)==4)=false:=by simpa using (by omega:¬(k:Int)=4)
   have HFI:=hide HFIN.out
   have HF:=hide (fplace_any W0 at_ O nb db cb n1 d l ix 4 (by omega) (by omega) hix W5 HW5.out HE.out HS.out HO.out (HSP.out.ok (by have:=HFIN.out;have:=place_cnt d.fs n1 (l,ix,(4:Int));simp only at *;omega)) HD5.out HN5.out (by obtain⟨x,-⟩:=dcell HC5.out 2 _ HC2.out;exact x))
   have HK3:Hid (0 < k∧k < 4):=⟨hk0,by omega⟩
   clear HFIN HM2 HM3 hk0 hk h4
   unfold plV ptrV at HF
   simp only at HF
   rw [show((4:Nat):Int)=4 from rfl] at HF
   generalize hPM2:placeM (netF d.fs) n1 (l,ix,(4:Int))=PM2 at *
   clear hPM2
   obtain⟨o2,n2⟩:=PM2
   simp only at *
   refine(is_path g (at_ 5) W5 (by exact(dcell HG5.out 1 _ rfl).1)).mono ?_
   rintro r w6 ⟨rfl,rfl⟩
   go_wp2_with fail
   refine HF.out.mono ?_
   rintro r w7 ⟨ht7,hN7,hg7⟩
   have HT7:=hide (HT5.out.trans (ht7.mono (fun _ h=> .inl h) (fun _ h=>h)))
   have HG7:Hid (w7.heap[g]?=some (.cells #[txv pn,errS at_ 5] 115 (0,0))):=ht7.keep HG5.out (by decide)
   have HP7:Hid (w7.heap[w.heap.size]?=some (.cells #[.int .i64 l,.int .i64 ix,.int .i64 k] 126 (0,0))):=ht7.keep HP5.out (by decide)
   have HFR7:Hid (FileAt w7 (w.heap.size+1) Fx.no):=ht7.keep HFR.out (by decide)
   have HN7:=hide hN7
   clear ht7 hN7 p0 p1 p2 hgt HF
   have HG:Hid (∀ xs,FOk xs→(storeM (.pointer (some ⟨w7.heap.size,0,none⟩)) (.agg (fcs xs).toArray)).run Tryz.prog (w7.alloc (.cells noVA TFile))= .ok () ((w7.alloc (.cells noVA TFile)).setCells w7.heap.size 0 (fcs xs))∧FileAt ((w7.alloc (.cells noVA TFile)).setCells w7.heap.size 0 (fcs xs)) w7.heap.size xs∧Below w7.heap.size w7 ((w7.alloc (.cells noVA TFile)).setCells w7.heap.size 0 (fcs xs))):=by
    intro xs hx
    have hf4:FileAt (w7.alloc (.cells noVA TFile)) w7.heap.size Fx.no:=heap_alloc_last _ _
    exact⟨storeM_of (file_there hf4 Fx.no_ok) hx.len (fcs_one hx.2),file_whole hf4 Fx.no_ok hx,below_setCells (below_alloc _ _) (Nat.le_refl _) _ _⟩
   rcases hg7 with ⟨xs,f,rfl,hxk,hxi,rfl⟩ | ⟨rfl,g2,hgs,hgb,rfl⟩
   ·obtain⟨hst8,hf8,hb8⟩:=HG.out xs hxk
    have HF8:=hide hf8
    have HB8:=hide hb8
    have HXK:=hide hxk
    have HXI:=hide hxi
    have p2:((w7.alloc (.cells noVA TFile)).setCells w7.heap.size 0 (fcs xs)).cell? ⟨w.heap.size,2,none⟩=some (.int .i64 k):=(dcell ((hb8.block _ (heap_some_lt HP7.out)).trans HP7.out) 2 _ rfl).1
    have hw7:w.heap.size+1 < w7.heap.size:=heap_some_lt HFR7.out
    have hsl:=slice_file w7.heap.size k HK3.out.1 HK3.out.2 ((w7.alloc (.cells noVA TFile)).setCells w7.heap.size 0 (fcs xs))
    have hcl:=fun ty=>clear_any HXK.out HK3.out.1 HK3.out.2 HF8.out (4 - k) ty
    have hc1:=fun ty=>(hcl ty).1
    have HF9:=hide (hcl 0).2
    have hk9:=clip_ok hxk (Nat.le_of_lt HK3.out.2)
    have HK9:=hide hk9
    have hld:=loadM_of (range_row HF9.out) hk9.len
    have HB9:Hid (Below w7.heap.size w7 (((w7.alloc (.cells noVA TFile)).setCells w7.heap.size 0 (fcs xs)).setCells w7.heap.size (k*11) (fcs (List.replicate (4 - k) .no)))):=below_setCells HB8.out (Nat.le_refl _) _ _
    have hfr:FileAt (((w7.alloc (.cells noVA TFile)).setCells w7.heap.size 0 (fcs xs)).setCells w7.heap.size (k*11) (fcs (List.replicate (4 - k) .no))) (w.heap.size+1) Fx.no:=(HB9.out.block _ hw7).trans HFR7.out
    have hst9:=storeM_of (file_there hfr Fx.no_ok) hk9.len (fcs_one hk9.2)
    have HW9:=hide (file_whole hfr Fx.no_ok hk9)
    have HTN:=hide ((Turn.refl (fun b=>b=w.heap.size+1) [TFile] _).setCells (.inl rfl) hfr (by simp) (fcs (xs.take k++List.replicate (4 - k) .no)) 0)
    have HT9:=hide ((HT7.out.then_below HB9.out).setCellsNew (Nat.le_succ w.heap.size) (fcs (xs.take k++List.replicate (4 - k) .no)) 0)
    have HN9:=hide (HN7.out.below HB9.out)
    have HX9:=hide (clip_is (HXI.out.below HB9.out) (Nat.le_of_lt HK3.out.2))
    clear hf8 hb8 hxk hxi HG hcl hk9 hfr
    go_wp2_with fail
    refine bodyPost_ret (v:= .tuple #[.agg (fcs (xs.take k++List.replicate (4 - k) .no)).toArray,.nilIface]) (results_cell_tmp Tryz.results151 _ _ (w.heap.size+1) TFile _ (0,0) _ rfl HW9.out Tryz.underlying130 rfl (by rw [infoFil,List.size_toArray,HK9.out.len]) _ rfl) rfl ⟨HT9.out,by rw [HFM.out];exact HN9.out.turn HTN.out (by decide) (by decide) (by decide),by rw [HFM.out,HPN.out];exact .inl ⟨_,_,rfl,HK9.out,HX9.out.turn HTN.out (by decide),rfl⟩⟩
   ·obtain⟨hst8,hf8,hb8⟩:=HG.out Fx.no Fx.no_ok
    have HB8:=hide hb8
    have hw7:w.heap.size+1 < w7.heap.size:=heap_some_lt HFR7.out
    have hfr:FileAt ((w7.alloc (.cells noVA TFile)).setCells w7.heap.size 0 (fcs Fx.no)) (w.heap.size+1) Fx.no:=(hb8.block _ hw7).trans HFR7.out
    have hst9:=storeM_of (file_there hfr Fx.no_ok) Fx.no_ok.len (fcs_one Fx.no_ok.2)
    have HW9:=hide (file_whole hfr Fx.no_ok Fx.no_ok)
    have HTN:=hide ((Turn.refl (fun b=>b=w.heap.size+1) [TFile] _).setCells (.inl rfl) hfr (by simp) (fcs Fx.no) 0)
    have HT9:=hide ((HT7.out.then_below HB8.out).setCellsNew (Nat.le_succ w.heap.size) (fcs Fx.no) 0)
    have HN9:=hide (HN7.out.below HB8.out)
    have HG9:Hid (((w7.alloc (.cells noVA TFile)).setCells w7.heap.size 0 (fcs Fx.no)).heap[g]?=some (.cells #[txv pn,errS at_ 5] 115 (0,0))):=(hb8.block _ (heap_some_lt HG7.out)).trans HG7.out
    have hbf:=fun w0=>buildF_no w0
    rw [noV_fcs] at hbf
    clear hf8 hb8 HG hgs hgb hfr
    unfold pathE
    go_wp2_with fail
    refine bodyPost_ret (v:= .tuple #[.agg (fcs Fx.no).toArray,pathE g]) (results_cell_tmp Tryz.results151 _ _ (w.heap.size+1) TFile _ (0,0) _ rfl HW9.out Tryz.underlying130 rfl (by rw [infoFil,List.size_toArray,Fx.no_ok.len]) _ rfl) rfl ⟨HT9.out,by rw [HFM.out];exact HN9.out.turn HTN.out (by decide) (by decide) (by decide),by rw [HFM.out,HPN.out];exact .inr ⟨rfl,g,Nat.le_trans HZ.out HGS.out,HTN.out.keep HG9.out (by decide),rfl⟩⟩
end
end Go.Proofs.YtinhekmmdlhfkaaGreatDoor
