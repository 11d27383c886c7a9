import Derived.Test.YtinhekmmdlhfkaaGreatDoorG22
namespace Go.Proofs.YtinhekmmdlhfkaaGreatDoor
section
theorem two_odd (a b x y:Nat)(h:2 ^ a*(2*x+1)=2 ^ b*(2*y+1)):a=b:=by
 rcases Nat.lt_trichotomy a b with hlt | heq | hgt
 ·obtain⟨c,rfl⟩:∃ c,b=a+(c+1):=⟨b - a - 1,by omega⟩
  rw [Nat.pow_add,Nat.mul_assoc] at h
  have:=Nat.eq_of_mul_eq_mul_left (Nat.pow_pos (by omega)) h
  rw [Nat.pow_succ,Nat.mul_comm _ 2,Nat.mul_assoc] at this
  omega
 ·exact heq
 ·obtain⟨c,rfl⟩:∃ c,a=b+(c+1):=⟨a - b - 1,by omega⟩
  rw [Nat.pow_add,Nat.mul_assoc] at h
  have:=Nat.eq_of_mul_eq_mul_left (Nat.pow_pos (by omega)) h
  rw [Nat.pow_succ,Nat.mul_comm _ 2,Nat.mul_assoc] at this
  omega
theorem lvl_of (r c:Nat)(h:2 ^ r*(2*c+1) < 2 ^ 64):lvl (2 ^ r*(2*c+1))=r / 2:=by
 have hp:0 < 2 ^ r:=Nat.pow_pos (by omega)
 obtain⟨m,hm,-⟩:=ctz_spec (2 ^ r*(2*c+1)) (Nat.mul_pos hp (by omega)) h
 unfold lvl
 rw [← two_odd _ _ _ _ hm]
theorem lvl_two (r:Nat)(h:r < 64):lvl (2 ^ r)=r / 2:=by
 have:=lvl_of r 0 (by simpa using Nat.pow_lt_pow_right (by omega:1 < 2) h)
 simpa using this
theorem rootPl_in (size:Nat)(hs:size < 2 ^ 63):∀(f a n:Nat),a+n≤size→1≤n→n≤2 ^ f→∀ p∈rootPl size (f+1) a n,∃ l j:Nat,p=(placeN size (l:Int) j,j % 4)∧a / 4 ^ l≤j∧j < cntL (l:Int) size∧4 ^ l≤n:=by
 have base:∀(f a n:Nat),a+n≤size→1≤n→n / 4 ^ lvl n=1→∀ p∈rootPl size (f+1) a n,∃ l j:Nat,p=(placeN size (l:Int) j,j % 4)∧a / 4 ^ l≤j∧j < cntL (l:Int) size∧4 ^ l≤n:=by
  intro f a n hl h1 he p hp
  obtain⟨-,-,hiff⟩:=lvl_spec n h1 (by omega)
  rw [rootPl,if_pos he] at hp
  obtain rfl:=List.mem_singleton.1 hp
  exact⟨lvl n,a / 4 ^ lvl n,rfl,Nat.le_refl _,run_in' a n (lvl n) size hl (hiff.1 he),by rw [← hiff.1 he];exact Nat.le_refl _⟩
 intro f
 induction f with
 | zero =>
  intro a n hl h1 h2
  obtain rfl:n=1:=by omega
  exact base 0 a 1 hl (by omega) (by decide)
 | succ f ih =>
  intro a n hl h1 h2 p hp
  by_cases he:n / 4 ^ lvl n=1
  ·exact base (f+1) a n hl h1 he p hp
  ·have hn2:2≤n:=by
    rcases Nat.lt_or_ge n 2 with h | h
    ·exact absurd (by obtain rfl:n=1:=by omega
                      decide) he
    ·exact h
   obtain⟨k1,k2,k3,k4,k5,k6⟩:=kOf_half n f hn2 h2
   rw [rootPl,if_neg he] at hp
   rcases List.mem_append.1 hp with hp | hp
   ·obtain⟨l,j,e,g1,g2,g3⟩:=ih a (kOf n) (by omega) k3 k1 p hp
    exact⟨l,j,e,g1,g2,by omega⟩
   ·obtain⟨l,j,e,g1,g2,g3⟩:=ih (a+kOf n) (n - kOf n) (by omega) k4 k2 p hp
    exact⟨l,j,e,Nat.le_trans (Nat.div_le_div_right (by omega)) g1,g2,by omega⟩
theorem partS_last:∀(f old a n:Nat) (whole:Bool),n≤2 ^ f→Al a n→a < old→old < a+n→(whole=true→a=0)→(∀ r,old≠2 ^ r)→∃ a' r,(a',2 ^ r)∈partS f old a n whole∧a'+2 ^ r=old∧2 ^ (r+1) ∣ a':=by
 intro f
 induction f with
 | zero=>intro old a n whole h _ h1 h2 _ _;simp at h;omega
 | succ f ih =>
  intro old a n whole h ha h1 h2 hw hp
  obtain⟨k1,k2,k3,k4,k5,k6⟩:=kOf_half n f (by omega) h
  by_cases hk:old≤a+kOf n
  ·rw [partS_left f old a n whole (by omega) hk]
   by_cases he:old=a+kOf n
   ·obtain⟨q,hq⟩:=kOf_two n
    have hwf:whole=false:=by
     cases whole with
     | false=>rfl
     | true =>
      have:=hw rfl
      exact absurd (by omega:old=2 ^ q) (hp q)
    subst hwf
    refine⟨a,q,List.mem_append.2 (.inl ?_),by omega,?_⟩
    ·rw [partS_end _ _ _ _ _ he,hq];simp
    ·obtain⟨e,e1,e2⟩:=ha
     refine Nat.dvd_trans (Nat.pow_dvd_pow 2 ?_) e2
     have:2 ^ q < 2 ^ e:=by omega
     exact(Nat.pow_lt_pow_iff_right (by omega:1 < 2)).1 this
   ·obtain⟨a',r,g1,g2,g3⟩:=ih old a (kOf n) whole k1 (ha.left (by omega)) h1 (by omega) hw hp
    exact⟨a',r,List.mem_append.2 (.inl g1),g2,g3⟩
  ·rw [partS_right f old a n whole (by omega) hk]
   obtain⟨a',r,g1,g2,g3⟩:=ih old (a+kOf n) (n - kOf n) false k2 (ha.right (by omega)) (by omega) (by omega) (by simp) hp
   exact⟨a',r,List.mem_append.2 (.inl g1),g2,g3⟩
theorem partS_later (r:Nat):∀(f n:Nat),n≤2 ^ f→2 ^ r≤n→∀ s∈partS f (2 ^ r) 0 n true,2 ^ r≤s.1:=by
 intro f
 induction f with
 | zero =>
  intro n h h1 s hs
  have:0 < 2 ^ r:=Nat.pow_pos (by omega)
  rw [partS_end _ _ _ _ _ (by simp at h;omega)] at hs
  simp at hs
 | succ f ih =>
  intro n h h1 s hs
  have hp:0 < 2 ^ r:=Nat.pow_pos (by omega)
  by_cases he:2 ^ r=0+n
  ·rw [partS_end _ _ _ _ _ he] at hs;simp at hs
  ·obtain⟨k1,k2,k3,k4,k5,k6⟩:=kOf_half n f (by omega) h
   obtain⟨q,hq⟩:=kOf_two n
   have hrk:2 ^ r≤kOf n:=by
    rw [hq]
    refine Nat.pow_le_pow_right (by omega) ?_
    have:2 ^ r < 2 ^ (q+1):=by rw [Nat.pow_succ];omega
    have:=(Nat.pow_lt_pow_iff_right (by omega:1 < 2)).1 this
    omega
   rw [partS_left f _ 0 n true he (by omega)] at hs
   rcases List.mem_append.1 hs with hs | hs
   ·exact ih (kOf n) k1 hrk s hs
   ·obtain rfl:=List.mem_singleton.1 hs
    simp only;omega
theorem rootPl_last (size a r:Nat)(hs:size < 2 ^ 63)(h:a+2 ^ r≤size)(hd:2 ^ (r+1) ∣ a):(placeN size ((r / 2:Nat):Int) ((a+2 ^ r) / 4 ^ (r / 2) - 1),((a+2 ^ r) / 4 ^ (r / 2) - 1) % 4)∈rootPl size 64 a (2 ^ r):=by
 have hr:r < 63:=by
  have:2 ^ r < 2 ^ 63:=by omega
  exact(Nat.pow_lt_pow_iff_right (by omega:1 < 2)).1 this
 have hp:0 < 4 ^ (r / 2):=Nat.pow_pos (by omega)
 rcases Nat.mod_two_eq_zero_or_one r with h0 | h1
 ·have e:2 ^ r=4 ^ (r / 2):=by rw [four_pow];congr 1;omega
  have hl:lvl (2 ^ r)=r / 2:=lvl_two r (by omega)
  rw [rootPl,if_pos (by rw [hl,e];exact Nat.div_self hp),hl,e,Nat.add_div_right _ hp]
  simp
 ·obtain⟨c,rfl⟩:∃ c,r=2*c+1:=⟨r / 2,by omega⟩
  have hc:(2*c+1) / 2=c:=by omega
  rw [hc] at hp ⊢
  have e:2 ^ (2*c+1)=2*4 ^ c:=by rw [Nat.pow_succ,four_pow];omega
  have hl:lvl (2 ^ (2*c+1))=c:=by rw [lvl_two _ (by omega)];omega
  have hk:kOf (2 ^ (2*c+1))=4 ^ c:=by rw [kOf_pow,four_pow]
  rw [rootPl,if_neg (by rw [hl,e,Nat.mul_div_cancel _ hp];omega),hk]
  refine List.mem_append.2 (.inr ?_)
  rw [e,show 2*4 ^ c - 4 ^ c=4 ^ c by omega]
  have hl4:lvl (4 ^ c)=c:=lvl_pow c (by omega)
  rw [rootPl,if_pos (by rw [hl4];exact Nat.div_self hp),hl4]
  have:(a+2*4 ^ c) / 4 ^ c - 1=(a+4 ^ c) / 4 ^ c:=by
   rw [show a+2*4 ^ c=a+4 ^ c+4 ^ c by omega,Nat.add_div_right _ hp];rfl
  rw [this]
  exact List.mem_singleton.2 rfl
def InS (size:Nat)(m:Mm):Prop:=∀ x∈m,4*x.1.2.1+x.1.2.2≤(cntL x.1.1 size:Int)
theorem InS.more {a b:Nat}{m:Mm}(h:InS a m)(hab:a≤b):InS b m:=fun x hx=>by
 have h1:=h x hx
 have h2:=cntL_mono x.1.1 hab
 omega
theorem placeN_in (size:Nat)(l:Int)(j:Nat):4*(placeN size l j).2.1+(placeN size l j).2.2≤(cntL (placeN size l j).1 size:Int):=by
 unfold placeN;simp only;omega
theorem InS.put {size:Nat}{m:Mm}(h:InS size m)(room:Int)(p:Pl)(f:Fl)(hp:4*p.2.1+p.2.2≤(cntL p.1 size:Int)):InS size (m.put room p f):=by
 intro x hx
 rcases Mm.put_mem hx with rfl | ⟨h1,-⟩
 ·exact hp
 ·exact h x h1
theorem InS.remember {size:Nat}(room:Int):∀(nd pr:Mm),InS size pr→InS size nd→InS size (rememberM room pr nd)
 | [],pr,h,_=>h
 | x::nd,pr,h,hn=>by
  show InS size (rememberM room (pr.put room x.1 (fitF x.2)) nd)
  exact InS.remember room nd _ (h.put room _ _ (hn x (by simp))) (fun y hy=>hn y (by simp [hy]))
theorem InS.keys {size:Nat}{a b:Mm}(h:InS size a)(e:b.map (·.1)=a.map (·.1)):InS size b:=by
 intro x hx
 have:x.1∈a.map (·.1):=by rw [← e];exact List.mem_map_of_mem hx
 obtain⟨y,hy,ey⟩:=List.mem_map.1 this
 rw [← ey];exact h y hy
theorem settleO_gd (es:List (List UInt8))(size:Nat)(nd:Mm)(old:Nat)(root:List UInt8)(hn:GdM (TrueQ es) nd)(h1:1≤old)(h2:old≤es.length)(h3:old < 2 ^ 64)(hr:root=rootT (es.take old))
  (hth:∀ fl,nd.get (placeN size (lvl old:Nat) (old / 4 ^ lvl old - 1))=some fl→old / 4 ^ lvl old - 1≠0→(fl.getD ((old / 4 ^ lvl old - 1) % 4) .no).there=true∧(old / 4 ^ lvl old - 1=1→(fl.getD 0 .no).there=true)):GdM (TrueQ es) (settleO size nd old root):=by
 obtain⟨hd,-,hiff⟩:=lvl_spec old h1 h3
 have hp:0 < 4 ^ lvl old:=Nat.pow_pos (by omega)
 have hq:1≤old / 4 ^ lvl old:=by
  exact Nat.div_pos (Nat.le_of_dvd h1 hd) hp
 have hcnt:old / 4 ^ lvl old≤cntL ((lvl old:Nat):Int) es.length:=by
  unfold cntL;rw [Int.toNat_natCast];exact Nat.div_le_div_right h2
 have htr:∀ fl,nd.get (placeN size (lvl old:Nat) (old / 4 ^ lvl old - 1))=some fl→(fl.getD ((old / 4 ^ lvl old - 1) % 4) .no).there=true→(fl.getD ((old / 4 ^ lvl old - 1) % 4) .no).hash=dataF es ((lvl old:Nat):Int) (old / 4 ^ lvl old - 1):=by
  intro fl hg ht
  obtain⟨⟨-,t⟩,-⟩:=((hn.get hg).2 _ (Nat.mod_lt _ (by omega))).2 ht
  rw [trueN_place] at t
  exact t (by show((lvl old:Nat):Int)≠-1;omega)
 unfold settleO
 cases hg:nd.get (placeN size (lvl old:Nat) (old / 4 ^ lvl old - 1)) with
 | none=>exact hn
 | some fl =>
  simp only
  have hh:=hth fl hg
  have ht:=htr fl hg
  by_cases c0:old / 4 ^ lvl old - 1=0
  ·rw [if_pos c0]
   refine settleM_gd es size 64 nd (lvl old) 0 root hn (by omega) ?_
   rw [hr,dataF_run,Nat.zero_mul]
   have:old=4 ^ lvl old:=hiff.1 (by omega)
   unfold run
   simp only [List.drop_zero]
   rw [← this]
  ·rw [if_neg c0]
   obtain⟨g1,g2⟩:=hh c0
   by_cases c1:old / 4 ^ lvl old - 1=1
   ·rw [if_pos c1]
    rw [c1] at g1 ht hg
    have g3:=g2 c1
    split
    ·refine settleM_gd es size 64 _ (lvl old) 1 _ (hn.set ((hn.get hg).fitsAt (trueQ_bare es) g3)) (by omega) (ht g1)
    ·exact hn
   ·rw [if_neg c1]
    exact settleM_gd es size 64 nd (lvl old) _ _ hn (by omega) (ht g1)
theorem settleO_keys (size:Nat)(nd:Mm)(old:Nat)(root:List UInt8):(settleO size nd old root).map (·.1)=nd.map (·.1):=by
 unfold settleO
 cases hg:nd.get (placeN size (lvl old:Nat) (old / 4 ^ lvl old - 1)) with
 | none=>rfl
 | some fl =>
  simp only
  split
  ·exact settleM_keys ..
  ·split
   ·split
    ·rw [settleM_keys,Mm.set_keys]
    ·rfl
   ·exact settleM_keys ..
section
variable {σ : Type} {fe : σ → List UInt8 → (List UInt8 × Bool) × σ}
theorem seq_settle {proved:Mm}{size old:Nat}{s:σ}{m':Ms σ}(hs:size < 2 ^ 63)(h1:1≤old)(h2:old < size)(hp:WfM proved)(hin:InS old proved)(hq:SeqN fe proved size ⟨s,[]⟩ ((partS 64 old 0 size true).flatMap fun x=>rootPl size 64 x.1 x.2) m'):
  ∀ fl,m'.needed.get (placeN size (lvl old:Nat) (old / 4 ^ lvl old - 1))=some fl→old / 4 ^ lvl old - 1≠0→(fl.getD ((old / 4 ^ lvl old - 1) % 4) .no).there=true∧(old / 4 ^ lvl old - 1=1→(fl.getD 0 .no).there=true):=by
 intro fl hg hn0
 have hnil:WfM (⟨s,[]⟩:Ms σ).needed:=gdM_nil _
 by_cases hpow:∀ r,old≠2 ^ r
 ·obtain⟨a',r,g1,g2,g3⟩:=partS_last 64 old 0 size true (by omega) (al_zero _) (by omega) (by omega) (fun _=>rfl) hpow
  obtain⟨c,hc⟩:=g3
  have he:old=2 ^ r*(2*c+1):=by rw [← g2,hc,Nat.pow_succ,Nat.mul_add,Nat.mul_one,Nat.mul_assoc]
  have hl:lvl old=r / 2:=by rw [he];exact lvl_of r c (by omega)
  have hmem:=rootPl_last size a' r hs (by omega) ⟨c,hc⟩
  rw [g2,← hl] at hmem
  obtain⟨f',f1,f2,f3,f4⟩:=(hq.has hp hnil).1 _ (List.mem_flatMap.2 ⟨_,g1,hmem⟩)
  simp only at f1 f3
  rw [hg] at f1
  simp only [Option.some.injEq] at f1
  subst f1
  refine⟨f3,fun e1=>?_⟩
  exfalso
  have hp4:0 < 4 ^ (r / 2):=Nat.pow_pos (by omega)
  have hd:old / 4 ^ lvl old=2:=by omega
  rw [hl,he] at hd
  rcases Nat.mod_two_eq_zero_or_one r with h0 | h1
  ·have e:2 ^ r=4 ^ (r / 2):=by rw [four_pow];congr 1;omega
   rw [e,Nat.mul_div_cancel_left _ hp4] at hd
   omega
  ·have e:2 ^ r=4 ^ (r / 2)*2:=by rw [four_pow,← Nat.pow_succ];congr 1;omega
   rw [e,Nat.mul_assoc,Nat.mul_div_cancel_left _ hp4] at hd
   have:c=0:=by omega
   subst this
   exact hpow r (by rw [he];simp)
 ·obtain⟨r,hr⟩:∃ r,old=2 ^ r:=by
   rcases Classical.em (∃ r,old=2 ^ r) with h | h
   ·exact h
   ·exact absurd (fun r e=>h ⟨r,e⟩) hpow
  have hr64:r < 64:=by
   have:2 ^ r < 2 ^ 64:=by omega
   exact(Nat.pow_lt_pow_iff_right (by omega:1 < 2)).1 this
  have hl:lvl old=r / 2:=by rw [hr];exact lvl_two r hr64
  have hp4:0 < 4 ^ (r / 2):=Nat.pow_pos (by omega)
  have hdv:old / 4 ^ (r / 2)=2:=by
   rcases Nat.mod_two_eq_zero_or_one r with h0 | h1
   ·exfalso
    apply hn0
    have e:2 ^ r=4 ^ (r / 2):=by rw [four_pow];congr 1;omega
    rw [hl,hr,e,Nat.div_self hp4]
   ·have e:2 ^ r=4 ^ (r / 2)*2:=by rw [four_pow,← Nat.pow_succ];congr 1;omega
    rw [hr,e,Nat.mul_div_cancel_left _ hp4]
  rw [hl,hdv] at hg hn0 ⊢
  simp only [Nat.reduceSub] at hg hn0 ⊢
  have hk:=hq.keys hp hnil _ (Mm.get_mem hg)
  rcases hk with ⟨y,hy,-⟩ | ⟨q,hqm,eq⟩
  ·simp at hy
  ·simp only at eq
   obtain⟨sp,hsp,hqs⟩:=List.mem_flatMap.1 hqm
   have hlat:=partS_later r 64 size (by omega) (by omega) sp (by rw [← hr];exact hsp)
   obtain⟨i1,i2,i3⟩:=partS_in 64 old 0 size true (by omega) (by omega) (by omega) (by omega) sp hsp
   obtain⟨l',j',e1,e2,e3,-⟩:=rootPl_in size hs 63 sp.1 sp.2 (by omega) i3 (by omega) q hqs
   rw [e1] at eq
   simp only at eq
   have hpl:l'=r / 2∧j' / 4=0:=by
    unfold placeN at eq
    simp only [Prod.mk.injEq] at eq
    have q1:=eq.1
    have q2:=eq.2.1
    exact⟨by omega,by omega⟩
   obtain⟨rfl,hj0⟩:=hpl
   have hj2:2≤j':=by
    have:old / 4 ^ (r / 2)≤sp.1 / 4 ^ (r / 2):=Nat.div_le_div_right (by omega)
    omega
   have hno:proved.get (placeN size ((r / 2:Nat):Int) 1)=none:=by
    cases hg2:proved.get (placeN size ((r / 2:Nat):Int) 1) with
    | none=>rfl
    | some g =>
     exfalso
     have h3:=hin _ (Mm.get_mem hg2)
     have h4:cntL ((r / 2:Nat):Int) old=2:=by unfold cntL;rw [Int.toNat_natCast];exact hdv
     unfold placeN at h3
     simp only at h3
     rw [h4] at h3
     omega
   have hwh:=hq.whole hp hnil (fun x hx=>by simp at hx) _ (Mm.get_mem hg) hno
   have hw:(2:Int)≤(placeN size ((r / 2:Nat):Int) 1).2.2:=by unfold placeN;simp only;omega
   exact⟨hwh 1 (by omega) (by simp only;omega),fun _=>hwh 0 (by omega) (by simp only;omega)⟩
end
end
section
def readPl (size i:Nat):List (Pl×Nat):=(placeN size (-1) i,i % 4)::(pathS 64 0 size i).flatMap fun s=>rootPl size 64 s.1 s.2
end
section
structure Cl where
 key:List UInt8
 size:Nat
 root:List UInt8
 room:Int
 proved:Mm
structure Er where
 n:Int
 p:List UInt8
def Er.cp:Er:=⟨3,[]⟩
def Er.old:Er:=⟨4,[]⟩
def Er.proof:Er:=⟨5,[]⟩
def Er.tile (p:List UInt8):Er:=⟨6,p⟩
section
variable {σ : Type} (fe : σ → List UInt8 → (List UInt8 × Bool) × σ)
def readC (inc:List UInt8→Nat→Nat→List (List UInt8)→List UInt8→Bool)(c:Cl)(s:σ)(i:Nat):Sum Er (List UInt8×List (List UInt8))×Cl×σ :=
 match needM fe c.proved c.size ⟨s,[]⟩ (-1) i with
 | (.inl p,m)=>(.inl (.tile p),c,m.net)
 | (.inr own,m)=>match rootsM fe c.proved c.size m (pathS 64 0 c.size i) with
  | (.inl p,m)=>(.inl (.tile p),c,m.net)
  | (.inr ps,m)=>if inc own.hash i c.size ps c.root then (.inr (own.entry,ps),{ c with proved:=rememberM c.room c.proved (settleE c.size m.needed i own.hash) },m.net) else (.inl .proof,c,m.net)
def proveC (con:Nat→Nat→List UInt8→List UInt8→List (List UInt8)→Bool)(c:Cl)(s:σ)(n:Nat)(r:List UInt8):Sum Er (List (List UInt8))×Mm×σ :=
 if n < c.size then (.inl .old,c.proved,s)
 else if n=c.size then (if r=c.root then (.inr [],c.proved,s) else (.inl .proof,c.proved,s))
 else if c.size=0 then (.inr [],c.proved,s)
 else match rootsM fe c.proved n ⟨s,[]⟩ (partS 64 c.size 0 n true) with
  | (.inl p,m)=>(.inl (.tile p),c.proved,m.net)
  | (.inr ps,m)=>if con c.size n c.root r ps then (.inr ps,rememberM c.room c.proved (settleO n m.needed c.size c.root),m.net) else (.inl .proof,c.proved,m.net)
def updC (con:Nat→Nat→List UInt8→List UInt8→List (List UInt8)→Bool)(c:Cl)(s:σ)(o:Option (Nat×List UInt8)):Sum Er (List (List UInt8))×Cl×σ :=
 match o with
 | none=>(.inl .cp,c,s)
 | some (n,r)=>match proveC fe con c s n r with
  | (.inl e,_,s1)=>(.inl e,c,s1)
  | (.inr ps,pr,s1)=>(.inr ps,{ c with size:=n,root:=r,proved:=pr },s1)
end
def ChkIs (key:List UInt8)(x:List UInt8×Bool)(o:Option (Nat×List UInt8)):Prop:=match o with
 | some (n,r)=>x.2=true∧IsSign x.1 key n r
 | none=>x.2=false∨∀ n r,¬ IsSign x.1 key n r
theorem ChkIs.yes {key d:List UInt8}{o:Option (Nat×List UInt8)}{n:Nat}{r:List UInt8}(h:ChkIs key (d,true) o)(hs:IsSign d key n r):o=some (n,r):=by
 cases o with
 | none =>
  rcases h with h | h
  ·simp at h
  ·exact absurd hs (h n r)
 | some x =>
  obtain⟨n',r'⟩:=x
  obtain⟨rfl,rfl⟩:=h.2.inj hs
  rfl
section
variable {σ : Type} {fe : σ → List UInt8 → (List UInt8 × Bool) × σ}
structure Tru (fe:σ→List UInt8→(List UInt8×Bool)×σ)(I:σ→Prop)(say:Say)(es:List (List UInt8))(size:Nat):Prop where
 tells:Tells fe I say
 h20:∀ e∈es,e.length≤20
 le:size≤es.length
 lt:size < 2 ^ 63
 files:∀(l:Int) (j w:Nat),-1≤l→j < cntL l size→placeN size l j=(l,((j / 4:Nat):Int),(w:Int))→say (nameP (placeN size l j))=some (fileD es l (j / 4) w)
theorem placeN_wid (size:Nat)(l:Int)(j:Nat)(h:j < cntL l size):∃ w:Nat,placeN size l j=(l,((j / 4:Nat):Int),(w:Int))∧1≤w∧w≤4∧4*(j / 4)+w≤cntL l size:=by
 refine⟨min (cntL l size - j / 4*4) 4,?_,by omega,by omega,by omega⟩
 unfold placeN
 simp only [Prod.mk.injEq,true_and]
 omega
theorem Tru.file {I:σ→Prop}{say:Say}{es:List (List UInt8)}{size:Nat}(h:Tru fe I say es size)(l:Int)(hl:-1≤l)(j:Nat)(hj:j < cntL l size):∃ f,fileS say (placeN size l j)=some f∧GdF (TrueQ es) (placeN size l j) f:=by
 obtain⟨w,e,w1,w4,hw⟩:=placeN_wid size l j hj
 have hle:=cntL_mono l h.le
 obtain⟨f,hf,ht⟩:=read_true es h.h20 l hl (j / 4) w w1 w4 (by omega)
 have hc:=readF_came hf
 refine⟨f,?_,hc.len,fun k hk=>⟨fun hh=>by rw [hc.fits k] at hh;simp at hh,fun hh=>?_⟩⟩
 ·unfold fileS placeS
  rw [h.files l j w hl hj e,e]
  simp only
  rw [hf]
 ·rw [e]
  refine⟨ht k hk hh,?_⟩
  rw [hc.there k hk] at hh
  have:(k:Int) < w:=by simpa using hh
  unfold trueN
  simp only [Int.toNat_natCast]
  omega
theorem Tru.ctx {I:σ→Prop}{say:Say}{es:List (List UInt8)}{size:Nat}(h:Tru fe I say es size){proved:Mm}(hp:GdM (TrueQ es) proved):Ctx fe I (fileS say) (TrueQ es) (trueH es) proved size :=
 ⟨h.tells.says_file,trueQ_bare es,fun l j came hl hj e=>by
  obtain⟨f,e1,e2⟩:=h.file l hl j hj
  rw [e1] at e
  simp only [Option.some.injEq] at e
  rw [← e];exact e2,fun l j c _ hv=>trueP_hash es size l j c hv.1,hp⟩
theorem Tru.there {I:σ→Prop}{say:Say}{es:List (List UInt8)}{size:Nat}(h:Tru fe I say es size)(a n:Nat)(h1:a+n≤size)(h2:1≤n):∀ p∈rootPl size 64 a n,fileS say p.1≠none:=by
 intro p hp
 have:=h.lt
 obtain⟨l,j,rfl,-,hj,-⟩:=rootPl_in size h.lt 63 a n h1 h2 (by omega) p hp
 obtain⟨f,e,-⟩:=h.file (l:Int) (by omega) j hj
 simp only
 rw [e];simp
theorem Tru.roots {I:σ→Prop}{say:Say}{es:List (List UInt8)}{size:Nat}(h:Tru fe I say es size){proved:Mm}(hp:GdM (TrueQ es) proved)(ss:List (Nat×Nat))(m:Ms σ)(hm:GdM (TrueQ es) m.needed)(hI:I m.net)(hs:∀ s∈ss,s.1+s.2≤size∧1≤s.2)(ha:∀ s∈ss,Al s.1 s.2):
  ∃ m',rootsM fe proved size m ss=(.inr (ss.map fun s=>rootT (run es s)),m')∧GdM (TrueQ es) m'.needed∧I m'.net∧SeqN fe proved size m (ss.flatMap fun s=>rootPl size 64 s.1 s.2) m':=by
 have hlt:=h.lt
 obtain⟨m',g1,g2,e | ⟨s,hs',p,e,hp',hT⟩⟩:=rootsM_val (h.ctx hp) h.lt ss m hm hI hs
 ·have hx:(ss.map fun s=>rootH (trueH es) size 64 s.1 s.2)=ss.map fun s=>rootT (run es s):=by
   apply List.map_congr_left
   intro s hs'
   obtain⟨q1,q2⟩:=hs s hs'
   exact rootH_true es size h.le h.lt 63 s.1 s.2 q1 q2 (by omega) (ha s hs')
  rw [hx] at e
  exact⟨m',e,g1,g2,rootsM_seq h.lt ss m m' _ hs e⟩
 ·obtain⟨q1,q2⟩:=hs s hs'
  exact absurd hT (h.there s.1 s.2 q1 q2 p hp')
theorem read_truth {I:σ→Prop}{say:Say}{es:List (List UInt8)}{c:Cl}(h:Tru fe I say es c.size)(hp:GdM (TrueQ es) c.proved)(hn:InS c.size c.proved){s:σ}(hI:I s){i:Nat}(hi:i < c.size)(inc:List UInt8→Nat→Nat→List (List UInt8)→List UInt8→Bool)
  (hinc:inc (leafH (es.getD i [])) i c.size ((pathS 64 0 c.size i).map fun s=>rootT (run es s)) c.root=true) :
  ∃ m,SeqN fe c.proved c.size ⟨s,[]⟩ (readPl c.size i) m∧I m.net∧readC fe inc c s i=(.inr (es.getD i [],(pathS 64 0 c.size i).map fun s=>rootT (run es s)),{ c with proved:=rememberM c.room c.proved (settleE c.size m.needed i (leafH (es.getD i []))) },m.net) ∧
   GdM (TrueQ es) (rememberM c.room c.proved (settleE c.size m.needed i (leafH (es.getD i []))))∧InS c.size (rememberM c.room c.proved (settleE c.size m.needed i (leafH (es.getD i [])))):=by
 have hlt:=h.lt
 have hle:=h.le
 have hj:i < cntL (-1) c.size:=by simpa [cntL] using hi
 have hnil:GdM (TrueQ es) ([]:Mm):=gdM_nil _
 rcases needM_val (fe:=fe) (proved:=c.proved) (m:=⟨s,[]⟩) (l:=-1) (j:=i) h.tells.says_file (trueQ_bare es) (fun came e=>(h.ctx hp).told _ _ came (by omega) hj e) hp hnil hI hj with ⟨own,m1,e1,ht,hv,hg,hI1⟩ | ⟨m1,e1,e2,-,-⟩
 ·have ho:own.hash=leafH (es.getD i [])∧own.entry=es.getD i []:=by
   have:=hv.1.1 rfl
   rw [trueN_place] at this
   exact this
  have hin:∀ s∈pathS 64 0 c.size i,s.1+s.2≤c.size∧1≤s.2:=fun s hs=>by
   have:=pathS_in 64 0 c.size i (by omega) s hs
   omega
  obtain⟨m2,e2,g1,g2,hq⟩:=h.roots hp (pathS 64 0 c.size i) m1 hg hI1 hin (pathS_al 64 0 c.size i (by omega) (al_zero _))
  have hS:SeqN fe c.proved c.size ⟨s,[]⟩ (readPl c.size i) m2:= .cons hj e1 hq
  have hE:=settleE_gd es c.size m2.needed i (leafH (es.getD i [])) g1 (by omega) rfl
  refine⟨m2,hS,g2,?_,remember_gd c.room _ _ hp hE.2,InS.remember c.room _ _ hn ?_⟩
  ·unfold readC
   rw [e1]
   simp only
   rw [e2]
   simp only
   rw [ho.1,ho.2,hinc]
   rfl
  ·refine InS.keys (a:=m2.needed) ?_ (settleE_keys ..)
   intro x hx
   rcases hS.keys hp.wf (gdM_nil _) x hx with ⟨y,hy,-⟩ | ⟨q,hq',e⟩
   ·simp at hy
   ·rw [← e]
    rcases List.mem_cons.1 hq' with rfl | hq'
    ·exact placeN_in ..
    ·obtain⟨sp,h1,h2⟩:=List.mem_flatMap.1 hq'
     obtain⟨q1,q2⟩:=hin sp h1
     obtain⟨l,j,rfl,-⟩:=rootPl_in c.size hlt 63 sp.1 sp.2 q1 q2 (by omega) q h2
     exact placeN_in ..
 ·exfalso
  obtain⟨f,e,-⟩:=h.file (-1) (by omega) i hj
  rw [e] at e2
  simp at e2
theorem prove_truth {I:σ→Prop}{say:Say}{es:List (List UInt8)}{c:Cl}{n:Nat}(h:Tru fe I say es n)(hp:GdM (TrueQ es) c.proved)(hn:InS c.size c.proved){s:σ}(hI:I s)(hr:c.root=rootT (es.take c.size))(hc:c.size≤n)(con:Nat→Nat→List UInt8→List UInt8→List (List UInt8)→Bool)
  (hcon:0 < c.size→c.size < n→con c.size n c.root (rootT (es.take n)) ((partS 64 c.size 0 n true).map fun s=>rootT (run es s))=true) :
  ∃ pr s',proveC fe con c s n (rootT (es.take n))=(.inr (if 0 < c.size∧c.size < n then (partS 64 c.size 0 n true).map (fun s=>rootT (run es s)) else []),pr,s')∧GdM (TrueQ es) pr∧InS n pr∧I s'∧((pr=c.proved∧s'=s)∨∃ m2,SeqN fe c.proved n ⟨s,[]⟩ ((partS 64 c.size 0 n true).flatMap fun s=>rootPl n 64 s.1 s.2) m2∧pr=rememberM c.room c.proved (settleO n m2.needed c.size c.root)∧s'=m2.net∧0 < c.size):=by
 have hlt:=h.lt
 have hle:=h.le
 unfold proveC
 rw [if_neg (by omega)]
 by_cases e1:n=c.size
 ·rw [if_pos e1,if_pos (by rw [hr,e1]),if_neg (by omega)]
  exact⟨_,_,rfl,hp,e1▸hn,hI,.inl ⟨rfl,rfl⟩⟩
 ·rw [if_neg e1]
  by_cases e0:c.size=0
  ·rw [if_pos e0,if_neg (by omega)]
   exact⟨_,_,rfl,hp,hn.more (by omega),hI,.inl ⟨rfl,rfl⟩⟩
  ·rw [if_neg e0,if_pos (by omega)]
   have hin:∀ s∈partS 64 c.size 0 n true,s.1+s.2≤n∧1≤s.2:=fun s hs=>by
    have:=partS_in 64 c.size 0 n true (by omega) (by omega) (by omega) (by omega) s hs
    omega
   obtain⟨m2,e2,g1,g2,hq⟩:=h.roots hp (partS 64 c.size 0 n true) ⟨s,[]⟩ (gdM_nil _) hI hin (partS_al 64 c.size 0 n true (by omega) (by omega) (by omega) (al_zero _))
   rw [e2]
   simp only
   rw [hcon (by omega) (by omega)]
   have hO:=settleO_gd es n m2.needed c.size c.root g1 (by omega) (by omega) (by omega) hr (seq_settle hlt (by omega) (by omega) hp.wf hn hq)
   refine⟨_,_,rfl,remember_gd c.room _ _ hp hO.2,InS.remember c.room _ _ (hn.more hc) ?_,g2,.inr ⟨m2,hq,rfl,rfl,by omega⟩⟩
   refine InS.keys (a:=m2.needed) ?_ (settleO_keys ..)
   intro x hx
   rcases hq.keys hp.wf (gdM_nil _) x hx with ⟨y,hy,-⟩ | ⟨q,hq',e⟩
   ·simp at hy
   ·rw [← e]
    obtain⟨sp,h1,h2⟩:=List.mem_flatMap.1 hq'
    obtain⟨q1,q2⟩:=hin sp h1
    obtain⟨l,j,rfl,-⟩:=rootPl_in n hlt 63 sp.1 sp.2 q1 q2 (by omega) q h2
    exact placeN_in ..
theorem put_none (room:Int)(h:room≤0)(p:Pl)(f:Fl):Mm.put room [] p f=[]:=by
 unfold Mm.put Mm.drop
 rw [if_pos (by simp;omega)]
 rfl
theorem remember_none (room:Int)(h:room≤0):∀ nd:Mm,rememberM room [] nd=[]
 | []=>rfl
 | x::nd=>by
  show rememberM room (Mm.put room [] x.1 (fitF x.2)) nd=[]
  rw [put_none room h]
  exact remember_none room h nd
theorem put_one1 (m:Mm)(h:m.length≤1)(p:Pl)(f:Fl):m.put 1 p f=[(p,f)]:=by
 have hd:(m.drop p).length≤1:=Nat.le_trans (List.length_filter_le ..) h
 unfold Mm.put
 match hm:m.drop p,hd with
 | [],_=>rfl
 | [y],_=>rfl
theorem remember_short:∀(nd pr:Mm),pr.length≤1→(rememberM 1 pr nd).length≤1
 | [],pr,h=>h
 | x::nd,pr,h=>by
  show(rememberM 1 (pr.put 1 x.1 (fitF x.2)) nd).length≤1
  exact remember_short nd _ (by rw [put_one1 pr h];simp)
def Room (room:Int)(m:Mm):Prop:=(room≤0→m=[])∧(room=1→m.length≤1)
theorem Room.remember {room:Int}{m:Mm}(h:Room room m)(nd:Mm):Room room (rememberM room m nd) :=
 ⟨fun hr=>by rw [h.1 hr];exact remember_none room hr nd,fun hr=>by subst hr;exact remember_short nd m (h.2 rfl)⟩
theorem needM_cnt (cnt:σ→Int)(hc:∀ s p,cnt (fe s p).2=cnt s+1){proved:Mm}{size:Nat}{m m1:Ms σ}{l:Int}{j:Nat}{o:Sum (List UInt8) Pc}(h:needM fe proved size m l j=(o,m1)):
  cnt m.net≤cnt m1.net∧(((knownM proved m.needed (placeN size l j)).getD (j % 4) .no).there=false→cnt m.net < cnt m1.net):=by
 have hpl:∀ s p,cnt (placeM fe s p).2=cnt s+1:=fun s p=>hc s _
 have hfl:∀ s p,cnt s < cnt (fileM fe s p).2:=by
  intro s p
  have a1:=hpl s p
  unfold fileM
  cases e1:placeM fe s p with
  | mk o s1 =>
   rw [e1] at a1
   simp only at a1
   cases o with
   | some f=>simp only;omega
   | none =>
    simp only
    split
    ·simp only;omega
    ·have a2:=hpl s1 (p.1,p.2.1,4)
     cases e2:placeM fe s1 (p.1,p.2.1,4) with
     | mk o2 s2 =>
      rw [e2] at a2
      simp only at a2
      cases o2<;>simp only<;>omega
 unfold needM at h
 by_cases ht:((knownM proved m.needed (placeN size l j)).getD (j % 4) .no).there=true
 ·rw [if_pos ht] at h
  simp only [Prod.mk.injEq] at h
  obtain⟨-,rfl⟩:=h
  exact⟨Int.le_refl _,fun hh=>by rw [ht] at hh;simp at hh⟩
 ·rw [if_neg ht] at h
  have a1:=hfl m.net (placeN size l j)
  cases hf:fileM fe m.net (placeN size l j) with
  | mk o s =>
   rw [hf] at h a1
   cases o with
   | none =>
    simp only [Prod.mk.injEq] at h
    obtain⟨-,rfl⟩:=h
    simp only at *
    exact⟨by omega,fun _=>by omega⟩
   | some came =>
    simp only [Prod.mk.injEq] at h
    obtain⟨-,rfl⟩:=h
    simp only at *
    exact⟨by omega,fun _=>by omega⟩
theorem SeqN.cnt {proved:Mm}{size:Nat}{m m':Ms σ}{ps:List (Pl×Nat)}(h:SeqN fe proved size m ps m')(cnt:σ→Int)(hc:∀ s p,cnt (fe s p).2=cnt s+1):cnt m.net≤cnt m'.net:=by
 induction h using SeqN.ind with
 | nil m=>exact Int.le_refl _
 | cons hj e _ ih =>
  have:=(needM_cnt cnt hc e).1
  omega
end
end
end Go.Proofs.YtinhekmmdlhfkaaGreatDoor
