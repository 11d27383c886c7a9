import Derived.Test.YtinhekmmdlhfkaaGreatDoorG22
namespace Go.Proofs.YtinhekmmdlhfkaaGreatDoor
section
def TrueQ (es:List (List UInt8))(p:Pl)(k:Nat)(c:Pc):Prop:=TrueP es p k c∧trueN p k < cntL p.1 es.length
theorem trueQ_bare (es:List (List UInt8))(p:Pl)(k:Nat)(c:Pc)(b:Bool)(h:TrueQ es p k c):TrueQ es p k { c with fits:=b }:=h
theorem cntL_mono (l:Int){a b:Nat}(h:a≤b):cntL l a≤cntL l b:=Nat.div_le_div_right h
theorem dataF_run (es:List (List UInt8))(l k:Nat):dataF es (l:Int) k=rootT (run es (k*4 ^ l,4 ^ l)):=by
 unfold dataF run
 rw [if_neg (by omega),Int.toNat_natCast]
theorem rootT_two (es:List (List UInt8))(a q:Nat)(h:a+2 ^ (q+1)≤es.length):rootT (run es (a,2 ^ (q+1)))=nodeH (rootT (run es (a,2 ^ q))) (rootT (run es (a+2 ^ q,2 ^ q))):=by
 have hr:=run_len es a (2 ^ (q+1)) h
 have h2:2 ^ (q+1)=2*2 ^ q:=by rw [Nat.pow_succ];omega
 have hp:0 < 2 ^ q:=Nat.pow_pos (by omega)
 rw [rootT_split _ (by omega),hr,kOf_pow,run_take es a _ _ (by omega),run_drop]
 congr 4
 omega
theorem dataF_up (es:List (List UInt8))(l k:Nat)(h:4*k+3 < cntL (l:Int) es.length):
  dataF es ((l+1:Nat):Int) k=nodeH (nodeH (dataF es (l:Int) (4*k)) (dataF es (l:Int) (4*k+1))) (nodeH (dataF es (l:Int) (4*k+2)) (dataF es (l:Int) (4*k+3))):=by
 simp only [dataF_run]
 have hp:0 < 4 ^ l:=Nat.pow_pos (by omega)
 have hl:(4*k+4)*4 ^ l≤es.length:=by
  unfold cntL at h
  rw [Int.toNat_natCast] at h
  exact(Nat.le_div_iff_mul_le hp).1 h
 have e0:4 ^ l=2 ^ (2*l):=four_pow l
 have e1:4 ^ (l+1)=2 ^ (2*l+1+1):=by rw [four_pow];congr 1
 have e2:2 ^ (2*l+1+1)=4*4 ^ l:=by rw [e0,Nat.pow_succ,Nat.pow_succ];omega
 have e3:2 ^ (2*l+1)=2*4 ^ l:=by rw [e0,Nat.pow_succ];omega
 have hk:k*4 ^ (l+1)=4*k*4 ^ l:=by rw [e1,e2,Nat.mul_comm 4 k,Nat.mul_assoc]
 rw [Nat.add_mul] at hl
 rw [hk,e1,rootT_two es _ _ (by rw [e2];exact hl),rootT_two es _ _ (by rw [e3];omega),rootT_two es _ _ (by rw [e3];omega),e3,← e0]
 congr 4
 ·congr 2;rw [Nat.add_mul];omega
 ·congr 2;rw [Nat.add_mul]
 ·congr 2;rw [Nat.add_mul];omega
theorem trueQ_new (es:List (List UInt8))(size l j:Nat)(h:List UInt8)(hj:j < cntL (l:Int) es.length)(hh:h=dataF es (l:Int) j):TrueQ es (placeN size (l:Int) j) (j % 4) ⟨true,true,h,[]⟩:=by
 refine⟨⟨fun e=>?_,fun _=>?_⟩,?_⟩
 ·have:((l:Nat):Int)=-1:=e
  omega
 ·rw [trueN_place];exact hh
 ·rw [trueN_place];exact hj
theorem GdF.set {V:Pl→Nat→Pc→Prop}{p:Pl}{f:Fl}(h:GdF V p f){k:Nat}{c:Pc}(hc:Gd V p k c):GdF V p (f.set k c):=by
 refine⟨by rw [List.length_set];exact h.1,fun i hi=>?_⟩
 rw [set_get]
 split
 ·rename_i hh
  obtain⟨rfl,-⟩:=hh
  exact hc
 ·exact h.2 i hi
theorem rootP_some {f:Fl}{u:List UInt8}(h:rootP f=some u):f.length=4∧(∀ k,k < 4→(f.getD k .no).fits=true)∧u=nodeH (nodeH (f.getD 0 .no).hash (f.getD 1 .no).hash) (nodeH (f.getD 2 .no).hash (f.getD 3 .no).hash):=by
 match f,h with
 | [a,b,c,d],h =>
  unfold rootP at h
  simp only at h
  split at h
  ·rename_i hf
   simp only [Bool.and_eq_true] at hf
   simp only [Option.some.injEq] at h
   refine⟨rfl,fun k hk=>?_,h.symm⟩
   match k,hk with
   | 0,_=>exact hf.1.1.1
   | 1,_=>exact hf.1.1.2
   | 2,_=>exact hf.1.2
   | 3,_=>exact hf.2
  ·simp at h
theorem settleM_gd (es:List (List UInt8))(size:Nat):∀(f:Nat) (nd:Mm) (l j:Nat) (h:List UInt8),GdM (TrueQ es) nd→j < cntL (l:Int) es.length→h=dataF es (l:Int) j→GdM (TrueQ es) (settleM size f nd l j h):=by
 intro f
 induction f with
 | zero=>intro nd l j h hn _ _;exact hn
 | succ f ih =>
  intro nd l j h hn hj hh
  rw [settleM]
  cases hg:nd.get (placeN size (l:Int) j) with
  | none=>exact hn
  | some fl =>
   simp only
   have hF:GdF (TrueQ es) (placeN size (l:Int) j) (fl.set (j % 4) ⟨true,true,h,[]⟩):=(hn.get hg).set ⟨fun _=>rfl,fun _=>trueQ_new es size l j h hj hh⟩
   have hS:=hn.set hF
   cases hr:rootP (fl.set (j % 4) ⟨true,true,h,[]⟩) with
   | none=>exact hS
   | some up =>
    simp only
    obtain⟨r1,r2,r3⟩:=rootP_some hr
    have hq:∀ k,k < 4→((fl.set (j % 4) ⟨true,true,h,[]⟩).getD k .no).hash=dataF es (l:Int) (4*(j / 4)+k)∧4*(j / 4)+k < cntL (l:Int) es.length:=by
     intro k hk
     obtain⟨g1,g2⟩:=hF.2 k hk
     obtain⟨⟨-,t1⟩,t2⟩:=g2 (g1 (r2 k hk))
     have e:trueN (placeN size (l:Int) j) k=4*(j / 4)+k:=by unfold trueN placeN;simp only [Int.toNat_natCast]
     rw [e] at t1 t2
     exact⟨t1 (by show((l:Nat):Int)≠-1;omega),t2⟩
    have q3:=(hq 3 (by omega)).2
    refine ih _ (l+1) (j / 4) up hS ?_ ?_
    ·unfold cntL at *
     rw [Int.toNat_natCast] at *
     rw [Nat.pow_succ,← Nat.div_div_eq_div_mul]
     omega
    ·rw [r3,(hq 0 (by omega)).1,(hq 1 (by omega)).1,(hq 2 (by omega)).1,(hq 3 (by omega)).1]
     exact(dataF_up es l (j / 4) q3).symm
theorem settleM_keys (size:Nat):∀(f:Nat) (nd:Mm) (l j:Nat) (h:List UInt8),(settleM size f nd l j h).map (·.1)=nd.map (·.1):=by
 intro f
 induction f with
 | zero=>intro nd l j h;rfl
 | succ f ih =>
  intro nd l j h
  rw [settleM]
  cases hg:nd.get (placeN size (l:Int) j) with
  | none=>rfl
  | some fl =>
   simp only
   cases hr:rootP (fl.set (j % 4) ⟨true,true,h,[]⟩) with
   | none=>exact Mm.set_keys _ _ _
   | some up=>rw [ih];exact Mm.set_keys _ _ _
theorem besideF_get (b l:Fl)(hb:b.length=4)(hl:l.length=4)(k:Nat)(hk:k < 4):(besideF b l).getD k .no=if ((b.getD k .no).there&&(l.getD k .no).fits&&decide ((b.getD k .no).hash=(l.getD k .no).hash))=true then { b.getD k .no with fits:=true } else b.getD k .no:=by
 have h1:k < b.length:=by omega
 have h2:k < l.length:=by omega
 unfold besideF
 simp only [List.getD_eq_getElem?_getD,List.getElem?_zipWith,List.getElem?_eq_getElem h1,List.getElem?_eq_getElem h2,Option.getD_some]
theorem besideF_len (b l:Fl)(hb:b.length=4)(hl:l.length=4):(besideF b l).length=4:=by simp [besideF,hb,hl]
theorem besideF_gd {V:Pl→Nat→Pc→Prop}(hV:∀ p k c b,V p k c→V p k { c with fits:=b }){p:Pl}{b l:Fl}(hb:GdF V p b)(hl:l.length=4):GdF V p (besideF b l):=by
 refine⟨besideF_len b l hb.1 hl,fun k hk=>?_⟩
 rw [besideF_get b l hb.1 hl k hk]
 split
 ·rename_i h
  simp only [Bool.and_eq_true] at h
  exact⟨fun _=>h.1.1,fun ht=>hV _ _ _ _ ((hb.2 k hk).2 ht)⟩
 ·exact hb.2 k hk
theorem settleE_any {V:Pl→Nat→Pc→Prop}(hV:∀ p k c b,V p k c→V p k { c with fits:=b })(size:Nat)(nd:Mm)(i:Nat)(leaf:List UInt8)(h:GdM V (settleM size 64 nd 0 i leaf)):GdM V (settleE size nd i leaf):=by
 unfold settleE
 cases h1:(settleM size 64 nd 0 i leaf).get (placeN size 0 i) with
 | none=>exact h
 | some ls =>
  simp only
  cases h2:(settleM size 64 nd 0 i leaf).get (placeN size (-1) i) with
  | none=>exact h
  | some b=>exact h.set (besideF_gd hV (h.get h2) (h.get h1).1)
theorem settleE_gd (es:List (List UInt8))(size:Nat)(nd:Mm)(i:Nat)(leaf:List UInt8)(h:GdM (TrueQ es) nd)(hi:i < es.length)(hl:leaf=leafH (es.getD i [])):GdM (TrueQ es) (settleE size nd i leaf):=by
 refine settleE_any (trueQ_bare es) size nd i leaf (settleM_gd es size 64 nd 0 i leaf h (by simpa [cntL] using hi) ?_)
 rw [hl,dataF_run]
 have:run es (i*4 ^ 0,4 ^ 0)=[es.getD i []]:=by
  unfold run
  simp only [Nat.pow_zero,Nat.mul_one]
  rw [List.drop_eq_getElem_cons hi,List.getD_eq_getElem?_getD,List.getElem?_eq_getElem hi]
  rfl
 rw [this,rootT_one]
theorem settleE_keys (size:Nat)(nd:Mm)(i:Nat)(leaf:List UInt8):(settleE size nd i leaf).map (·.1)=nd.map (·.1):=by
 unfold settleE
 cases h1:(settleM size 64 nd 0 i leaf).get (placeN size 0 i) with
 | none=>exact settleM_keys ..
 | some ls =>
  simp only
  cases h2:(settleM size 64 nd 0 i leaf).get (placeN size (-1) i) with
  | none=>exact settleM_keys ..
  | some b=>simp only;rw [Mm.set_keys];exact settleM_keys ..
end
section
theorem two_odd (a b x y:Nat)(h:2 ^ a*(2*x+1)=2 ^ b*(2*y+1)):a=b:=by
 rcases Nat.lt_trichotomy a b with hlt | heq | hgt
 ·obtain⟨c,rfl⟩:∃ c,b=a+(c+1):=⟨b - a - 1,by omega⟩
  rw [Nat.pow_add,Nat.mul_assoc] at h
  have:=Nat.eq_of_mul_eq_mul_left (Nat.pow_pos (by omega)) h
  rw [Nat.pow_succ,Nat.mul_comm _ 2,Nat.mul_assoc] at this
  omega
 ·exact heq
 ·obtain⟨c,rfl⟩:∃ c,a=b+(c+1):=⟨a - b - 1,by omega⟩
  rw [Nat.pow_add,Nat.mul_assoc] at h
  have:=Nat.eq_of_mul_eq_mul_left (Nat.pow_pos (by omega)) h
  rw [Nat.pow_succ,Nat.mul_comm _ 2,Nat.mul_assoc] at this
  omega
theorem lvl_of (r c:Nat)(h:2 ^ r*(2*c+1) < 2 ^ 64):lvl (2 ^ r*(2*c+1))=r / 2:=by
 have hp:0 < 2 ^ r:=Nat.pow_pos (by omega)
 obtain⟨m,hm,-⟩:=ctz_spec (2 ^ r*(2*c+1)) (Nat.mul_pos hp (by omega)) h
 unfold lvl
 rw [← two_odd _ _ _ _ hm]
theorem lvl_two (r:Nat)(h:r < 64):lvl (2 ^ r)=r / 2:=by
 have:=lvl_of r 0 (by simpa using Nat.pow_lt_pow_right (by omega:1 < 2) h)
 simpa using this
theorem rootPl_in (size:Nat)(hs:size < 2 ^ 63):∀(f a n:Nat),a+n≤size→1≤n→n≤2 ^ f→∀ p∈rootPl size (f+1) a n,∃ l j:Nat,p=(placeN size (l:Int) j,j % 4)∧a / 4 ^ l≤j∧j < cntL (l:Int) size∧4 ^ l≤n:=by
 have base:∀(f a n:Nat),a+n≤size→1≤n→n / 4 ^ lvl n=1→∀ p∈rootPl size (f+1) a n,∃ l j:Nat,p=(placeN size (l:Int) j,j % 4)∧a / 4 ^ l≤j∧j < cntL (l:Int) size∧4 ^ l≤n:=by
  intro f a n hl h1 he p hp
  obtain⟨-,-,hiff⟩:=lvl_spec n h1 (by omega)
  rw [rootPl,if_pos he] at hp
  obtain rfl:=List.mem_singleton.1 hp
  exact⟨lvl n,a / 4 ^ lvl n,rfl,Nat.le_refl _,run_in' a n (lvl n) size hl (hiff.1 he),by rw [← hiff.1 he];exact Nat.le_refl _⟩
 intro f
 induction f with
 | zero =>
  intro a n hl h1 h2
  obtain rfl:n=1:=by omega
  exact base 0 a 1 hl (by omega) (by decide)
 | succ f ih =>
  intro a n hl h1 h2 p hp
  by_cases he:n / 4 ^ lvl n=1
  ·exact base (f+1) a n hl h1 he p hp
  ·have hn2:2≤n:=by
    rcases Nat.lt_or_ge n 2 with h | h
    ·exact absurd (by obtain rfl:n=1:=by omega
                      decide) he
    ·exact h
   obtain⟨k1,k2,k3,k4,k5,k6⟩:=kOf_half n f hn2 h2
   rw [rootPl,if_neg he] at hp
   rcases List.mem_append.1 hp with hp | hp
   ·obtain⟨l,j,e,g1,g2,g3⟩:=ih a (kOf n) (by omega) k3 k1 p hp
    exact⟨l,j,e,g1,g2,by omega⟩
   ·obtain⟨l,j,e,g1,g2,g3⟩:=ih (a+kOf n) (n - kOf n) (by omega) k4 k2 p hp
    exact⟨l,j,e,Nat.le_trans (Nat.div_le_div_right (by omega)) g1,g2,by omega⟩
theorem partS_last:∀(f old a n:Nat) (whole:Bool),n≤2 ^ f→Al a n→a < old→old < a+n→(whole=true→a=0)→(∀ r,old≠2 ^ r)→∃ a' r,(a',2 ^ r)∈partS f old a n whole∧a'+2 ^ r=old∧2 ^ (r+1) ∣ a':=by
 intro f
 induction f with
 | zero=>intro old a n whole h _ h1 h2 _ _;simp at h;omega
 | succ f ih =>
  intro old a n whole h ha h1 h2 hw hp
  obtain⟨k1,k2,k3,k4,k5,k6⟩:=kOf_half n f (by omega) h
  by_cases hk:old≤a+kOf n
  ·rw [partS_left f old a n whole (by omega) hk]
   by_cases he:old=a+kOf n
   ·obtain⟨q,hq⟩:=kOf_two n
    have hwf:whole=false:=by
     cases whole with
     | false=>rfl
     | true =>
      have:=hw rfl
      exact absurd (by omega:old=2 ^ q) (hp q)
    subst hwf
    refine⟨a,q,List.mem_append.2 (.inl ?_),by omega,?_⟩
    ·rw [partS_end _ _ _ _ _ he,hq];simp
    ·obtain⟨e,e1,e2⟩:=ha
     refine Nat.dvd_trans (Nat.pow_dvd_pow 2 ?_) e2
     have:2 ^ q < 2 ^ e:=by omega
     exact(Nat.pow_lt_pow_iff_right (by omega:1 < 2)).1 this
   ·obtain⟨a',r,g1,g2,g3⟩:=ih old a (kOf n) whole k1 (ha.left (by omega)) h1 (by omega) hw hp
    exact⟨a',r,List.mem_append.2 (.inl g1),g2,g3⟩
  ·rw [partS_right f old a n whole (by omega) hk]
   obtain⟨a',r,g1,g2,g3⟩:=ih old (a+kOf n) (n - kOf n) false k2 (ha.right (by omega)) (by omega) (by omega) (by simp) hp
   exact⟨a',r,List.mem_append.2 (.inl g1),g2,g3⟩
theorem partS_later (r:Nat):∀(f n:Nat),n≤2 ^ f→2 ^ r≤n→∀ s∈partS f (2 ^ r) 0 n true,2 ^ r≤s.1:=by
 intro f
 induction f with
 | zero =>
  intro n h h1 s hs
  have:0 < 2 ^ r:=Nat.pow_pos (by omega)
  rw [partS_end _ _ _ _ _ (by simp at h;omega)] at hs
  simp at hs
 | succ f ih =>
  intro n h h1 s hs
  have hp:0 < 2 ^ r:=Nat.pow_pos (by omega)
  by_cases he:2 ^ r=0+n
  ·rw [partS_end _ _ _ _ _ he] at hs;simp at hs
  ·obtain⟨k1,k2,k3,k4,k5,k6⟩:=kOf_half n f (by omega) h
   obtain⟨q,hq⟩:=kOf_two n
   have hrk:2 ^ r≤kOf n:=by
    rw [hq]
    refine Nat.pow_le_pow_right (by omega) ?_
    have:2 ^ r < 2 ^ (q+1):=by rw [Nat.pow_succ];omega
    have:=(Nat.pow_lt_pow_iff_right (by omega:1 < 2)).1 this
    omega
   rw [partS_left f _ 0 n true he (by omega)] at hs
   rcases List.mem_append.1 hs with hs | hs
   ·exact ih (kOf n) k1 hrk s hs
   ·obtain rfl:=List.mem_singleton.1 hs
    simp only;omega
theorem rootPl_last (size a r:Nat)(hs:size < 2 ^ 63)(h:a+2 ^ r≤size)(hd:2 ^ (r+1) ∣ a):(placeN size ((r / 2:Nat):Int) ((a+2 ^ r) / 4 ^ (r / 2) - 1),((a+2 ^ r) / 4 ^ (r / 2) - 1) % 4)∈rootPl size 64 a (2 ^ r):=by
 have hr:r < 63:=by
  have:2 ^ r < 2 ^ 63:=by omega
  exact(Nat.pow_lt_pow_iff_right (by omega:1 < 2)).1 this
 have hp:0 < 4 ^ (r / 2):=Nat.pow_pos (by omega)
 rcases Nat.mod_two_eq_zero_or_one r with h0 | h1
 ·have e:2 ^ r=4 ^ (r / 2):=by rw [four_pow];congr 1;omega
  have hl:lvl (2 ^ r)=r / 2:=lvl_two r (by omega)
  rw [rootPl,if_pos (by rw [hl,e];exact Nat.div_self hp),hl,e,Nat.add_div_right _ hp]
  simp
 ·obtain⟨c,rfl⟩:∃ c,r=2*c+1:=⟨r / 2,by omega⟩
  have hc:(2*c+1) / 2=c:=by omega
  rw [hc] at hp ⊢
  have e:2 ^ (2*c+1)=2*4 ^ c:=by rw [Nat.pow_succ,four_pow];omega
  have hl:lvl (2 ^ (2*c+1))=c:=by rw [lvl_two _ (by omega)];omega
  have hk:kOf (2 ^ (2*c+1))=4 ^ c:=by rw [kOf_pow,four_pow]
  rw [rootPl,if_neg (by rw [hl,e,Nat.mul_div_cancel _ hp];omega),hk]
  refine List.mem_append.2 (.inr ?_)
  rw [e,show 2*4 ^ c - 4 ^ c=4 ^ c by omega]
  have hl4:lvl (4 ^ c)=c:=lvl_pow c (by omega)
  rw [rootPl,if_pos (by rw [hl4];exact Nat.div_self hp),hl4]
  have:(a+2*4 ^ c) / 4 ^ c - 1=(a+4 ^ c) / 4 ^ c:=by
   rw [show a+2*4 ^ c=a+4 ^ c+4 ^ c by omega,Nat.add_div_right _ hp];rfl
  rw [this]
  exact List.mem_singleton.2 rfl
def InS (size:Nat)(m:Mm):Prop:=∀ x∈m,4*x.1.2.1+x.1.2.2≤(cntL x.1.1 size:Int)
theorem InS.more {a b:Nat}{m:Mm}(h:InS a m)(hab:a≤b):InS b m:=fun x hx=>by
 have h1:=h x hx
 have h2:=cntL_mono x.1.1 hab
 omega
theorem placeN_in (size:Nat)(l:Int)(j:Nat):4*(placeN size l j).2.1+(placeN size l j).2.2≤(cntL (placeN size l j).1 size:Int):=by
 unfold placeN;simp only;omega
theorem InS.put {size:Nat}{m:Mm}(h:InS size m)(room:Int)(p:Pl)(f:Fl)(hp:4*p.2.1+p.2.2≤(cntL p.1 size:Int)):InS size (m.put room p f):=by
 intro x hx
 rcases Mm.put_mem hx with rfl | ⟨h1,-⟩
 ·exact hp
 ·exact h x h1
theorem InS.remember {size:Nat}(room:Int):∀(nd pr:Mm),InS size pr→InS size nd→InS size (rememberM room pr nd)
 | [],pr,h,_=>h
 | x::nd,pr,h,hn=>by
  show InS size (rememberM room (pr.put room x.1 (fitF x.2)) nd)
  exact InS.remember room nd _ (h.put room _ _ (hn x (by simp))) (fun y hy=>hn y (by simp [hy]))
theorem InS.keys {size:Nat}{a b:Mm}(h:InS size a)(e:b.map (·.1)=a.map (·.1)):InS size b:=by
 intro x hx
 have:x.1∈a.map (·.1):=by rw [← e];exact List.mem_map_of_mem hx
 obtain⟨y,hy,ey⟩:=List.mem_map.1 this
 rw [← ey];exact h y hy
theorem settleO_gd (es:List (List UInt8))(size:Nat)(nd:Mm)(old:Nat)(root:List UInt8)(hn:GdM (TrueQ es) nd)(h1:1≤old)(h2:old≤es.length)(h3:old < 2 ^ 64)(hr:root=rootT (es.take old))
  (hth:∀ fl,nd.get (placeN size (lvl old:Nat) (old / 4 ^ lvl old - 1))=some fl→old / 4 ^ lvl old - 1≠0→(fl.getD ((old / 4 ^ lvl old - 1) % 4) .no).there=true∧(old / 4 ^ lvl old - 1=1→(fl.getD 0 .no).there=true)):GdM (TrueQ es) (settleO size nd old root):=by
 obtain⟨hd,-,hiff⟩:=lvl_spec old h1 h3
 have hp:0 < 4 ^ lvl old:=Nat.pow_pos (by omega)
 have hq:1≤old / 4 ^ lvl old:=by
  exact Nat.div_pos (Nat.le_of_dvd h1 hd) hp
 have hcnt:old / 4 ^ lvl old≤cntL ((lvl old:Nat):Int) es.length:=by
  unfold cntL;rw [Int.toNat_natCast];exact Nat.div_le_div_right h2
 have htr:∀ fl,nd.get (placeN size (lvl old:Nat) (old / 4 ^ lvl old - 1))=some fl→(fl.getD ((old / 4 ^ lvl old - 1) % 4) .no).there=true→(fl.getD ((old / 4 ^ lvl old - 1) % 4) .no).hash=dataF es ((lvl old:Nat):Int) (old / 4 ^ lvl old - 1):=by
  intro fl hg ht
  obtain⟨⟨-,t⟩,-⟩:=((hn.get hg).2 _ (Nat.mod_lt _ (by omega))).2 ht
  rw [trueN_place] at t
  exact t (by show((lvl old:Nat):Int)≠-1;omega)
 unfold settleO
 cases hg:nd.get (placeN size (lvl old:Nat) (old / 4 ^ lvl old - 1)) with
 | none=>exact hn
 | some fl =>
  simp only
  have hh:=hth fl hg
  have ht:=htr fl hg
  by_cases c0:old / 4 ^ lvl old - 1=0
  ·rw [if_pos c0]
   refine settleM_gd es size 64 nd (lvl old) 0 root hn (by omega) ?_
   rw [hr,dataF_run,Nat.zero_mul]
   have:old=4 ^ lvl old:=hiff.1 (by omega)
   unfold run
   simp only [List.drop_zero]
   rw [← this]
  ·rw [if_neg c0]
   obtain⟨g1,g2⟩:=hh c0
   by_cases c1:old / 4 ^ lvl old - 1=1
   ·rw [if_pos c1]
    rw [c1] at g1 ht hg
    have g3:=g2 c1
    split
    ·refine settleM_gd es size 64 _ (lvl old) 1 _ (hn.set ((hn.get hg).fitsAt (trueQ_bare es) g3)) (by omega) (ht g1)
    ·exact hn
   ·rw [if_neg c1]
    exact settleM_gd es size 64 nd (lvl old) _ _ hn (by omega) (ht g1)
theorem settleO_keys (size:Nat)(nd:Mm)(old:Nat)(root:List UInt8):(settleO size nd old root).map (·.1)=nd.map (·.1):=by
 unfold settleO
 cases hg:nd.get (placeN size (lvl old:Nat) (old / 4 ^ lvl old - 1)) with
 | none=>rfl
 | some fl =>
  simp only
  split
  ·exact settleM_keys ..
  ·split
   ·split
    ·rw [settleM_keys,Mm.set_keys]
    ·rfl
   ·exact settleM_keys ..
section
variable {σ : Type} {fe : σ → List UInt8 → (List UInt8 × Bool) × σ}
theorem seq_settle {proved:Mm}{size old:Nat}{s:σ}{m':Ms σ}(hs:size < 2 ^ 63)(h1:1≤old)(h2:old < size)(hp:WfM proved)(hin:InS old proved)(hq:SeqN fe proved size ⟨s,[]⟩ ((partS 64 old 0 size true).flatMap fun x=>rootPl size 64 x.1 x.2) m'):
  ∀ fl,m'.needed.get (placeN size (lvl old:Nat) (old / 4 ^ lvl old - 1))=some fl→old / 4 ^ lvl old - 1≠0→(fl.getD ((old / 4 ^ lvl old - 1) % 4) .no).there=true∧(old / 4 ^ lvl old - 1=1→(fl.getD 0 .no).there=true):=by
 intro fl hg hn0
 have hnil:WfM (⟨s,[]⟩:Ms σ).needed:=gdM_nil _
 by_cases hpow:∀ r,old≠2 ^ r
 ·obtain⟨a',r,g1,g2,g3⟩:=partS_last 64 old 0 size true (by omega) (al_zero _) (by omega) (by omega) (fun _=>rfl) hpow
  obtain⟨c,hc⟩:=g3
  have he:old=2 ^ r*(2*c+1):=by rw [← g2,hc,Nat.pow_succ,Nat.mul_add,Nat.mul_one,Nat.mul_assoc]
  have hl:lvl old=r / 2:=by rw [he];exact lvl_of r c (by omega)
  have hmem:=rootPl_last size a' r hs (by omega) ⟨c,hc⟩
  rw [g2,← hl] at hmem
  obtain⟨f',f1,f2,f3,f4⟩:=(hq.has hp hnil).1 _ (List.mem_flatMap.2 ⟨_,g1,hmem⟩)
  simp only at f1 f3
  rw [hg] at f1
  simp only [Option.some.injEq] at f1
  subst f1
  refine⟨f3,fun e1=>?_⟩
  exfalso
  have hp4:0 < 4 ^ (r / 2):=Nat.pow_pos (by omega)
  have hd:old / 4 ^ lvl old=2:=by omega
  rw [hl,he] at hd
  rcases Nat.mod_two_eq_zero_or_one r with h0 | h1
  ·have e:2 ^ r=4 ^ (r / 2):=by rw [four_pow];congr 1;omega
   rw [e,Nat.mul_div_cancel_left _ hp4] at hd
   omega
  ·have e:2 ^ r=4 ^ (r / 2)*2:=by rw [four_pow,← Nat.pow_succ];congr 1;omega
   rw [e,Nat.mul_assoc,Nat.mul_div_cancel_left _ hp4] at hd
   have:c=0:=by omega
   subst this
   exact hpow r (by rw [he];simp)
 ·obtain⟨r,hr⟩:∃ r,old=2 ^ r:=by
   rcases Classical.em (∃ r,old=2 ^ r) with h | h
   ·exact h
   ·exact absurd (fun r e=>h ⟨r,e⟩) hpow
  have hr64:r < 64:=by
   have:2 ^ r < 2 ^ 64:=by omega
   exact(Nat.pow_lt_pow_iff_right (by omega:1 < 2)).1 this
  have hl:lvl old=r / 2:=by rw [hr];exact lvl_two r hr64
  have hp4:0 < 4 ^ (r / 2):=Nat.pow_pos (by omega)
  have hdv:old / 4 ^ (r / 2)=2:=by
   rcases Nat.mod_two_eq_zero_or_one r with h0 | h1
   ·exfalso
    apply hn0
    have e:2 ^ r=4 ^ (r / 2):=by rw [four_pow];congr 1;omega
    rw [hl,hr,e,Nat.div_self hp4]
   ·have e:2 ^ r=4 ^ (r / 2)*2:=by rw [four_pow,← Nat.pow_succ];congr 1;omega
    rw [hr,e,Nat.mul_div_cancel_left _ hp4]
  rw [hl,hdv] at hg hn0 ⊢
  simp only [Nat.reduceSub] at hg hn0 ⊢
  have hk:=hq.keys hp hnil _ (Mm.get_mem hg)
  rcases hk with ⟨y,hy,-⟩ | ⟨q,hqm,eq⟩
  ·simp at hy
  ·simp only at eq
   obtain⟨sp,hsp,hqs⟩:=List.mem_flatMap.1 hqm
   have hlat:=partS_later r 64 size (by omega) (by omega) sp (by rw [← hr];exact hsp)
   obtain⟨i1,i2,i3⟩:=partS_in 64 old 0 size true (by omega) (by omega) (by omega) (by omega) sp hsp
   obtain⟨l',j',e1,e2,e3,-⟩:=rootPl_in size hs 63 sp.1 sp.2 (by omega) i3 (by omega) q hqs
   rw [e1] at eq
   simp only at eq
   have hpl:l'=r / 2∧j' / 4=0:=by
    unfold placeN at eq
    simp only [Prod.mk.injEq] at eq
    have q1:=eq.1
    have q2:=eq.2.1
    exact⟨by omega,by omega⟩
   obtain⟨rfl,hj0⟩:=hpl
   have hj2:2≤j':=by
    have:old / 4 ^ (r / 2)≤sp.1 / 4 ^ (r / 2):=Nat.div_le_div_right (by omega)
    omega
   have hno:proved.get (placeN size ((r / 2:Nat):Int) 1)=none:=by
    cases hg2:proved.get (placeN size ((r / 2:Nat):Int) 1) with
    | none=>rfl
    | some g =>
     exfalso
     have h3:=hin _ (Mm.get_mem hg2)
     have h4:cntL ((r / 2:Nat):Int) old=2:=by unfold cntL;rw [Int.toNat_natCast];exact hdv
     unfold placeN at h3
     simp only at h3
     rw [h4] at h3
     omega
   have hwh:=hq.whole hp hnil (fun x hx=>by simp at hx) _ (Mm.get_mem hg) hno
   have hw:(2:Int)≤(placeN size ((r / 2:Nat):Int) 1).2.2:=by unfold placeN;simp only;omega
   exact⟨hwh 1 (by omega) (by simp only;omega),fun _=>hwh 0 (by omega) (by simp only;omega)⟩
end
end
section
def readPl (size i:Nat):List (Pl×Nat):=(placeN size (-1) i,i % 4)::(pathS 64 0 size i).flatMap fun s=>rootPl size 64 s.1 s.2
end
end Go.Proofs.YtinhekmmdlhfkaaGreatDoor
