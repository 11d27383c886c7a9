import Derived.Test.YtinhekmmdlhfkaaGreatDoorG23
namespace Go.Proofs.YtinhekmmdlhfkaaGreatDoor
section
def zap (es:List (List UInt8))(p:Pl)(k:Nat)(c:Pc):Prop:=z4f es p k c∧zc0 p k < zz p.1 es.length
theorem ze7 (es:List (List UInt8))(p:Pl)(k:Nat)(c:Pc)(b:Bool)(h:zap es p k c):zap es p k { c with fits:=b }:=h
theorem zhl (l:Int){a b:Nat}(h:a≤b):zz l a≤zz l b:=Nat.div_le_div_right h
theorem zug (es fs:List (List UInt8))(l:Int)(k:Nat)(h:k < zz l es.length):ql (es++fs) l k=ql es l k:=by
 have:=zko (es++fs) es.length l k h (by simp)
 rw [List.take_left'] at this
 ·exact this.symm
 ·rfl
theorem zva {es:List (List UInt8)}{p:Pl}{k:Nat}{c:Pc}(h:zap es p k c)(fs:List (List UInt8)):zap (es++fs) p k c:=by
 obtain⟨⟨h1,h2⟩,h3⟩:=h
 refine⟨⟨fun e=>?_,fun e=>?_⟩,Nat.lt_of_lt_of_le h3 (zhl _ (by simp))⟩
 ·have hl:zc0 p k < es.length:=by rw [e] at h3;simpa [zz] using h3
  have:(es++fs).getD (zc0 p k) []=es.getD (zc0 p k) []:=by
   simp only [List.getD_eq_getElem?_getD,List.getElem?_append_left hl]
  rw [this];exact h1 e
 ·rw [zug es fs _ _ h3];exact h2 e
theorem GdF.weak {V V':Pl→Nat→Pc→Prop}{p:Pl}{f:Fl}(h:GdF V p f)(hv:∀ k c,V p k c→V' p k c):GdF V' p f:=⟨h.1,fun k hk=>⟨(h.2 k hk).1,fun ht=>hv k _ ((h.2 k hk).2 ht)⟩⟩
theorem GdM.weak {V V':Pl→Nat→Pc→Prop}{m:Mm}(h:GdM V m)(hv:∀ p k c,V p k c→V' p k c):GdM V' m:=⟨h.1,fun x hx=>(h.2 x hx).weak (hv x.1)⟩
theorem zj0 (es:List (List UInt8))(l k:Nat):ql es (l:Int) k=yb (run es (k*4 ^ l,4 ^ l)):=by
 unfold ql run
 rw [if_neg (by omega),Int.toNat_natCast]
theorem zjw (es:List (List UInt8))(a q:Nat)(h:a+2 ^ (q+1)≤es.length):yb (run es (a,2 ^ (q+1)))=xa (yb (run es (a,2 ^ q))) (yb (run es (a+2 ^ q,2 ^ q))):=by
 have hr:=zcl es a (2 ^ (q+1)) h
 have h2:2 ^ (q+1)=2*2 ^ q:=by rw [Nat.pow_succ];omega
 have hp:0 < 2 ^ q:=Nat.pow_pos (by omega)
 rw [zk1 _ (by omega),hr,zp7,zex es a _ _ (by omega),zey]
 congr 4
 omega
theorem z1y (es:List (List UInt8))(l k:Nat)(h:4*k+3 < zz (l:Int) es.length):
  ql es ((l+1:Nat):Int) k=xa (xa (ql es (l:Int) (4*k)) (ql es (l:Int) (4*k+1))) (xa (ql es (l:Int) (4*k+2)) (ql es (l:Int) (4*k+3))):=by
 simp only [zj0]
 have hp:0 < 4 ^ l:=Nat.pow_pos (by omega)
 have hl:(4*k+4)*4 ^ l≤es.length:=by
  unfold zz at h
  rw [Int.toNat_natCast] at h
  exact(Nat.le_div_iff_mul_le hp).1 h
 have e0:4 ^ l=2 ^ (2*l):=vj l
 have e1:4 ^ (l+1)=2 ^ (2*l+1+1):=by rw [vj];congr 1
 have e2:2 ^ (2*l+1+1)=4*4 ^ l:=by rw [e0,Nat.pow_succ,Nat.pow_succ];omega
 have e3:2 ^ (2*l+1)=2*4 ^ l:=by rw [e0,Nat.pow_succ];omega
 have hk:k*4 ^ (l+1)=4*k*4 ^ l:=by rw [e1,e2,Nat.mul_comm 4 k,Nat.mul_assoc]
 rw [Nat.add_mul] at hl
 rw [hk,e1,zjw es _ _ (by rw [e2];exact hl),zjw es _ _ (by rw [e3];omega),zjw es _ _ (by rw [e3];omega),e3,← e0]
 congr 4
 ·congr 2;rw [Nat.add_mul];omega
 ·congr 2;rw [Nat.add_mul]
 ·congr 2;rw [Nat.add_mul];omega
theorem zzr (es:List (List UInt8))(size l j:Nat)(h:List UInt8)(hj:j < zz (l:Int) es.length)(hh:h=ql es (l:Int) j):zap es (zi size (l:Int) j) (j % 4) ⟨true,true,h,[]⟩:=by
 refine⟨⟨fun e=>?_,fun _=>?_⟩,?_⟩
 ·have:((l:Nat):Int)=-1:=e
  omega
 ·rw [zcr];exact hh
 ·rw [zcr];exact hj
theorem GdF.set {V:Pl→Nat→Pc→Prop}{p:Pl}{f:Fl}(h:GdF V p f){k:Nat}{c:Pc}(hc:Gd V p k c):GdF V p (f.set k c):=by
 refine⟨by rw [List.length_set];exact h.1,fun i hi=>?_⟩
 rw [zw8]
 split
 ·rename_i hh
  obtain⟨rfl,-⟩:=hh
  exact hc
 ·exact h.2 i hi
theorem zlx {f:Fl}{u:List UInt8}(h:ziv f=some u):f.length=4∧(∀ k,k < 4→(f.getD k .no).fits=true)∧u=xa (xa (f.getD 0 .no).hash (f.getD 1 .no).hash) (xa (f.getD 2 .no).hash (f.getD 3 .no).hash):=by
 match f,h with
 | [a,b,c,d],h =>
  unfold ziv at h
  simp only at h
  split at h
  ·rename_i hf
   simp only [Bool.and_eq_true] at hf
   simp only [Option.some.injEq] at h
   refine⟨rfl,fun k hk=>?_,h.symm⟩
   match k,hk with
   | 0,_=>exact hf.1.1.1
   | 1,_=>exact hf.1.1.2
   | 2,_=>exact hf.1.2
   | 3,_=>exact hf.2
  ·simp at h
theorem ze5 (es:List (List UInt8))(size:Nat):∀(f:Nat) (nd:Mm) (l j:Nat) (h:List UInt8),GdM (zap es) nd→j < zz (l:Int) es.length→h=ql es (l:Int) j→GdM (zap es) (xo size f nd l j h):=by
 intro f
 induction f with
 | zero=>intro nd l j h hn _ _;exact hn
 | succ f ih =>
  intro nd l j h hn hj hh
  rw [xo]
  cases hg:nd.get (zi size (l:Int) j) with
  | none=>exact hn
  | some fl =>
   simp only
   have hF:GdF (zap es) (zi size (l:Int) j) (fl.set (j % 4) ⟨true,true,h,[]⟩):=(hn.get hg).set ⟨fun _=>rfl,fun _=>zzr es size l j h hj hh⟩
   have hS:=hn.set hF
   cases hr:ziv (fl.set (j % 4) ⟨true,true,h,[]⟩) with
   | none=>exact hS
   | some up =>
    simp only
    obtain⟨r1,r2,r3⟩:=zlx hr
    have hq:∀ k,k < 4→((fl.set (j % 4) ⟨true,true,h,[]⟩).getD k .no).hash=ql es (l:Int) (4*(j / 4)+k)∧4*(j / 4)+k < zz (l:Int) es.length:=by
     intro k hk
     obtain⟨g1,g2⟩:=hF.2 k hk
     obtain⟨⟨-,t1⟩,t2⟩:=g2 (g1 (r2 k hk))
     have e:zc0 (zi size (l:Int) j) k=4*(j / 4)+k:=by unfold zc0 zi;simp only [Int.toNat_natCast]
     rw [e] at t1 t2
     exact⟨t1 (by show((l:Nat):Int)≠-1;omega),t2⟩
    have q3:=(hq 3 (by omega)).2
    refine ih _ (l+1) (j / 4) up hS ?_ ?_
    ·unfold zz at *
     rw [Int.toNat_natCast] at *
     rw [Nat.pow_succ,← Nat.div_div_eq_div_mul]
     omega
    ·rw [r3,(hq 0 (by omega)).1,(hq 1 (by omega)).1,(hq 2 (by omega)).1,(hq 3 (by omega)).1]
     exact(z1y es l (j / 4) q3).symm
theorem zai (size:Nat):∀(f:Nat) (nd:Mm) (l j:Nat) (h:List UInt8),(xo size f nd l j h).map (·.1)=nd.map (·.1):=by
 intro f
 induction f with
 | zero=>intro nd l j h;rfl
 | succ f ih =>
  intro nd l j h
  rw [xo]
  cases hg:nd.get (zi size (l:Int) j) with
  | none=>rfl
  | some fl =>
   simp only
   cases hr:ziv (fl.set (j % 4) ⟨true,true,h,[]⟩) with
   | none=>exact Mm.set_keys _ _ _
   | some up=>rw [ih];exact Mm.set_keys _ _ _
theorem zk3 (b l:Fl)(hb:b.length=4)(hl:l.length=4)(k:Nat)(hk:k < 4):(zc6 b l).getD k .no=if ((b.getD k .no).there&&(l.getD k .no).fits&&decide ((b.getD k .no).hash=(l.getD k .no).hash))=true then { b.getD k .no with fits:=true } else b.getD k .no:=by
 have h1:k < b.length:=by omega
 have h2:k < l.length:=by omega
 unfold zc6
 simp only [List.getD_eq_getElem?_getD,List.getElem?_zipWith,List.getElem?_eq_getElem h1,List.getElem?_eq_getElem h2,Option.getD_some]
theorem zq3 (b l:Fl)(hb:b.length=4)(hl:l.length=4):(zc6 b l).length=4:=by simp [zc6,hb,hl]
theorem zue {V:Pl→Nat→Pc→Prop}(hV:∀ p k c b,V p k c→V p k { c with fits:=b }){p:Pl}{b l:Fl}(hb:GdF V p b)(hl:l.length=4):GdF V p (zc6 b l):=by
 refine⟨zq3 b l hb.1 hl,fun k hk=>?_⟩
 rw [zk3 b l hb.1 hl k hk]
 split
 ·rename_i h
  simp only [Bool.and_eq_true] at h
  exact⟨fun _=>h.1.1,fun ht=>hV _ _ _ _ ((hb.2 k hk).2 ht)⟩
 ·exact hb.2 k hk
theorem zk4 {V:Pl→Nat→Pc→Prop}(hV:∀ p k c b,V p k c→V p k { c with fits:=b })(size:Nat)(nd:Mm)(i:Nat)(leaf:List UInt8)(h:GdM V (xo size 64 nd 0 i leaf)):GdM V (jw size nd i leaf):=by
 unfold jw
 cases h1:(xo size 64 nd 0 i leaf).get (zi size 0 i) with
 | none=>exact h
 | some ls =>
  simp only
  cases h2:(xo size 64 nd 0 i leaf).get (zi size (-1) i) with
  | none=>exact h
  | some b=>exact h.set (zue hV (h.get h2) (h.get h1).1)
theorem zvt (es:List (List UInt8))(size:Nat)(nd:Mm)(i:Nat)(leaf:List UInt8)(h:GdM (zap es) nd)(hi:i < es.length)(hl:leaf=qu (es.getD i [])):GdM (zap es) (jw size nd i leaf):=by
 refine zk4 (ze7 es) size nd i leaf (ze5 es size 64 nd 0 i leaf h (by simpa [zz] using hi) ?_)
 rw [hl,zj0]
 have:run es (i*4 ^ 0,4 ^ 0)=[es.getD i []]:=by
  unfold run
  simp only [Nat.pow_zero,Nat.mul_one]
  rw [List.drop_eq_getElem_cons hi,List.getD_eq_getElem?_getD,List.getElem?_eq_getElem hi]
  rfl
 rw [this,zz6]
theorem zc7 (size:Nat)(nd:Mm)(i:Nat)(leaf:List UInt8):(jw size nd i leaf).map (·.1)=nd.map (·.1):=by
 unfold jw
 cases h1:(xo size 64 nd 0 i leaf).get (zi size 0 i) with
 | none=>exact zai ..
 | some ls =>
  simp only
  cases h2:(xo size 64 nd 0 i leaf).get (zi size (-1) i) with
  | none=>exact zai ..
  | some b=>simp only;rw [Mm.set_keys];exact zai ..
end
section
theorem z6t (a b x y:Nat)(h:2 ^ a*(2*x+1)=2 ^ b*(2*y+1)):a=b:=by
 rcases Nat.lt_trichotomy a b with hlt | heq | hgt
 ·obtain⟨c,rfl⟩:∃ c,b=a+(c+1):=⟨b - a - 1,by omega⟩
  rw [Nat.pow_add,Nat.mul_assoc] at h
  have:=Nat.eq_of_mul_eq_mul_left (Nat.pow_pos (by omega)) h
  rw [Nat.pow_succ,Nat.mul_comm _ 2,Nat.mul_assoc] at this
  omega
 ·exact heq
 ·obtain⟨c,rfl⟩:∃ c,a=b+(c+1):=⟨a - b - 1,by omega⟩
  rw [Nat.pow_add,Nat.mul_assoc] at h
  have:=Nat.eq_of_mul_eq_mul_left (Nat.pow_pos (by omega)) h
  rw [Nat.pow_succ,Nat.mul_comm _ 2,Nat.mul_assoc] at this
  omega
theorem z1o (r c:Nat)(h:2 ^ r*(2*c+1) < 2 ^ 64):lvl (2 ^ r*(2*c+1))=r / 2:=by
 have hp:0 < 2 ^ r:=Nat.pow_pos (by omega)
 obtain⟨m,hm,-⟩:=zmi (2 ^ r*(2*c+1)) (Nat.mul_pos hp (by omega)) h
 unfold lvl
 rw [← z6t _ _ _ _ hm]
theorem ziz (r:Nat)(h:r < 64):lvl (2 ^ r)=r / 2:=by
 have:=z1o r 0 (by simpa using Nat.pow_lt_pow_right (by omega:1 < 2) h)
 simpa using this
theorem zdl (size:Nat)(hs:size < 2 ^ 63):∀(f a n:Nat),a+n≤size→1≤n→n≤2 ^ f→∀ p∈yi size (f+1) a n,∃ l j:Nat,p=(zi size (l:Int) j,j % 4)∧a / 4 ^ l≤j∧j < zz (l:Int) size∧4 ^ l≤n:=by
 have base:∀(f a n:Nat),a+n≤size→1≤n→n / 4 ^ lvl n=1→∀ p∈yi size (f+1) a n,∃ l j:Nat,p=(zi size (l:Int) j,j % 4)∧a / 4 ^ l≤j∧j < zz (l:Int) size∧4 ^ l≤n:=by
  intro f a n hl h1 he p hp
  obtain⟨-,-,hiff⟩:=zb6 n h1 (by omega)
  rw [yi,if_pos he] at hp
  obtain rfl:=List.mem_singleton.1 hp
  exact⟨lvl n,a / 4 ^ lvl n,rfl,Nat.le_refl _,zjr a n (lvl n) size hl (hiff.1 he),by rw [← hiff.1 he];exact Nat.le_refl _⟩
 intro f
 induction f with
 | zero =>
  intro a n hl h1 h2
  obtain rfl:n=1:=by omega
  exact base 0 a 1 hl (by omega) (by decide)
 | succ f ih =>
  intro a n hl h1 h2 p hp
  by_cases he:n / 4 ^ lvl n=1
  ·exact base (f+1) a n hl h1 he p hp
  ·have hn2:2≤n:=by
    rcases Nat.lt_or_ge n 2 with h | h
    ·exact absurd (by obtain rfl:n=1:=by omega
                      decide) he
    ·exact h
   obtain⟨k1,k2,k3,k4,k5,k6⟩:=jl n f hn2 h2
   rw [yi,if_neg he] at hp
   rcases List.mem_append.1 hp with hp | hp
   ·obtain⟨l,j,e,g1,g2,g3⟩:=ih a (kOf n) (by omega) k3 k1 p hp
    exact⟨l,j,e,g1,g2,by omega⟩
   ·obtain⟨l,j,e,g1,g2,g3⟩:=ih (a+kOf n) (n - kOf n) (by omega) k4 k2 p hp
    exact⟨l,j,e,Nat.le_trans (Nat.div_le_div_right (by omega)) g1,g2,by omega⟩
theorem zu9:∀(f old a n:Nat) (whole:Bool),n≤2 ^ f→Al a n→a < old→old < a+n→(whole=true→a=0)→(∀ r,old≠2 ^ r)→∃ a' r,(a',2 ^ r)∈xr f old a n whole∧a'+2 ^ r=old∧2 ^ (r+1) ∣ a':=by
 intro f
 induction f with
 | zero=>intro old a n whole h _ h1 h2 _ _;simp at h;omega
 | succ f ih =>
  intro old a n whole h ha h1 h2 hw hp
  obtain⟨k1,k2,k3,k4,k5,k6⟩:=jl n f (by omega) h
  by_cases hk:old≤a+kOf n
  ·rw [zbl f old a n whole (by omega) hk]
   by_cases he:old=a+kOf n
   ·obtain⟨q,hq⟩:=zli n
    have hwf:whole=false:=by
     cases whole with
     | false=>rfl
     | true =>
      have:=hw rfl
      exact absurd (by omega:old=2 ^ q) (hp q)
    subst hwf
    refine⟨a,q,List.mem_append.2 (.inl ?_),by omega,?_⟩
    ·rw [zam _ _ _ _ _ he,hq];simp
    ·obtain⟨e,e1,e2⟩:=ha
     refine Nat.dvd_trans (Nat.pow_dvd_pow 2 ?_) e2
     have:2 ^ q < 2 ^ e:=by omega
     exact(Nat.pow_lt_pow_iff_right (by omega:1 < 2)).1 this
   ·obtain⟨a',r,g1,g2,g3⟩:=ih old a (kOf n) whole k1 (ha.left (by omega)) h1 (by omega) hw hp
    exact⟨a',r,List.mem_append.2 (.inl g1),g2,g3⟩
  ·rw [zbx f old a n whole (by omega) hk]
   obtain⟨a',r,g1,g2,g3⟩:=ih old (a+kOf n) (n - kOf n) false k2 (ha.right (by omega)) (by omega) (by omega) (by simp) hp
   exact⟨a',r,List.mem_append.2 (.inl g1),g2,g3⟩
theorem zrq (r:Nat):∀(f n:Nat),n≤2 ^ f→2 ^ r≤n→∀ s∈xr f (2 ^ r) 0 n true,2 ^ r≤s.1:=by
 intro f
 induction f with
 | zero =>
  intro n h h1 s hs
  have:0 < 2 ^ r:=Nat.pow_pos (by omega)
  rw [zam _ _ _ _ _ (by simp at h;omega)] at hs
  simp at hs
 | succ f ih =>
  intro n h h1 s hs
  have hp:0 < 2 ^ r:=Nat.pow_pos (by omega)
  by_cases he:2 ^ r=0+n
  ·rw [zam _ _ _ _ _ he] at hs;simp at hs
  ·obtain⟨k1,k2,k3,k4,k5,k6⟩:=jl n f (by omega) h
   obtain⟨q,hq⟩:=zli n
   have hrk:2 ^ r≤kOf n:=by
    rw [hq]
    refine Nat.pow_le_pow_right (by omega) ?_
    have:2 ^ r < 2 ^ (q+1):=by rw [Nat.pow_succ];omega
    have:=(Nat.pow_lt_pow_iff_right (by omega:1 < 2)).1 this
    omega
   rw [zbl f _ 0 n true he (by omega)] at hs
   rcases List.mem_append.1 hs with hs | hs
   ·exact ih (kOf n) k1 hrk s hs
   ·obtain rfl:=List.mem_singleton.1 hs
    simp only;omega
theorem ztk (size a r:Nat)(hs:size < 2 ^ 63)(h:a+2 ^ r≤size)(hd:2 ^ (r+1) ∣ a):(zi size ((r / 2:Nat):Int) ((a+2 ^ r) / 4 ^ (r / 2) - 1),((a+2 ^ r) / 4 ^ (r / 2) - 1) % 4)∈yi size 64 a (2 ^ r):=by
 have hr:r < 63:=by
  have:2 ^ r < 2 ^ 63:=by omega
  exact(Nat.pow_lt_pow_iff_right (by omega:1 < 2)).1 this
 have hp:0 < 4 ^ (r / 2):=Nat.pow_pos (by omega)
 rcases Nat.mod_two_eq_zero_or_one r with h0 | h1
 ·have e:2 ^ r=4 ^ (r / 2):=by rw [vj];congr 1;omega
  have hl:lvl (2 ^ r)=r / 2:=ziz r (by omega)
  rw [yi,if_pos (by rw [hl,e];exact Nat.div_self hp),hl,e,Nat.add_div_right _ hp]
  simp
 ·obtain⟨c,rfl⟩:∃ c,r=2*c+1:=⟨r / 2,by omega⟩
  have hc:(2*c+1) / 2=c:=by omega
  rw [hc] at hp ⊢
  have e:2 ^ (2*c+1)=2*4 ^ c:=by rw [Nat.pow_succ,vj];omega
  have hl:lvl (2 ^ (2*c+1))=c:=by rw [ziz _ (by omega)];omega
  have hk:kOf (2 ^ (2*c+1))=4 ^ c:=by rw [zp7,vj]
  rw [yi,if_neg (by rw [hl,e,Nat.mul_div_cancel _ hp];omega),hk]
  refine List.mem_append.2 (.inr ?_)
  rw [e,show 2*4 ^ c - 4 ^ c=4 ^ c by omega]
  have hl4:lvl (4 ^ c)=c:=z68 c (by omega)
  rw [yi,if_pos (by rw [hl4];exact Nat.div_self hp),hl4]
  have:(a+2*4 ^ c) / 4 ^ c - 1=(a+4 ^ c) / 4 ^ c:=by
   rw [show a+2*4 ^ c=a+4 ^ c+4 ^ c by omega,Nat.add_div_right _ hp];rfl
  rw [this]
  exact List.mem_singleton.2 rfl
def InS (size:Nat)(m:Mm):Prop:=∀ x∈m,4*x.1.2.1+x.1.2.2≤(zz x.1.1 size:Int)
theorem InS.more {a b:Nat}{m:Mm}(h:InS a m)(hab:a≤b):InS b m:=fun x hx=>by
 have h1:=h x hx
 have h2:=zhl x.1.1 hab
 omega
theorem zdf (size:Nat)(l:Int)(j:Nat):4*(zi size l j).2.1+(zi size l j).2.2≤(zz (zi size l j).1 size:Int):=by
 unfold zi;simp only;omega
theorem InS.put {size:Nat}{m:Mm}(h:InS size m)(room:Int)(p:Pl)(f:Fl)(hp:4*p.2.1+p.2.2≤(zz p.1 size:Int)):InS size (m.put room p f):=by
 intro x hx
 rcases Mm.put_mem hx with rfl | ⟨h1,-⟩
 ·exact hp
 ·exact h x h1
theorem InS.remember {size:Nat}(room:Int):∀(nd pr:Mm),InS size pr→InS size nd→InS size (ym room pr nd)
 | [],pr,h,_=>h
 | x::nd,pr,h,hn=>by
  show InS size (ym room (pr.put room x.1 (zip x.2)) nd)
  exact InS.remember room nd _ (h.put room _ _ (hn x (by simp))) (fun y hy=>hn y (by simp [hy]))
theorem InS.keys {size:Nat}{a b:Mm}(h:InS size a)(e:b.map (·.1)=a.map (·.1)):InS size b:=by
 intro x hx
 have:x.1∈a.map (·.1):=by rw [← e];exact List.mem_map_of_mem hx
 obtain⟨y,hy,ey⟩:=List.mem_map.1 this
 rw [← ey];exact h y hy
theorem zvx (es:List (List UInt8))(size:Nat)(nd:Mm)(old:Nat)(root:List UInt8)(hn:GdM (zap es) nd)(h1:1≤old)(h2:old≤es.length)(h3:old < 2 ^ 64)(hr:root=yb (es.take old))
  (hth:∀ fl,nd.get (zi size (lvl old:Nat) (old / 4 ^ lvl old - 1))=some fl→old / 4 ^ lvl old - 1≠0→(fl.getD ((old / 4 ^ lvl old - 1) % 4) .no).there=true∧(old / 4 ^ lvl old - 1=1→(fl.getD 0 .no).there=true)):GdM (zap es) (zaq size nd old root):=by
 obtain⟨hd,-,hiff⟩:=zb6 old h1 h3
 have hp:0 < 4 ^ lvl old:=Nat.pow_pos (by omega)
 have hq:1≤old / 4 ^ lvl old:=by
  exact Nat.div_pos (Nat.le_of_dvd h1 hd) hp
 have hcnt:old / 4 ^ lvl old≤zz ((lvl old:Nat):Int) es.length:=by
  unfold zz;rw [Int.toNat_natCast];exact Nat.div_le_div_right h2
 have htr:∀ fl,nd.get (zi size (lvl old:Nat) (old / 4 ^ lvl old - 1))=some fl→(fl.getD ((old / 4 ^ lvl old - 1) % 4) .no).there=true→(fl.getD ((old / 4 ^ lvl old - 1) % 4) .no).hash=ql es ((lvl old:Nat):Int) (old / 4 ^ lvl old - 1):=by
  intro fl hg ht
  obtain⟨⟨-,t⟩,-⟩:=((hn.get hg).2 _ (Nat.mod_lt _ (by omega))).2 ht
  rw [zcr] at t
  exact t (by show((lvl old:Nat):Int)≠-1;omega)
 unfold zaq
 cases hg:nd.get (zi size (lvl old:Nat) (old / 4 ^ lvl old - 1)) with
 | none=>exact hn
 | some fl =>
  simp only
  have hh:=hth fl hg
  have ht:=htr fl hg
  by_cases c0:old / 4 ^ lvl old - 1=0
  ·rw [if_pos c0]
   refine ze5 es size 64 nd (lvl old) 0 root hn (by omega) ?_
   rw [hr,zj0,Nat.zero_mul]
   have:old=4 ^ lvl old:=hiff.1 (by omega)
   unfold run
   simp only [List.drop_zero]
   rw [← this]
  ·rw [if_neg c0]
   obtain⟨g1,g2⟩:=hh c0
   by_cases c1:old / 4 ^ lvl old - 1=1
   ·rw [if_pos c1]
    rw [c1] at g1 ht hg
    have g3:=g2 c1
    split
    ·refine ze5 es size 64 _ (lvl old) 1 _ (hn.set ((hn.get hg).fitsAt (ze7 es) g3)) (by omega) (ht g1)
    ·exact hn
   ·rw [if_neg c1]
    exact ze5 es size 64 nd (lvl old) _ _ hn (by omega) (ht g1)
theorem zc9 (size:Nat)(nd:Mm)(old:Nat)(root:List UInt8):(zaq size nd old root).map (·.1)=nd.map (·.1):=by
 unfold zaq
 cases hg:nd.get (zi size (lvl old:Nat) (old / 4 ^ lvl old - 1)) with
 | none=>rfl
 | some fl =>
  simp only
  split
  ·exact zai ..
  ·split
   ·split
    ·rw [zai,Mm.set_keys]
    ·rfl
   ·exact zai ..
section
variable {σ : Type} {fe : σ → List UInt8 → (List UInt8 × Bool) × σ}
theorem zlr {proved:Mm}{size old:Nat}{s:σ}{m':Ms σ}(hs:size < 2 ^ 63)(h1:1≤old)(h2:old < size)(hp:WfM proved)(hin:InS old proved)(hq:jt fe proved size ⟨s,[]⟩ ((xr 64 old 0 size true).flatMap fun x=>yi size 64 x.1 x.2) m'):
  ∀ fl,m'.needed.get (zi size (lvl old:Nat) (old / 4 ^ lvl old - 1))=some fl→old / 4 ^ lvl old - 1≠0→(fl.getD ((old / 4 ^ lvl old - 1) % 4) .no).there=true∧(old / 4 ^ lvl old - 1=1→(fl.getD 0 .no).there=true):=by
 intro fl hg hn0
 have hnil:WfM (⟨s,[]⟩:Ms σ).needed:=zb5 _
 by_cases hpow:∀ r,old≠2 ^ r
 ·obtain⟨a',r,g1,g2,g3⟩:=zu9 64 old 0 size true (by omega) (zqy _) (by omega) (by omega) (fun _=>rfl) hpow
  obtain⟨c,hc⟩:=g3
  have he:old=2 ^ r*(2*c+1):=by rw [← g2,hc,Nat.pow_succ,Nat.mul_add,Nat.mul_one,Nat.mul_assoc]
  have hl:lvl old=r / 2:=by rw [he];exact z1o r c (by omega)
  have hmem:=ztk size a' r hs (by omega) ⟨c,hc⟩
  rw [g2,← hl] at hmem
  obtain⟨f',f1,f2,f3,f4⟩:=(hq.has hp hnil).1 _ (List.mem_flatMap.2 ⟨_,g1,hmem⟩)
  simp only at f1 f3
  rw [hg] at f1
  simp only [Option.some.injEq] at f1
  subst f1
  refine⟨f3,fun e1=>?_⟩
  exfalso
  have hp4:0 < 4 ^ (r / 2):=Nat.pow_pos (by omega)
  have hd:old / 4 ^ lvl old=2:=by omega
  rw [hl,he] at hd
  rcases Nat.mod_two_eq_zero_or_one r with h0 | h1
  ·have e:2 ^ r=4 ^ (r / 2):=by rw [vj];congr 1;omega
   rw [e,Nat.mul_div_cancel_left _ hp4] at hd
   omega
  ·have e:2 ^ r=4 ^ (r / 2)*2:=by rw [vj,← Nat.pow_succ];congr 1;omega
   rw [e,Nat.mul_assoc,Nat.mul_div_cancel_left _ hp4] at hd
   have:c=0:=by omega
   subst this
   exact hpow r (by rw [he];simp)
 ·obtain⟨r,hr⟩:∃ r,old=2 ^ r:=by
   rcases Classical.em (∃ r,old=2 ^ r) with h | h
   ·exact h
   ·exact absurd (fun r e=>h ⟨r,e⟩) hpow
  have hr64:r < 64:=by
   have:2 ^ r < 2 ^ 64:=by omega
   exact(Nat.pow_lt_pow_iff_right (by omega:1 < 2)).1 this
  have hl:lvl old=r / 2:=by rw [hr];exact ziz r hr64
  have hp4:0 < 4 ^ (r / 2):=Nat.pow_pos (by omega)
  have hdv:old / 4 ^ (r / 2)=2:=by
   rcases Nat.mod_two_eq_zero_or_one r with h0 | h1
   ·exfalso
    apply hn0
    have e:2 ^ r=4 ^ (r / 2):=by rw [vj];congr 1;omega
    rw [hl,hr,e,Nat.div_self hp4]
   ·have e:2 ^ r=4 ^ (r / 2)*2:=by rw [vj,← Nat.pow_succ];congr 1;omega
    rw [hr,e,Nat.mul_div_cancel_left _ hp4]
  rw [hl,hdv] at hg hn0 ⊢
  simp only [Nat.reduceSub] at hg hn0 ⊢
  have hk:=hq.keys hp hnil _ (Mm.get_mem hg)
  rcases hk with ⟨y,hy,-⟩ | ⟨q,hqm,eq⟩
  ·simp at hy
  ·simp only at eq
   obtain⟨sp,hsp,hqs⟩:=List.mem_flatMap.1 hqm
   have hlat:=zrq r 64 size (by omega) (by omega) sp (by rw [← hr];exact hsp)
   obtain⟨i1,i2,i3⟩:=zgg 64 old 0 size true (by omega) (by omega) (by omega) (by omega) sp hsp
   obtain⟨l',j',e1,e2,e3,-⟩:=zdl size hs 63 sp.1 sp.2 (by omega) i3 (by omega) q hqs
   rw [e1] at eq
   simp only at eq
   have hpl:l'=r / 2∧j' / 4=0:=by
    unfold zi at eq
    simp only [Prod.mk.injEq] at eq
    have q1:=eq.1
    have q2:=eq.2.1
    exact⟨by omega,by omega⟩
   obtain⟨rfl,hj0⟩:=hpl
   have hj2:2≤j':=by
    have:old / 4 ^ (r / 2)≤sp.1 / 4 ^ (r / 2):=Nat.div_le_div_right (by omega)
    omega
   have hno:proved.get (zi size ((r / 2:Nat):Int) 1)=none:=by
    cases hg2:proved.get (zi size ((r / 2:Nat):Int) 1) with
    | none=>rfl
    | some g =>
     exfalso
     have h3:=hin _ (Mm.get_mem hg2)
     have h4:zz ((r / 2:Nat):Int) old=2:=by unfold zz;rw [Int.toNat_natCast];exact hdv
     unfold zi at h3
     simp only at h3
     rw [h4] at h3
     omega
   have hwh:=hq.whole hp hnil (fun x hx=>by simp at hx) _ (Mm.get_mem hg) hno
   have hw:(2:Int)≤(zi size ((r / 2:Nat):Int) 1).2.2:=by unfold zi;simp only;omega
   exact⟨hwh 1 (by omega) (by simp only;omega),fun _=>hwh 0 (by omega) (by simp only;omega)⟩
end
end
section
def zm7 (size i:Nat):List (Pl×Nat):=(zi size (-1) i,i % 4)::(xp 64 0 size i).flatMap fun s=>yi size 64 s.1 s.2
end
end Go.Proofs.YtinhekmmdlhfkaaGreatDoor
