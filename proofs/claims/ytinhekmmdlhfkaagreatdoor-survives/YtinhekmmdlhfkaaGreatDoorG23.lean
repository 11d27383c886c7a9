import Derived.Test.YtinhekmmdlhfkaaGreatDoorG22
namespace Go.Proofs.YtinhekmmdlhfkaaGreatDoor
section
theorem zmi (n:Nat)(h0:0 < n)(h:n < 2 ^ 64):∃ m,n=2 ^ Lib.ctz 64 n*(2*m+1)∧Lib.ctz 64 n < 64:=by
 unfold Lib.ctz
 rw [if_neg (by omega)]
 exact Lib.ctzFrom_spec 64 n h0 h
theorem vj (l:Nat):4 ^ l=2 ^ (2*l):=by rw [Nat.pow_mul]
theorem zb6 (n:Nat)(h0:0 < n)(h:n < 2 ^ 64):4 ^ lvl n ∣ n∧lvl n < 32∧(n / 4 ^ lvl n=1↔n=4 ^ lvl n):=by
 obtain⟨m,hm,hc⟩:=zmi n h0 h
 unfold lvl
 generalize Lib.ctz 64 n=c at *
 have hd:4 ^ (c / 2) ∣ n:=by
  rw [vj]
  refine Nat.dvd_trans (Nat.pow_dvd_pow 2 (show 2*(c / 2)≤c by omega)) ?_
  rw [hm];exact Nat.dvd_mul_right _ _
 refine⟨hd,by omega,?_⟩
 obtain⟨q,hq⟩:=hd
 have hp:0 < 4 ^ (c / 2):=Nat.pow_pos (by omega)
 rw [hq,Nat.mul_div_cancel_left _ hp]
 constructor
 ·intro e;rw [e,Nat.mul_one]
 ·intro e
  exact Nat.eq_of_mul_eq_mul_left hp (by rw [e,Nat.mul_one])
theorem z68 (L:Nat)(h:L < 32):lvl (4 ^ L)=L:=by
 have hp:0 < 4 ^ L:=Nat.pow_pos (by omega)
 have hl:4 ^ L < 2 ^ 64:=by rw [vj];exact Nat.pow_lt_pow_right (by omega) (by omega)
 obtain⟨m,hm,hc⟩:=zmi (4 ^ L) hp hl
 unfold lvl
 generalize Lib.ctz 64 (4 ^ L)=c at *
 have key:2 ^ (2*L)=2 ^ c*(2*m+1):=by rw [← vj];exact hm
 have h1:c≤2*L:=by
  have:2 ^ c≤2 ^ (2*L):=by rw [key];exact Nat.le_mul_of_pos_right _ (by omega)
  exact(Nat.pow_le_pow_iff_right (by omega:1 < 2)).1 this
 have h2:2 ^ (2*L - c)=2*m+1:=by
  have:2 ^ c*2 ^ (2*L - c)=2 ^ c*(2*m+1):=by rw [← Nat.pow_add,← key];congr 1;omega
  exact Nat.eq_of_mul_eq_mul_left (Nat.pow_pos (by omega)) this
 have h3:2*L - c=0:=by
  cases e:2*L - c with
  | zero=>rfl
  | succ x=>rw [e,Nat.pow_succ] at h2;omega
 omega
section
variable {σ : Type} {fe : σ → List UInt8 → (List UInt8 × Bool) × σ}
def zfo (H:Pl→Nat→List UInt8)(size:Nat):Nat→Nat→Nat→List UInt8
 | 0,_,_=>xd
 | f+1,a,n=>if n / 4 ^ lvl n=1 then H (zi size (lvl n:Nat) (a / 4 ^ lvl n)) (a / 4 ^ lvl n % 4)
  else xa (zfo H size f a (kOf n)) (zfo H size f (a+kOf n) (n - kOf n))
def yi (size:Nat):Nat→Nat→Nat→List (Pl×Nat)
 | 0,_,_=>[]
 | f+1,a,n=>if n / 4 ^ lvl n=1 then [(zi size (lvl n:Nat) (a / 4 ^ lvl n),a / 4 ^ lvl n % 4)]
  else yi size f a (kOf n)++yi size f (a+kOf n) (n - kOf n)
def Has (nd:Mm)(ps:List (Pl×Nat)):Prop:=∀ x∈ps,∃ f,nd.get x.1=some f∧f.length=4∧(f.getD x.2 .no).there=true∧(f.getD x.2 .no).fits=true
structure Ctx (fe:σ→List UInt8→(List UInt8×Bool)×σ)(I:σ→Prop)(T:Pl→Option Fl)(V:Pl→Nat→Pc→Prop)(H:Pl→Nat→List UInt8)(proved:Mm)(size:Nat):Prop where
 says:z7w fe I T
 bare:∀ p k c b,V p k c→V p k { c with fits:=b }
 told:∀ l j came,-1≤l→j < zz l size→T (zi size l j)=some came→GdF V (zi size l j) came
 hash:∀(l j:Nat) c,j < zz (l:Int) size→V (zi size (l:Int) j) (j % 4) c→c.hash=H (zi size (l:Int) j) (j % 4)
 proved:GdM V proved
theorem zjr (a n l size:Nat)(h:a+n≤size)(hn:n=4 ^ l):a / 4 ^ l < zz (l:Int) size:=by
 unfold zz
 rw [Int.toNat_natCast]
 have hp:0 < 4 ^ l:=Nat.pow_pos (by omega)
 have h1:a / 4 ^ l+1≤size / 4 ^ l:=by
  rw [Nat.le_div_iff_mul_le hp,Nat.add_mul,Nat.one_mul]
  have:=Nat.div_mul_le_self a (4 ^ l)
  omega
 omega
theorem zhj {proved:Mm}{size f a n:Nat}{m m1:Ms σ}{c:Pc}(he:n / 4 ^ lvl n=1)(h:xu fe proved size m (lvl n:Nat) (a / 4 ^ lvl n)=(.inr c,m1)):xf fe proved size (f+1) m a n=(.inr c.hash,m1):=by
 rw [xf,if_pos he,h]
theorem zfn {proved:Mm}{size f a n:Nat}{m m1:Ms σ}{e:List UInt8}(he:n / 4 ^ lvl n=1)(h:xu fe proved size m (lvl n:Nat) (a / 4 ^ lvl n)=(.inl e,m1)):xf fe proved size (f+1) m a n=(.inl e,m1):=by
 rw [xf,if_pos he,h]
theorem zhd {proved:Mm}{size f a n:Nat}{m m1 m2:Ms σ}{x y:List UInt8}(he:¬ n / 4 ^ lvl n=1)(h1:xf fe proved size f m a (kOf n)=(.inr x,m1))(h2:xf fe proved size f m1 (a+kOf n) (n - kOf n)=(.inr y,m2)):xf fe proved size (f+1) m a n=(.inr (xa x y),m2):=by
 rw [xf,if_neg he,h1];simp only [h2]
theorem zfc {proved:Mm}{size f a n:Nat}{m m1:Ms σ}{e:List UInt8}(he:¬ n / 4 ^ lvl n=1)(h1:xf fe proved size f m a (kOf n)=(.inl e,m1)):xf fe proved size (f+1) m a n=(.inl e,m1):=by
 rw [xf,if_neg he,h1]
theorem zea {proved:Mm}{size f a n:Nat}{m m1 m2:Ms σ}{x e:List UInt8}(he:¬ n / 4 ^ lvl n=1)(h1:xf fe proved size f m a (kOf n)=(.inr x,m1))(h2:xf fe proved size f m1 (a+kOf n) (n - kOf n)=(.inl e,m2)):xf fe proved size (f+1) m a n=(.inl e,m2):=by
 rw [xf,if_neg he,h1];simp only [h2]
theorem zf4 {proved:Mm}{size:Nat}{m m1 m2:Ms σ}{s:Nat×Nat}{r:List (Nat×Nat)}{x:List UInt8}{xs:List (List UInt8)}(h1:xf fe proved size 64 m s.1 s.2=(.inr x,m1))(h2:yh fe proved size m1 r=(.inr xs,m2)):yh fe proved size m (s::r)=(.inr (x::xs),m2):=by
 rw [yh,h1];simp only [h2]
theorem zf8 {proved:Mm}{size:Nat}{m m1:Ms σ}{s:Nat×Nat}{r:List (Nat×Nat)}{e:List UInt8}(h1:xf fe proved size 64 m s.1 s.2=(.inl e,m1)):yh fe proved size m (s::r)=(.inl e,m1):=by
 rw [yh,h1]
theorem zfy {proved:Mm}{size:Nat}{m m1 m2:Ms σ}{s:Nat×Nat}{r:List (Nat×Nat)}{x e:List UInt8}(h1:xf fe proved size 64 m s.1 s.2=(.inr x,m1))(h2:yh fe proved size m1 r=(.inl e,m2)):yh fe proved size m (s::r)=(.inl e,m2):=by
 rw [yh,h1];simp only [h2]
theorem zxk {I:σ→Prop}{T:Pl→Option Fl}{V:Pl→Nat→Pc→Prop}{H:Pl→Nat→List UInt8}{proved:Mm}{size:Nat}(hc:Ctx fe I T V H proved size)(hs:size < 2 ^ 63):
  ∀(f:Nat) (m:Ms σ) (a n:Nat),GdM V m.needed→I m.net→a+n≤size→1≤n→n≤2 ^ f →
   ∃ m',GdM V m'.needed∧I m'.net∧(xf fe proved size (f+1) m a n=(.inr (zfo H size (f+1) a n),m')∨∃ p,xf fe proved size (f+1) m a n=(.inl (zdw p.1),m')∧p∈yi size (f+1) a n∧T p.1=none):=by
 have base:∀(f:Nat) (m:Ms σ) (a n:Nat),GdM V m.needed→I m.net→a+n≤size→1≤n→n / 4 ^ lvl n=1 →
   ∃ m',GdM V m'.needed∧I m'.net∧(xf fe proved size (f+1) m a n=(.inr (zfo H size (f+1) a n),m')∨∃ p,xf fe proved size (f+1) m a n=(.inl (zdw p.1),m')∧p∈yi size (f+1) a n∧T p.1=none):=by
  intro f m a n hm hI hl h1 he
  obtain⟨-,-,hiff⟩:=zb6 n h1 (by omega)
  have hj:=zjr a n (lvl n) size hl (hiff.1 he)
  rw [zfo,yi,if_pos he,if_pos he]
  rcases zoc (proved:=proved) (m:=m) hc.says hc.bare (fun came h=>hc.told _ _ came (by omega) hj h) hc.proved hm hI hj with ⟨c,m1,e1,-,e2,e3,e4⟩ | ⟨m1,e1,e2,e3,e4⟩
  ·exact⟨m1,e3,e4,.inl (by rw [zhj he e1,hc.hash _ _ c hj e2])⟩
  ·exact⟨m1,by rw [e3];exact hm,e4,.inr ⟨_,zfn he e1,List.mem_singleton.2 rfl,e2⟩⟩
 intro f
 induction f with
 | zero =>
  intro m a n hm hI hl h1 h2
  obtain rfl:n=1:=by omega
  exact base 0 m a 1 hm hI hl (by omega) (by decide)
 | succ f ih =>
  intro m a n hm hI hl h1 h2
  by_cases he:n / 4 ^ lvl n=1
  ·exact base (f+1) m a n hm hI hl h1 he
  ·have hn2:2≤n:=by
    rcases Nat.lt_or_ge n 2 with h | h
    ·exact absurd (by obtain rfl:n=1:=by omega
                      decide) he
    ·exact h
   obtain⟨k1,k2,k3,k4,k5,k6⟩:=jl n f hn2 h2
   rw [zfo,yi,if_neg he,if_neg he]
   obtain⟨m1,g1,g2,e | ⟨p,e,hp,hT⟩⟩:=ih m a (kOf n) hm hI (by omega) k3 k1
   ·obtain⟨m2,q1,q2,e' | ⟨p,e',hp,hT⟩⟩:=ih m1 (a+kOf n) (n - kOf n) g1 g2 (by omega) k4 k2
    ·exact⟨m2,q1,q2,.inl (zhd he e e')⟩
    ·exact⟨m2,q1,q2,.inr ⟨p,zea he e e',List.mem_append.2 (.inr hp),hT⟩⟩
   ·exact⟨m1,g1,g2,.inr ⟨p,zfc he e,List.mem_append.2 (.inl hp),hT⟩⟩
theorem ztz {I:σ→Prop}{T:Pl→Option Fl}{V:Pl→Nat→Pc→Prop}{H:Pl→Nat→List UInt8}{proved:Mm}{size:Nat}(hc:Ctx fe I T V H proved size)(hs:size < 2 ^ 63):
  ∀(ss:List (Nat×Nat)) (m:Ms σ),GdM V m.needed→I m.net→(∀ s∈ss,s.1+s.2≤size∧1≤s.2) →
   ∃ m',GdM V m'.needed∧I m'.net∧(yh fe proved size m ss=(.inr (ss.map fun s=>zfo H size 64 s.1 s.2),m')∨∃ s∈ss,∃ p,yh fe proved size m ss=(.inl (zdw p.1),m')∧p∈yi size 64 s.1 s.2∧T p.1=none):=by
 intro ss
 induction ss with
 | nil=>intro m hm hI _;exact⟨m,hm,hI,.inl rfl⟩
 | cons s ss ih =>
  intro m hm hI hl
  obtain⟨h1,h2⟩:=hl s (by simp)
  obtain⟨m1,g1,g2,e | ⟨p,e,hp,hT⟩⟩:=zxk hc hs 63 m s.1 s.2 hm hI h1 h2 (by omega)
  ·obtain⟨m2,q1,q2,e' | ⟨s',hs',p,e',hp,hT⟩⟩:=ih m1 g1 g2 (fun s' hs'=>hl s' (by simp [hs']))
   ·exact⟨m2,q1,q2,.inl (zf4 e e')⟩
   ·exact⟨m2,q1,q2,.inr ⟨s',by simp [hs'],p,zfy e e',hp,hT⟩⟩
  ·exact⟨m1,g1,g2,.inr ⟨s,by simp,p,zf8 e,hp,hT⟩⟩
end
end
section
abbrev Say:=List UInt8→Option (List UInt8)
def zmr (say:Say)(p:Pl):Option Fl:=match say (zdw p) with
 | some d=>zbu p.1 p.2.2 d
 | none=>none
def zmf (say:Say)(p:Pl):Option Fl:=match zmr say p with
 | some f=>some f
 | none=>if p.2.2=4 then none else match zmr say (p.1,p.2.1,4) with
  | some f=>some (zft p.2.2 f)
  | none=>none
section
variable {σ : Type} {fe : σ → List UInt8 → (List UInt8 × Bool) × σ}
structure zps (fe:σ→List UInt8→(List UInt8×Bool)×σ)(I:σ→Prop)(say:Say):Prop where
 says:∀ s q,I s→say q=if (fe s q).1.2 then some (fe s q).1.1 else none
 keep:∀ s q,I s→I (fe s q).2
theorem zps.place {I:σ→Prop}{say:Say}(h:zps fe I say){s:σ}(hI:I s)(p:Pl):(yw fe s p).1=zmr say p∧I (yw fe s p).2:=by
 refine⟨?_,h.keep s _ hI⟩
 unfold yw zmr
 rw [h.says s (zdw p) hI]
 cases (fe s (zdw p)).1.2<;>rfl
theorem zps.says_file {I:σ→Prop}{say:Say}(h:zps fe I say):z7w fe I (zmf say):=by
 have key:∀ s p,I s→(qy fe s p).1=zmf say p∧I (qy fe s p).2:=by
  intro s p hI
  obtain⟨e1,e2⟩:=h.place hI p
  unfold qy zmf
  cases h1:yw fe s p with
  | mk o s1 =>
   rw [h1] at e1 e2
   simp only at e1 e2
   rw [← e1]
   cases o with
   | some f=>exact⟨rfl,e2⟩
   | none =>
    by_cases h4:p.2.2=4
    ·simp only [h4,if_true];exact⟨trivial,e2⟩
    ·simp only [h4,if_false]
     obtain⟨g1,g2⟩:=h.place e2 (p.1,p.2.1,4)
     cases h2:yw fe s1 (p.1,p.2.1,4) with
     | mk o2 s2 =>
      rw [h2] at g1 g2
      simp only at g1 g2
      rw [← g1]
      cases o2 with
      | some f=>exact⟨rfl,g2⟩
      | none=>exact⟨rfl,g2⟩
 exact⟨fun s p hI=>(key s p hI).1,fun s p hI=>(key s p hI).2⟩
end
def zc0 (p:Pl)(k:Nat):Nat:=4*p.2.1.toNat+k
def z4f (es:List (List UInt8))(p:Pl)(k:Nat)(c:Pc):Prop :=
 (p.1=-1→c.hash=qu (es.getD (zc0 p k) [])∧c.entry=es.getD (zc0 p k) [])∧(p.1≠-1→c.hash=ql es p.1 (zc0 p k))
def zok (es:List (List UInt8))(p:Pl)(k:Nat):List UInt8:=ql es p.1 (zc0 p k)
theorem zcr (size:Nat)(l:Int)(j:Nat):zc0 (zi size l j) (j % 4)=j:=by
 unfold zc0 zi
 simp only [Int.toNat_natCast]
 omega
theorem zud (es:List (List UInt8))(size:Nat)(l j:Nat)(c:Pc)(h:z4f es (zi size (l:Int) j) (j % 4) c):c.hash=zok es (zi size (l:Int) j) (j % 4) :=
 h.2 (by show(l:Int)≠-1;omega)
def Al (a n:Nat):Prop:=∃ e,n≤2 ^ e∧2 ^ e ∣ a
theorem zqy (n:Nat):Al 0 n:=⟨n,Nat.le_of_lt Nat.lt_two_pow_self,Nat.dvd_zero _⟩
theorem zli (n:Nat):∃ q,kOf n=2 ^ q:=⟨_,rfl⟩
theorem Al.left {a n:Nat}(h:Al a n)(h2:2≤n):Al a (kOf n):=by
 obtain⟨e,h1,hd⟩:=h
 obtain⟨k1,k2,k3⟩:=jy n h2
 exact⟨e,by omega,hd⟩
theorem Al.right {a n:Nat}(h:Al a n)(h2:2≤n):Al (a+kOf n) (n - kOf n):=by
 obtain⟨e,h1,hd⟩:=h
 obtain⟨k1,k2,k3⟩:=jy n h2
 obtain⟨q,hq⟩:=zli n
 refine⟨q,by omega,?_⟩
 have hqe:q≤e:=by
  have:2 ^ q≤2 ^ e:=by rw [← hq];omega
  exact(Nat.pow_le_pow_iff_right (by omega:1 < 2)).1 this
 rw [hq]
 exact Nat.dvd_add (Nat.dvd_trans (Nat.pow_dvd_pow 2 hqe) hd) (Nat.dvd_refl _)
theorem Al.four {a l:Nat}(h:Al a (4 ^ l)):a / 4 ^ l*4 ^ l=a:=by
 obtain⟨e,h1,hd⟩:=h
 rw [vj] at *
 have:2*l≤e:=(Nat.pow_le_pow_iff_right (by omega:1 < 2)).1 h1
 exact Nat.div_mul_cancel (Nat.dvd_trans (Nat.pow_dvd_pow 2 this) hd)
theorem z28:∀(f a n i:Nat),n≤2 ^ f→Al a n→∀ s∈xp f a n i,Al s.1 s.2:=by
 intro f
 induction f with
 | zero=>intro a n i h ha s hs;simp [xp] at hs
 | succ f ih =>
  intro a n i h ha s hs
  by_cases h1:n≤1
  ·rw [ze0 _ _ _ _ h1] at hs;simp at hs
  obtain⟨k1,k2,k3,k4,k5,k6⟩:=jl n f (by omega) h
  by_cases hi:i < a+kOf n
  ·rw [zdx f a n i (by omega) hi] at hs
   rcases List.mem_append.1 hs with hs | hs
   ·exact ih a (kOf n) i k1 (ha.left (by omega)) s hs
   ·obtain rfl:s=_:=List.mem_singleton.1 hs
    exact ha.right (by omega)
  ·rw [zcs f a n i (by omega) hi] at hs
   rcases List.mem_append.1 hs with hs | hs
   ·exact ih (a+kOf n) (n - kOf n) i k2 (ha.right (by omega)) s hs
   ·obtain rfl:s=_:=List.mem_singleton.1 hs
    exact ha.left (by omega)
theorem z09:∀(f m a n:Nat) (whole:Bool),n≤2 ^ f→a < m→m≤a+n→Al a n→∀ s∈xr f m a n whole,Al s.1 s.2:=by
 intro f
 induction f with
 | zero =>
  intro m a n whole h hm1 hm2 ha s hs
  unfold xr at hs
  split at hs
  ·split at hs
   ·simp at hs
   ·obtain rfl:s=_:=List.mem_singleton.1 hs
    exact ha
  ·simp at hs
 | succ f ih =>
  intro m a n whole h hm1 hm2 ha s hs
  by_cases hm:m=a+n
  ·rw [zam _ _ _ _ _ hm] at hs
   split at hs
   ·simp at hs
   ·obtain rfl:s=_:=List.mem_singleton.1 hs
    exact ha
  obtain⟨k1,k2,k3,k4,k5,k6⟩:=jl n f (by omega) h
  by_cases hk:m≤a+kOf n
  ·rw [zbl f m a n whole hm hk] at hs
   rcases List.mem_append.1 hs with hs | hs
   ·exact ih m a (kOf n) whole k1 hm1 hk (ha.left (by omega)) s hs
   ·obtain rfl:s=_:=List.mem_singleton.1 hs
    exact ha.right (by omega)
  ·rw [zbx f m a n whole hm hk] at hs
   rcases List.mem_append.1 hs with hs | hs
   ·exact ih m (a+kOf n) (n - kOf n) false k2 (by omega) (by omega) (ha.right (by omega)) s hs
   ·obtain rfl:s=_:=List.mem_singleton.1 hs
    exact ha.left (by omega)
theorem zuc (es:List (List UInt8))(size:Nat)(hs:size≤es.length)(h63:size < 2 ^ 63):∀(f a n:Nat),a+n≤size→1≤n→n≤2 ^ f→Al a n→zfo (zok es) size (f+1) a n=yb (run es (a,n)):=by
 have base:∀(f a n:Nat),a+n≤size→1≤n→Al a n→n / 4 ^ lvl n=1→zfo (zok es) size (f+1) a n=yb (run es (a,n)):=by
  intro f a n hl h1 ha he
  obtain⟨-,-,hiff⟩:=zb6 n h1 (by omega)
  have hn:=hiff.1 he
  rw [zfo,if_pos he]
  unfold zok
  rw [zcr]
  show ql es ((lvl n:Nat):Int) _=_
  unfold ql
  rw [if_neg (by omega),Int.toNat_natCast]
  unfold run
  rw [Al.four (l:=lvl n) (hn▸ha)]
  exact congrArg (fun x=>yb ((es.drop a).take x)) hn.symm
 intro f
 induction f with
 | zero =>
  intro a n hl h1 h2 ha
  obtain rfl:n=1:=by omega
  exact base 0 a 1 hl (by omega) ha (by decide)
 | succ f ih =>
  intro a n hl h1 h2 ha
  by_cases he:n / 4 ^ lvl n=1
  ·exact base (f+1) a n hl h1 ha he
  ·have hn2:2≤n:=by
    rcases Nat.lt_or_ge n 2 with h | h
    ·exact absurd (by obtain rfl:n=1:=by omega
                      decide) he
    ·exact h
   obtain⟨k1,k2,k3,k4,k5,k6⟩:=jl n f hn2 h2
   rw [zfo,if_neg he,ih a (kOf n) (by omega) k3 k1 (ha.left hn2),ih (a+kOf n) (n - kOf n) (by omega) k4 k2 (ha.right hn2)]
   have hr:=zcl es a n (by omega)
   rw [zk1 (run es (a,n)) (by omega),hr,zex es a n _ (by omega),zey]
theorem zzo:∀(ls:List (List UInt8) ),(∀ l∈ls,l.length≤20)→unb (zce ls)=some ls:=by
 intro ls
 induction ls with
 | nil=>intro _;rfl
 | cons l ls ih =>
  intro h
  have hl:=h l (by simp)
  have e:zce (l::ls)=UInt8.ofNat l.length::(l++zce ls):=by simp [zce,zsa]
  have hn:(UInt8.ofNat l.length).toNat=l.length:=by rw [UInt8.toNat_ofNat'];omega
  rw [e,zqh _ _ (by rw [hn];simp),hn]
  simp only [List.drop_left,List.take_left]
  rw [ih (fun x hx=>h x (by simp [hx]))]
  rfl
theorem zo6 (ls:List (List UInt8))(h:okB ls=true):zch (zce ls)=some ls:=by
 have hl:∀ l∈ls,l.length≤20:=by
  intro l hl
  unfold okB at h
  simp only [Bool.and_eq_true,List.all_eq_true,decide_eq_true_eq] at h
  exact h.2.2 l hl
 unfold zch
 rw [zzo ls hl]
 simp [h]
theorem zos (es:List (List UInt8))(j w:Nat)(h:4*j+w≤es.length):zad es (-1) j w=zce ((es.drop (4*j)).take w):=by
 unfold zad zce
 congr 1
 apply List.ext_getElem
 ·simp;omega
 ·intro i h1 h2
  simp only [List.length_map,List.length_range'] at h1
  simp only [List.getElem_map,List.getElem_range',List.getElem_take,List.getElem_drop]
  unfold ql
  rw [if_pos rfl,List.getD_eq_getElem?_getD,List.getElem?_eq_getElem (by omega)]
  simp
theorem zyc (es:List (List UInt8))(h20:∀ e∈es,e.length≤20)(l:Int)(hl:-1≤l)(j w:Nat)(hw1:1≤w)(hw4:w≤4)(hj:4*j+w≤zz l es.length):
  ∃ f,zbu l w (zad es l j w)=some f∧∀ k,k < 4→(f.getD k .no).there=true→z4f es (l,(j:Int),(w:Int)) k (f.getD k .no):=by
 unfold zbu
 by_cases h:l=-1
 ·subst h
  have hc:zz (-1) es.length=es.length:=by unfold zz;simp
  rw [hc] at hj
  rw [if_pos rfl,zos es j w hj]
  have hlen:((es.drop (4*j)).take w).length=w:=by simp;omega
  have hok:okB ((es.drop (4*j)).take w)=true:=by
   unfold okB
   simp only [Bool.and_eq_true,List.all_eq_true,decide_eq_true_eq]
   refine⟨by omega,by omega,fun x hx=>h20 x (List.mem_of_mem_drop (List.mem_of_mem_take hx))⟩
  rw [zo6 _ hok]
  simp only [hlen,if_true]
  refine⟨_,rfl,fun k hk ht=>?_⟩
  rw [zhf _ _ hk] at ht ⊢
  by_cases hkw:k < ((es.drop (4*j)).take w).length
  ·rw [if_pos hkw]
   have e:((es.drop (4*j)).take w).getD k []=es.getD (zc0 (-1,(j:Int),(w:Int)) k) []:=by
    unfold zc0
    simp only [Int.toNat_natCast,List.getD_eq_getElem?_getD,List.getElem?_take,List.getElem?_drop]
    rw [if_pos (by omega)]
   rw [e]
   exact⟨fun _=>⟨rfl,rfl⟩,fun h=>absurd rfl h⟩
  ·rw [if_neg hkw] at ht;simp [Pc.no] at ht
 ·rw [if_neg h]
  obtain⟨L,rfl⟩:∃ L:Nat,l=(L:Int):=⟨l.toNat,by omega⟩
  rw [z0s,if_pos (by omega)]
  refine⟨_,rfl,fun k hk ht=>?_⟩
  rw [zh2 _ _ _ hk] at ht ⊢
  by_cases hkw:k < (w:Int).toNat
  ·rw [if_pos hkw]
   refine⟨fun h'=>absurd h' h,fun _=>?_⟩
   have:=zyh es L (4*j+k) w (by omega)
   rw [show(4*j+k) / 4=j by omega,show(4*j+k) % 4=k by omega] at this
   unfold zc0
   simpa using this
  ·rw [if_neg hkw] at ht;simp [Pc.no] at ht
theorem zko (es:List (List UInt8))(n:Nat)(l:Int)(k:Nat)(h:k < zz l n)(_:n≤es.length):ql (es.take n) l k=ql es l k:=by
 unfold ql zz at *
 by_cases hl:l=-1
 ·rw [if_pos hl,if_pos hl]
  subst hl
  have h:k < n:=by simpa using h
  simp [List.getD_eq_getElem?_getD,h]
 ·rw [if_neg hl,if_neg hl]
  have hp:0 < 4 ^ l.toNat:=Nat.pow_pos (by omega)
  have:(k+1)*4 ^ l.toNat≤n:=(Nat.le_div_iff_mul_le hp).1 h
  rw [Nat.add_mul,Nat.one_mul] at this
  congr 1
  rw [List.drop_take,List.take_take]
  congr 1
  omega
theorem zat (es:List (List UInt8))(n:Nat)(l:Int)(j w:Nat)(h:4*j+w≤zz l n)(hn:n≤es.length):zad (es.take n) l j w=zad es l j w:=by
 unfold zad
 congr 1
 apply List.map_congr_left
 intro k hk
 rw [List.mem_range'_1] at hk
 exact zko es n l k (by omega) hn
end
section
abbrev WfF (p:Pl)(f:Fl):Prop:=GdF (fun _ _ _=>True) p f
abbrev WfM (m:Mm):Prop:=GdM (fun _ _ _=>True) m
theorem GdF.wf {V:Pl→Nat→Pc→Prop}{p:Pl}{f:Fl}(h:GdF V p f):WfF p f:=⟨h.1,fun k hk=>⟨(h.2 k hk).1,fun _=>trivial⟩⟩
theorem GdM.wf {V:Pl→Nat→Pc→Prop}{m:Mm}(h:GdM V m):WfM m:=⟨h.1,fun x hx=>(h.2 x hx).wf⟩
theorem Mm.get_snoc (m:Mm)(p q:Pl)(g:Fl):Mm.get (m.drop p++[(p,g)]) q=if q=p then some g else m.get q:=by
 unfold Mm.get
 rw [List.find?_append]
 by_cases h:q=p
 ·subst h
  have:(m.drop q).find? (fun x=>decide (x.1=q))=none:=by
   rw [List.find?_eq_none]
   intro x hx
   have:=(Mm.drop_mem.1 hx).2
   simpa using this
  rw [this]
  simp
 ·have h2:¬ p=q:=fun e=>h e.symm
  have:(m.drop p).find? (fun x=>decide (x.1=q))=m.find? (fun x=>decide (x.1=q)):=by
   unfold Mm.drop
   rw [List.find?_filter]
   congr 1
   funext x
   by_cases hx:x.1=q
   ·simp [hx,h]
   ·simp [hx]
  rw [this,if_neg h]
  cases m.find? (fun x=>decide (x.1=q)) with
  | none=>simp [h2]
  | some x=>simp
section
variable {σ : Type} {fe : σ → List UInt8 → (List UInt8 × Bool) × σ}
theorem zdr {proved:Mm}{size:Nat}{m m1:Ms σ}{l:Int}{j:Nat}{c:Pc}(h:xu fe proved size m l j=(.inr c,m1))(hp:WfM proved)(hm:WfM m.needed)(hj:j < zz l size):
  ∃ f,WfF (zi size l j) f∧m1.needed=m.needed.drop (zi size l j)++[(zi size l j,qx f (j % 4))]∧(f.getD (j % 4) .no).there=true∧c=(qx f (j % 4)).getD (j % 4) .no ∧
   ((f=yx proved m.needed (zi size l j)∧m1.net=m.net)∨(∃ came,zt8 (zi size l j).2.2 came∧f=zb1 (yx proved m.needed (zi size l j)) came∧qy fe m.net (zi size l j)=(some came,m1.net)∧((yx proved m.needed (zi size l j)).getD (j % 4) .no).there=false)):=by
 have hw:(zi size l j).2.2≤4:=by unfold zi;simp;omega
 have hkw:((j % 4:Nat):Int) < (zi size l j).2.2:=by unfold zi;simp;omega
 have hk:=hp.known hm (zi size l j)
 unfold xu at h
 generalize zi size l j=p at *
 by_cases ht:((yx proved m.needed p).getD (j % 4) .no).there=true
 ·rw [if_pos ht] at h
  simp only [Prod.mk.injEq,Sum.inr.injEq] at h
  obtain⟨rfl,rfl⟩:=h
  exact⟨_,hk,rfl,ht,rfl,.inl ⟨rfl,rfl⟩⟩
 ·rw [if_neg ht] at h
  cases hf:qy fe m.net p with
  | mk o s =>
   rw [hf] at h
   cases o with
   | none=>simp at h
   | some came =>
    simp only [Prod.mk.injEq,Sum.inr.injEq] at h
    obtain⟨rfl,rfl⟩:=h
    have hc:=zif hw hf
    have e:(yx proved m.needed p).length=came.length:=by rw [hk.1,hc.len]
    have hcw:WfF p came:=⟨hc.len,fun k _=>⟨fun hh=>by rw [hc.fits k] at hh;simp at hh,fun _=>trivial⟩⟩
    refine⟨_,hk.fill hcw,rfl,?_,rfl,.inr ⟨came,hc,rfl,rfl,by simpa using ht⟩⟩
    rw [zbt _ _ e _ (by rw [hk.1];omega)]
    split
    ·rename_i hfit
     exact absurd ((hk.2 (j % 4) (by omega)).1 hfit) ht
    ·rw [hc.there _ (by omega)];simpa using hkw
def jt (fe:σ→List UInt8→(List UInt8×Bool)×σ)(proved:Mm)(size:Nat):Ms σ→List (Pl×Nat)→Ms σ→Prop
 | m,[],m'=>m'=m
 | m,x::r,m2=>∃(l:Int) (j:Nat) (c:Pc) (m1:Ms σ),x=(zi size l j,j % 4)∧j < zz l size∧xu fe proved size m l j=(.inr c,m1)∧jt fe proved size m1 r m2
theorem jt.nil {proved:Mm}{size:Nat}(m:Ms σ):jt fe proved size m [] m:=rfl
theorem jt.cons {proved:Mm}{size:Nat}{m m1 m2:Ms σ}{l:Int}{j:Nat}{c:Pc}{r:List (Pl×Nat)}(hj:j < zz l size)(e:xu fe proved size m l j=(.inr c,m1))(h:jt fe proved size m1 r m2):jt fe proved size m ((zi size l j,j % 4)::r) m2:=⟨l,j,c,m1,rfl,hj,e,h⟩
theorem jt.ind {proved:Mm}{size:Nat}{motive:(m:Ms σ)→(ps:List (Pl×Nat))→(m':Ms σ)→jt fe proved size m ps m'→Prop}(nil:∀ m,motive m [] m (jt.nil m))(cons:∀ {m m1 m2:Ms σ} {l:Int} {j:Nat} {c:Pc} {r:List (Pl×Nat)} (hj:j < zz l size) (e:xu fe proved size m l j=(.inr c,m1)) (h:jt fe proved size m1 r m2),motive m1 r m2 h→motive m ((zi size l j,j % 4)::r) m2 (jt.cons hj e h)):∀ {m:Ms σ} {ps:List (Pl×Nat)} {m':Ms σ} (h:jt fe proved size m ps m'),motive m ps m' h:=by
 intro m ps
 induction ps generalizing m with
 | nil =>
  intro m' h
  have e:m'=m:=h
  subst e
  exact nil m'
 | cons x r ih =>
  intro m' h
  obtain⟨l,j,c,m1,rfl,hj,e,h⟩:=h
  exact cons hj e h (ih h)
theorem jt.append {proved:Mm}{size:Nat}{m m1 m2:Ms σ}{a b:List (Pl×Nat)}(h:jt fe proved size m a m1)(h':jt fe proved size m1 b m2):jt fe proved size m (a++b) m2:=by
 induction h using jt.ind with
 | nil m=>exact h'
 | cons hj e _ ih=>exact .cons hj e (ih h')
theorem zy5 {proved:Mm}{size:Nat}(hs:size < 2 ^ 63):∀(f:Nat) (m m':Ms σ) (a n:Nat) (x:List UInt8),a+n≤size→1≤n→n≤2 ^ f→xf fe proved size (f+1) m a n=(.inr x,m')→jt fe proved size m (yi size (f+1) a n) m':=by
 have base:∀(f:Nat) (m m':Ms σ) (a n:Nat) (x:List UInt8),a+n≤size→1≤n→n / 4 ^ lvl n=1→xf fe proved size (f+1) m a n=(.inr x,m')→jt fe proved size m (yi size (f+1) a n) m':=by
  intro f m m' a n x hl h1 he h
  obtain⟨-,-,hiff⟩:=zb6 n h1 (by omega)
  have hj:=zjr a n (lvl n) size hl (hiff.1 he)
  rw [yi,if_pos he]
  cases hn:xu fe proved size m (lvl n:Nat) (a / 4 ^ lvl n) with
  | mk o m1 =>
   cases o with
   | inl e=>rw [zfn he hn] at h;simp at h
   | inr c =>
    rw [zhj he hn] at h
    simp only [Prod.mk.injEq] at h
    obtain⟨-,rfl⟩:=h
    exact .cons hj hn (.nil _)
 intro f
 induction f with
 | zero =>
  intro m m' a n x hl h1 h2 h
  obtain rfl:n=1:=by omega
  exact base 0 m m' a 1 x hl (by omega) (by decide) h
 | succ f ih =>
  intro m m' a n x hl h1 h2 h
  by_cases he:n / 4 ^ lvl n=1
  ·exact base (f+1) m m' a n x hl h1 he h
  ·have hn2:2≤n:=by
    rcases Nat.lt_or_ge n 2 with h | h
    ·exact absurd (by obtain rfl:n=1:=by omega
                      decide) he
    ·exact h
   obtain⟨k1,k2,k3,k4,k5,k6⟩:=jl n f hn2 h2
   rw [yi,if_neg he]
   cases e1:xf fe proved size (f+1) m a (kOf n) with
   | mk o m1 =>
    cases o with
    | inl e=>rw [zfc he e1] at h;simp at h
    | inr x1 =>
     cases e2:xf fe proved size (f+1) m1 (a+kOf n) (n - kOf n) with
     | mk o m2 =>
      cases o with
      | inl e=>rw [zea he e1 e2] at h;simp at h
      | inr x2 =>
       rw [zhd he e1 e2] at h
       simp only [Prod.mk.injEq] at h
       obtain⟨-,rfl⟩:=h
       exact(ih _ _ _ _ _ (by omega) k3 k1 e1).append (ih _ _ _ _ _ (by omega) k4 k2 e2)
theorem zdv {proved:Mm}{size:Nat}(hs:size < 2 ^ 63):∀(ss:List (Nat×Nat)) (m m':Ms σ) (xs:List (List UInt8)),(∀ s∈ss,s.1+s.2≤size∧1≤s.2)→yh fe proved size m ss=(.inr xs,m')→jt fe proved size m (ss.flatMap fun s=>yi size 64 s.1 s.2) m':=by
 intro ss
 induction ss with
 | nil =>
  intro m m' xs _ h
  simp only [yh,Prod.mk.injEq] at h
  obtain⟨-,rfl⟩:=h
  exact .nil _
 | cons s r ih =>
  intro m m' xs hl h
  obtain⟨h1,h2⟩:=hl s (by simp)
  cases e1:xf fe proved size 64 m s.1 s.2 with
  | mk o m1 =>
   cases o with
   | inl e=>rw [zf8 e1] at h;simp at h
   | inr x1 =>
    cases e2:yh fe proved size m1 r with
    | mk o m2 =>
     cases o with
     | inl e=>rw [zfy e1 e2] at h;simp at h
     | inr x2 =>
      rw [zf4 e1 e2] at h
      simp only [Prod.mk.injEq] at h
      obtain⟨-,rfl⟩:=h
      rw [List.flatMap_cons]
      exact(zy5 hs 63 _ _ _ _ _ h1 h2 (by omega) e1).append (ih _ _ _ (fun s' hs'=>hl s' (by simp [hs'])) e2)
theorem zfb (f:Fl)(k i:Nat):((qx f k).getD i .no).there=(f.getD i .no).there:=by
 rw [zag];split<;>rfl
theorem zen {p:Pl}{f:Fl}(h:WfF p f){k:Nat}(ht:(f.getD k .no).there=true):WfF p (qx f k):=GdF.fitsAt (fun _ _ _ _ _=>trivial) h ht
theorem jt.wf {proved:Mm}{size:Nat}{m m':Ms σ}{ps:List (Pl×Nat)}(h:jt fe proved size m ps m')(hp:WfM proved)(hm:WfM m.needed):WfM m'.needed:=by
 induction h using jt.ind with
 | nil m=>exact hm
 | cons hj e _ ih =>
  obtain⟨f,hf,e1,ht,-,-⟩:=zdr e hp hm hj
  exact ih (by rw [e1];exact hm.snoc (zen hf ht))
theorem jt.keys {proved:Mm}{size:Nat}{m m':Ms σ}{ps:List (Pl×Nat)}(h:jt fe proved size m ps m')(hp:WfM proved)(hm:WfM m.needed):∀ x∈m'.needed,(∃ y∈m.needed,y.1=x.1)∨∃ q∈ps,q.1=x.1:=by
 induction h using jt.ind with
 | nil m=>exact fun x hx=> .inl ⟨x,hx,rfl⟩
 | cons hj e _ ih =>
  obtain⟨f,hf,e1,ht,-,-⟩:=zdr e hp hm hj
  intro x hx
  rcases ih (by rw [e1];exact hm.snoc (zen hf ht)) x hx with ⟨y,hy,ey⟩ | ⟨q,hq,eq⟩
  ·rw [e1] at hy
   rcases List.mem_append.1 hy with hy | hy
   ·exact .inl ⟨y,(Mm.drop_mem.1 hy).1,ey⟩
   ·obtain rfl:=List.mem_singleton.1 hy
    exact .inr ⟨_,List.mem_cons_self,ey⟩
  ·exact .inr ⟨q,by simp [hq],eq⟩
theorem jt.has {proved:Mm}{size:Nat}{m m':Ms σ}{ps:List (Pl×Nat)}(h:jt fe proved size m ps m')(hp:WfM proved)(hm:WfM m.needed):Has m'.needed ps∧∀ qs,Has m.needed qs→Has m'.needed qs:=by
 induction h using jt.ind with
 | nil m=>exact⟨fun x hx=>by simp at hx,fun qs hq=>hq⟩
 | cons hj e _ ih =>
  rename_i m m1 m2 l j c r _
  obtain⟨f,hf,e1,ht,-,hc⟩:=zdr e hp hm hj
  have hw:WfM m1.needed:=by rw [e1];exact hm.snoc (zen hf ht)
  obtain⟨i1,i2⟩:=ih hw
  have hg:(qx f (j % 4)).length=4:=by rw [zio];exact hf.1
  have hown:Has m1.needed [(zi size l j,j % 4)]:=by
   intro x hx
   obtain rfl:=List.mem_singleton.1 hx
   refine⟨qx f (j % 4),by rw [e1,Mm.get_snoc,if_pos rfl],hg,by rw [zfb];exact ht,?_⟩
   rw [zag,if_pos ⟨rfl,by rw [hf.1];omega⟩]
  have hold:∀ qs,Has m.needed qs→Has m1.needed qs:=by
   intro qs hq x hx
   obtain⟨g,g1,g2,g3,g4⟩:=hq x hx
   by_cases hxp:x.1=zi size l j
   ·refine⟨qx f (j % 4),by rw [e1,Mm.get_snoc,if_pos hxp],hg,?_⟩
    have hkn:yx proved m.needed (zi size l j)=g:=by unfold yx;rw [← hxp,g1]
    have hx4:x.2 < 4:=by
     rcases Nat.lt_or_ge x.2 4 with h | h
     ·exact h
     ·rw [List.getD_eq_getElem?_getD,List.getElem?_eq_none (by omega)] at g3;simp [Pc.no] at g3
    have hfx:(f.getD x.2 .no).there=true∧(f.getD x.2 .no).fits=true:=by
     rcases hc with ⟨rfl,-⟩ | ⟨came,hcm,rfl,-,-⟩
     ·rw [hkn];exact⟨g3,g4⟩
     ·rw [hkn] at *
      rw [zbt _ _ (by rw [g2,hcm.len]) _ (by omega),if_pos g4]
      exact⟨g3,g4⟩
    refine⟨by rw [zfb];exact hfx.1,?_⟩
    rw [zag];split
    ·rfl
    ·exact hfx.2
   ·exact⟨g,by rw [e1,Mm.get_snoc,if_neg hxp];exact g1,g2,g3,g4⟩
  refine⟨?_,fun qs hq=>i2 qs (hold qs hq)⟩
  intro x hx
  rcases List.mem_cons.1 hx with rfl | hx
  ·exact i2 _ hown _ (by simp)
  ·exact i1 x hx
def Wh (proved:Mm)(x:Pl×Fl):Prop:=proved.get x.1=none→∀ k:Nat,k < 4→(k:Int) < x.1.2.2→(x.2.getD k .no).there=true
theorem jt.whole {proved:Mm}{size:Nat}{m m':Ms σ}{ps:List (Pl×Nat)}(h:jt fe proved size m ps m')(hp:WfM proved)(hm:WfM m.needed)(hw:∀ x∈m.needed,Wh proved x):∀ x∈m'.needed,Wh proved x:=by
 induction h using jt.ind with
 | nil m=>exact hw
 | cons hj e _ ih =>
  rename_i m m1 m2 l j c r _
  obtain⟨f,hf,e1,ht,-,hc⟩:=zdr e hp hm hj
  refine ih (by rw [e1];exact hm.snoc (zen hf ht)) (fun x hx=>?_)
  rw [e1] at hx
  rcases List.mem_append.1 hx with hx | hx
  ·exact hw x (Mm.drop_mem.1 hx).1
  ·obtain rfl:=List.mem_singleton.1 hx
   intro hno k hk4 hkw
   rw [zfb]
   simp only at hno hkw
   generalize zi size l j=p at *
   cases hg:m.needed.get p with
   | some g =>
    have hkn:yx proved m.needed p=g:=by unfold yx;rw [hg]
    have hgk:=hw _ (Mm.get_mem hg) hno k hk4 hkw
    simp only at hgk
    rcases hc with ⟨rfl,-⟩ | ⟨came,hcm,rfl,-,-⟩
    ·rw [hkn];exact hgk
    ·have hgl:=(hm.get hg).1
     rw [hkn,zbt _ _ (by rw [hgl,hcm.len]) _ (by omega)]
     split
     ·exact hgk
     ·rw [hcm.there k hk4];simpa using hkw
   | none =>
    have hkn:yx proved m.needed p=Fl.no:=by unfold yx;rw [hg,hno]
    rcases hc with ⟨rfl,-⟩ | ⟨came,hcm,rfl,-,-⟩
    ·rw [hkn] at ht
     have:j % 4 < 4:=Nat.mod_lt _ (by omega)
     generalize j % 4=q at *
     match q,this with
     | 0,_ | 1,_ | 2,_ | 3,_=>simp [Fl.no,Pc.no] at ht
    ·rw [hkn,zbt _ _ (by rw [hcm.len];rfl) _ (by show k < 4;exact hk4)]
     split
     ·rename_i hh
      match k,hk4 with
      | 0,_ | 1,_ | 2,_ | 3,_=>simp [Fl.no,Pc.no] at hh
     ·rw [hcm.there k hk4];simpa using hkw
theorem jt.last {proved:Mm}{size:Nat}{m m':Ms σ}{ps:List (Pl×Nat)}(h:jt fe proved size m ps m')(hp:WfM proved)(hm:WfM m.needed):ps=[]∨∃(a:Mm) (x:Pl×Fl),m'.needed=a++[x]∧∃ q∈ps,q.1=x.1:=by
 induction h using jt.ind with
 | nil m=>exact .inl rfl
 | cons hj e hr ih =>
  rename_i m m1 m2 l j c r
  obtain⟨f,hf,e1,ht,-,hc⟩:=zdr e hp hm hj
  rcases ih (by rw [e1];exact hm.snoc (zen hf ht)) with rfl | ⟨a,x,ea,q,hq,eq⟩
  ·cases hr
   exact .inr ⟨_,_,e1,_,List.mem_cons_self,rfl⟩
  ·exact .inr ⟨a,x,ea,q,by simp [hq],eq⟩
end
end
end Go.Proofs.YtinhekmmdlhfkaaGreatDoor
