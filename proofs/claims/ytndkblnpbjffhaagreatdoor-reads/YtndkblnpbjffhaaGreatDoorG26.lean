import Derived.Test.YtndkblnpbjffhaaGreatDoorG25
namespace Go.Proofs.YtndkblnpbjffhaaGreatDoor
def zau (es:List (List UInt8))(p:Pl)(k:Nat)(c:Pc):Prop:=z23 es p k c∧zdm p k < yd p.1 es.length
theorem zd5 (es:List (List UInt8))(p:Pl)(k:Nat)(c:Pc)(b:Bool)(h:zau es p k c):zau es p k { c with fits:=b }:=h
theorem zkd (l:Int){a b:Nat}(h:a≤b):yd l a≤yd l b:=Nat.div_le_div_right h
theorem zwa (es fs:List (List UInt8))(l:Int)(k:Nat)(h:k < yd l es.length):xo (es++fs) l k=xo es l k:=by
 have:=zlb (es++fs) es.length l k h (by simp);rw [List.take_left'] at this
 ·exact this.symm
 ·rfl
theorem zwy {es:List (List UInt8)}{p:Pl}{k:Nat}{c:Pc}(h:zau es p k c)(fs:List (List UInt8)):zau (es++fs) p k c:=by
 obtain⟨⟨h1,h2⟩,r⟩:=h;refine⟨⟨fun e=>?_,fun e=>?_⟩,Nat.lt_of_lt_of_le r (zkd _ (by simp))⟩
 ·have A:zdm p k < es.length:=by rw [e] at r;simpa [yd] using r
  have:(es++fs).getD (zdm p k) []=es.getD (zdm p k) []:=by
   simp only [List.getD_eq_getElem?_getD,List.getElem?_append_left A]
  rw [this];exact h1 e
 ·rw [zwa es fs _ _ r];exact h2 e
theorem GdF.weak {V r:Pl→Nat→Pc→Prop}{p:Pl}{f:Fl}(h:GdF V p f)(hv:∀ k c,V p k c→r p k c):GdF r p f:=⟨h.1,fun k A=>⟨(h.2 k A).1,fun D=>hv k _ ((h.2 k A).2 D)⟩⟩
theorem GdM.weak {V r:Pl→Nat→Pc→Prop}{m:Mm}(h:GdM V m)(hv:∀ p k c,V p k c→r p k c):GdM r m:=⟨h.1,fun x A=>(h.2 x A).weak (hv x.1)⟩
theorem zkf (es:List (List UInt8))(l k:Nat):xo es (l:Int) k=ye (run es (k*4 ^ l,4 ^ l)):=by
 unfold xo run;rw [if_neg (by omega),Int.toNat_natCast]
theorem zkn (es:List (List UInt8))(a q:Nat)(h:a+2 ^ (q+1)≤es.length):ye (run es (a,2 ^ (q+1)))=yz (ye (run es (a,2 ^ q))) (ye (run es (a+2 ^ q,2 ^ q))):=by
 have hr:=zc5 es a (2 ^ (q+1)) h;have h2:2 ^ (q+1)=2*2 ^ q:=by rw [Nat.pow_succ];omega
 have r:0 < 2 ^ q:=Nat.pow_pos (by omega);rw [zk3 _ (by omega),hr,zlt,zfq es a _ _ (by omega),zfr];congr 4;omega
theorem z6m (es:List (List UInt8))(l k:Nat)(h:4*k+3 < yd (l:Int) es.length):
  xo es ((l+1:Nat):Int) k=yz (yz (xo es (l:Int) (4*k)) (xo es (l:Int) (4*k+1))) (yz (xo es (l:Int) (4*k+2)) (xo es (l:Int) (4*k+3))):=by
 simp only [zkf];have J:0 < 4 ^ l:=Nat.pow_pos (by omega);have H:(4*k+4)*4 ^ l≤es.length:=by
  unfold yd at h;rw [Int.toNat_natCast] at h;exact(Nat.le_div_iff_mul_le J).1 h
 have r:4 ^ l=2 ^ (2*l):=qg l;have D:4 ^ (l+1)=2 ^ (2*l+1+1):=by rw [qg];congr 1
 have E:2 ^ (2*l+1+1)=4*4 ^ l:=by rw [r,Nat.pow_succ,Nat.pow_succ];omega
 have A:2 ^ (2*l+1)=2*4 ^ l:=by rw [r,Nat.pow_succ];omega
 have I:k*4 ^ (l+1)=4*k*4 ^ l:=by rw [D,E,Nat.mul_comm 4 k,Nat.mul_assoc]
 rw [Nat.add_mul] at H;rw [I,D,zkn es _ _ (by rw [E];exact H),zkn es _ _ (by rw [A];omega),zkn es _ _ (by rw [A];omega),A,← r];congr 4
 ·congr 2;rw [Nat.add_mul];omega
 ·congr 2;rw [Nat.add_mul]
 ·congr 2;rw [Nat.add_mul];omega
theorem z0b (es:List (List UInt8))(size l j:Nat)(h:List UInt8)(A:j < yd (l:Int) es.length)(r:h=xo es (l:Int) j):zau es (zj size (l:Int) j) (j % 4) ⟨true,true,h,[]⟩:=by
 refine⟨⟨fun e=>?_,fun _=>?_⟩,?_⟩
 ·have:((l:Nat):Int)=-1:=e;omega
 ·rw [zb3];exact r
 ·rw [zb3];exact A
theorem GdF.set {V:Pl→Nat→Pc→Prop}{p:Pl}{f:Fl}(h:GdF V p f){k:Nat}{c:Pc}(r:Gd V p k c):GdF V p (f.set k c):=by
 refine⟨by rw [List.length_set];exact h.1,fun i D=>?_⟩;rw [zqo]
 split
 ·rename_i A;obtain⟨rfl,-⟩:=A;exact r
 ·exact h.2 i D
theorem zmk {f:Fl}{u:List UInt8}(h:zib f=some u):f.length=4∧(∀ k,k < 4→(f.getD k .no).fits=true)∧u=yz (yz (f.getD 0 .no).hash (f.getD 1 .no).hash) (yz (f.getD 2 .no).hash (f.getD 3 .no).hash):=by
 match f,h with
 | [a,b,c,d],h =>
  unfold zib at h;simp only at h
  split at h
  ·rename_i r;simp only [Bool.and_eq_true] at r;simp only [Option.some.injEq] at h;refine⟨rfl,fun k A=>?_,h.symm⟩
   match k,A with
   | 0,_=>exact r.1.1.1
   | 1,_=>exact r.1.1.2
   | 2,_=>exact r.1.2
   | 3,_=>exact r.2
  ·simp at h
theorem zft (es:List (List UInt8))(size:Nat):∀(f:Nat) (D:Mm) (l j:Nat) (h:List UInt8),GdM (zau es) D→j < yd (l:Int) es.length→h=xo es (l:Int) j→GdM (zau es) (xg size f D l j h):=by
 intro f
 induction f with
 | zero=>intro D l j h r _ _;exact r
 | succ f ih =>
  intro D l j h r S R;rw [xg];cases hg:D.get (zj size (l:Int) j) with
  | none=>exact r
  | some fl =>
   simp only;have hF:GdF (zau es) (zj size (l:Int) j) (fl.set (j % 4) ⟨true,true,h,[]⟩):=(r.get hg).set ⟨fun _=>rfl,fun _=>z0b es size l j h S R⟩;have H:=r.set hF;cases hr:zib (fl.set (j % 4) ⟨true,true,h,[]⟩) with
   | none=>exact H
   | some up =>
    simp only;obtain⟨X,V,W⟩:=zmk hr;have A:∀ k,k < 4→((fl.set (j % 4) ⟨true,true,h,[]⟩).getD k .no).hash=xo es (l:Int) (4*(j / 4)+k)∧4*(j / 4)+k < yd (l:Int) es.length:=by
     intro k I;obtain⟨L,Q⟩:=hF.2 k I;obtain⟨⟨-,J⟩,K⟩:=Q (L (V k I));have e:zdm (zj size (l:Int) j) k=4*(j / 4)+k:=by unfold zdm zj;simp only [Int.toNat_natCast]
     rw [e] at J K;exact⟨J (by show((l:Nat):Int)≠-1;omega),K⟩
    have U:=(A 3 (by omega)).2;refine ih _ (l+1) (j / 4) up H ?_ ?_
    ·unfold yd at *
     rw [Int.toNat_natCast] at *
     rw [Nat.pow_succ,← Nat.div_div_eq_div_mul];omega
    ·rw [W,(A 0 (by omega)).1,(A 1 (by omega)).1,(A 2 (by omega)).1,(A 3 (by omega)).1];exact(z6m es l (j / 4) U).symm
theorem zng (size:Nat):∀(f:Nat) (A:Mm) (l j:Nat) (h:List UInt8),WfM A→WfM (xg size f A l j h):=by
 intro f
 induction f with
 | zero=>intro A l j h r;exact r
 | succ f ih =>
  intro A l j h r;rw [xg];cases hg:A.get (zj size (l:Int) j) with
  | none=>exact r
  | some fl =>
   simp only;have D:=r.set ((r.get hg).set (k:=j % 4) (c:=⟨true,true,h,[]⟩) ⟨fun _=>rfl,fun _=>trivial⟩);cases hr:zib (fl.set (j % 4) ⟨true,true,h,[]⟩) with
   | none=>exact D
   | some up=>exact ih _ _ _ _ D
theorem zaj (size:Nat):∀(f:Nat) (r:Mm) (l j:Nat) (h:List UInt8),(xg size f r l j h).map (·.1)=r.map (·.1):=by
 intro f
 induction f with
 | zero=>intro r l j h;rfl
 | succ f ih =>
  intro r l j h;rw [xg];cases hg:r.get (zj size (l:Int) j) with
  | none=>rfl
  | some fl =>
   simp only;cases hr:zib (fl.set (j % 4) ⟨true,true,h,[]⟩) with
   | none=>exact Mm.set_keys _ _ _
   | some up=>rw [ih];exact Mm.set_keys _ _ _
def zjl (a b:Mm):Prop:=∀ q f,a.get q=some f→f.length=4→∃ g,b.get q=some g∧g.length=4∧∀ k,(f.getD k .no).there=true→(g.getD k .no).there=true∧((f.getD k .no).fits=true→(g.getD k .no).fits=true)
theorem zjl.refl (a:Mm):zjl a a:=fun _ f h r=>⟨f,h,r,fun _ A=>⟨A,id⟩⟩
theorem zjl.trans {a b c:Mm}(h:zjl a b)(H:zjl b c):zjl a c:=by
 intro q f e J;obtain⟨g,D,E,r⟩:=h q f e J;obtain⟨u,K,L,u3⟩:=H q g D E;exact⟨u,K,L,fun k A=>⟨(u3 k (r k A).1).1,fun I=>(u3 k (r k A).1).2 ((r k A).2 I)⟩⟩
theorem zjl.has {a b:Mm}(h:zjl a b){D:List (Pl×Nat)}(L:Has a D):Has b D:=by
 intro x Q;obtain⟨f,E,H,r,I⟩:=L x Q;obtain⟨g,J,K,A⟩:=h x.1 f E H;exact⟨g,J,K,(A x.2 r).1,(A x.2 r).2 I⟩
theorem zs5 {m:Mm}{p:Pl}{f g:Fl}(h:m.get p=some f)(A:g.length=4)(D:∀ k,(f.getD k .no).there=true→(g.getD k .no).there=true∧((f.getD k .no).fits=true→(g.getD k .no).fits=true)):zjl m (m.set p g):=by
 intro q u hu E;by_cases r:q=p
 ·subst r;rw [h] at hu;simp only [Option.some.injEq] at hu;subst hu;exact⟨g,by rw [Mm.get_set,if_pos rfl,h];rfl,A,D⟩
 ·exact⟨u,by rw [Mm.get_set,if_neg r];exact hu,E,fun k H=>⟨H,id⟩⟩
theorem zu8 {m:Mm}{p:Pl}{f:Fl}(r:m.get p=some f)(A:f.length=4)(k:Nat)(h:List UInt8):zjl m (m.set p (f.set k ⟨true,true,h,[]⟩)):=by
 refine zs5 r (by rw [List.length_set];exact A) (fun i D=>?_);rw [zqo]
 split
 ·exact⟨rfl,fun _=>rfl⟩
 ·exact⟨D,id⟩
theorem zrf (size:Nat):∀(f:Nat) (r:Mm) (l j:Nat) (h:List UInt8),WfM r→zjl r (xg size f r l j h):=by
 intro f
 induction f with
 | zero=>intro r l j h _;exact zjl.refl _
 | succ f ih =>
  intro r l j h A;rw [xg];cases hg:r.get (zj size (l:Int) j) with
  | none=>exact zjl.refl _
  | some fl =>
   simp only;have h1:=zu8 hg (A.get hg).1 (j % 4) h;have D:=A.set ((A.get hg).set (k:=j % 4) (c:=⟨true,true,h,[]⟩) ⟨fun _=>rfl,fun _=>trivial⟩);cases hr:zib (fl.set (j % 4) ⟨true,true,h,[]⟩) with
   | none=>exact h1
   | some up=>exact h1.trans (ih _ _ _ _ D)
theorem zgx (b l:Fl)(h:b.length=4)(A:l.length=4)(k:Nat)(r:k < 4):(zdu b l).getD k .no=if ((b.getD k .no).there&&(l.getD k .no).fits&&decide ((b.getD k .no).hash=(l.getD k .no).hash))=true then { b.getD k .no with fits:=true } else b.getD k .no:=by
 have h1:k < b.length:=by omega
 have h2:k < l.length:=by omega
 unfold zdu;simp only [List.getD_eq_getElem?_getD,List.getElem?_zipWith,List.getElem?_eq_getElem h1,List.getElem?_eq_getElem h2,Option.getD_some]
theorem zk7 (b l:Fl)(h:b.length=4)(r:l.length=4):(zdu b l).length=4:=by simp [zdu,h,r]
theorem zw7 {V:Pl→Nat→Pc→Prop}(E:∀ p k c b,V p k c→V p k { c with fits:=b }){p:Pl}{b l:Fl}(r:GdF V p b)(D:l.length=4):GdF V p (zdu b l):=by
 refine⟨zk7 b l r.1 D,fun k A=>?_⟩;rw [zgx b l r.1 D k A]
 split
 ·rename_i h;simp only [Bool.and_eq_true] at h;exact⟨fun _=>h.1.1,fun H=>E _ _ _ _ ((r.2 k A).2 H)⟩
 ·exact r.2 k A
theorem zli {V:Pl→Nat→Pc→Prop}(D:∀ p k c b,V p k c→V p k { c with fits:=b })(size:Nat)(A:Mm)(i:Nat)(r:List UInt8)(h:GdM V (xg size 64 A 0 i r)):GdM V (xt size A i r):=by
 unfold xt;cases h1:(xg size 64 A 0 i r).get (zj size 0 i) with
 | none=>exact h
 | some ls =>
  simp only;cases h2:(xg size 64 A 0 i r).get (zj size (-1) i) with
  | none=>exact h
  | some b=>exact h.set (zw7 D (h.get h2) (h.get h1).1)
theorem zvw (es:List (List UInt8))(size:Nat)(A:Mm)(i:Nat)(r:List UInt8)(h:GdM (zau es) A)(D:i < es.length)(E:r=jc (es.getD i [])):GdM (zau es) (xt size A i r):=by
 refine zli (zd5 es) size A i r (zft es size 64 A 0 i r h (by simpa [yd] using D) ?_);rw [E,zkf];have:run es (i*4 ^ 0,4 ^ 0)=[es.getD i []]:=by
  unfold run;simp only [Nat.pow_zero,Nat.mul_one];rw [List.drop_eq_getElem_cons D,List.getD_eq_getElem?_getD,List.getElem?_eq_getElem D];rfl
 rw [this,z1d]
theorem zdt (size:Nat)(r:Mm)(i:Nat)(h:List UInt8):(xt size r i h).map (·.1)=r.map (·.1):=by
 unfold xt;cases h1:(xg size 64 r 0 i h).get (zj size 0 i) with
 | none=>exact zaj ..
 | some ls =>
  simp only;cases h2:(xg size 64 r 0 i h).get (zj size (-1) i) with
  | none=>exact zaj ..
  | some b=>simp only;rw [Mm.set_keys];exact zaj ..
theorem zwz (size:Nat)(A:Mm)(i:Nat)(r:List UInt8)(h:WfM A):WfM (xt size A i r):=zli (fun _ _ _ _ _=>trivial) size A i r (zng size 64 A 0 i r h)
theorem zqv (size:Nat)(A:Mm)(i:Nat)(r:List UInt8)(h:WfM A):zjl A (xt size A i r):=by
 have hm:=zrf size 64 A 0 i r h;have J:=zng size 64 A 0 i r h;unfold xt;cases h1:(xg size 64 A 0 i r).get (zj size 0 i) with
 | none=>exact hm
 | some ls =>
  simp only;cases h2:(xg size 64 A 0 i r).get (zj size (-1) i) with
  | none=>exact hm
  | some b =>
   have H:=(J.get h2).1;have I:=(J.get h1).1;refine hm.trans (zs5 h2 (zk7 b ls H I) (fun k E=>?_));have D:k < 4:=by
    rcases Nat.lt_or_ge k 4 with D | D
    ·exact D
    ·rw [List.getD_eq_getElem?_getD,List.getElem?_eq_none (by omega)] at E;simp [Pc.no] at E
   rw [zgx b ls H I k D]
   split
   ·exact⟨E,fun _=>rfl⟩
   ·exact⟨E,id⟩
section
theorem z7c (a b x y:Nat)(h:2 ^ a*(2*x+1)=2 ^ b*(2*y+1)):a=b:=by
 rcases Nat.lt_trichotomy a b with D | r | A
 ·obtain⟨c,rfl⟩:∃ c,b=a+(c+1):=⟨b - a - 1,by omega⟩
  rw [Nat.pow_add,Nat.mul_assoc] at h;have:=Nat.eq_of_mul_eq_mul_left (Nat.pow_pos (by omega)) h;rw [Nat.pow_succ,Nat.mul_comm _ 2,Nat.mul_assoc] at this;omega
 ·exact r
 ·obtain⟨c,rfl⟩:∃ c,a=b+(c+1):=⟨a - b - 1,by omega⟩
  rw [Nat.pow_add,Nat.mul_assoc] at h;have:=Nat.eq_of_mul_eq_mul_left (Nat.pow_pos (by omega)) h;rw [Nat.pow_succ,Nat.mul_comm _ 2,Nat.mul_assoc] at this;omega
theorem z3h (r c:Nat)(h:2 ^ r*(2*c+1) < 2 ^ 64):lvl (2 ^ r*(2*c+1))=r / 2:=by
 have A:0 < 2 ^ r:=Nat.pow_pos (by omega);obtain⟨m,hm,-⟩:=zmf (2 ^ r*(2*c+1)) (Nat.mul_pos A (by omega)) h;unfold lvl;rw [← z7c _ _ _ _ hm]
theorem zge (r:Nat)(h:r < 64):lvl (2 ^ r)=r / 2:=by
 have:=z3h r 0 (by simpa using Nat.pow_lt_pow_right (by omega:1 < 2) h);simpa using this
theorem zff (size:Nat)(U:size < 2 ^ 63):∀(f a n:Nat),a+n≤size→1≤n→n≤2 ^ f→∀ p∈yf size (f+1) a n,∃ l j:Nat,p=(zj size (l:Int) j,j % 4)∧a / 4 ^ l≤j∧j < yd (l:Int) size∧4 ^ l≤n:=by
 have base:∀(f a n:Nat),a+n≤size→1≤n→n / 4 ^ lvl n=1→∀ p∈yf size (f+1) a n,∃ l j:Nat,p=(zj size (l:Int) j,j % 4)∧a / 4 ^ l≤j∧j < yd (l:Int) size∧4 ^ l≤n:=by
  intro f a n E h1 A p r;obtain⟨-,-,D⟩:=zcg n h1 (by omega);rw [yf,if_pos A] at r;obtain rfl:=List.mem_singleton.1 r;exact⟨lvl n,a / 4 ^ lvl n,rfl,Nat.le_refl _,zlv a n (lvl n) size E (D.1 A),by rw [← D.1 A];exact Nat.le_refl _⟩
 intro f
 induction f with
 | zero =>
  intro a n E h1 h2;obtain rfl:n=1:=by omega
  exact base 0 a 1 E (by omega) (by decide)
 | succ f ih =>
  intro a n E h1 h2 p r;by_cases A:n / 4 ^ lvl n=1
  ·exact base (f+1) a n E h1 A p r
  ·have J:2≤n:=by
    rcases Nat.lt_or_ge n 2 with h | h
    ·exact absurd (by obtain rfl:n=1:=by omega
                      decide) A
    ·exact h
   obtain⟨L,Q,R,S,V,W⟩:=jm n f J h2;rw [yf,if_neg A] at r;rcases List.mem_append.1 r with r | r
   ·obtain⟨l,j,e,H,I,K⟩:=ih a (kOf n) (by omega) R L p r;exact⟨l,j,e,H,I,by omega⟩
   ·obtain⟨l,j,e,H,I,K⟩:=ih (a+kOf n) (n - kOf n) (by omega) S Q p r;exact⟨l,j,e,Nat.le_trans (Nat.div_le_div_right (by omega)) H,I,by omega⟩
theorem zw9:∀(f old a n:Nat) (whole:Bool),n≤2 ^ f→Al a n→a < old→old < a+n→(whole=true→a=0)→(∀ r,old≠2 ^ r)→∃ A r,(A,2 ^ r)∈qd f old a n whole∧A+2 ^ r=old∧2 ^ (r+1) ∣ A:=by
 intro f
 induction f with
 | zero=>intro old a n whole h _ h1 h2 _ _;simp at h;omega
 | succ f ih =>
  intro old a n whole h I h1 h2 Q J;obtain⟨V,W,Y,Z,k5,k6⟩:=jm n f (by omega) h;by_cases L:old≤a+kOf n
  ·rw [zbr f old a n whole (by omega) L];by_cases S:old=a+kOf n
   ·obtain⟨q,U⟩:=zhw n;have K:whole=false:=by
     cases whole with
     | false=>rfl
     | true =>
      have:=Q rfl;exact absurd (by omega:old=2 ^ q) (J q)
    subst K;refine⟨a,q,List.mem_append.2 (.inl ?_),by omega,?_⟩
    ·rw [zaq _ _ _ _ _ S,U];simp
    ·obtain⟨e,X,R⟩:=I;refine Nat.dvd_trans (Nat.pow_dvd_pow 2 ?_) R;have:2 ^ q < 2 ^ e:=by omega
     exact(Nat.pow_lt_pow_iff_right (by omega:1 < 2)).1 this
   ·obtain⟨A,r,D,E,H⟩:=ih old a (kOf n) whole V (I.left (by omega)) h1 (by omega) Q J;exact⟨A,r,List.mem_append.2 (.inl D),E,H⟩
  ·rw [zbx f old a n whole (by omega) L];obtain⟨A,r,D,E,H⟩:=ih old (a+kOf n) (n - kOf n) false W (I.right (by omega)) (by omega) (by omega) (by simp) J;exact⟨A,r,List.mem_append.2 (.inl D),E,H⟩
theorem ztt (r:Nat):∀(f n:Nat),n≤2 ^ f→2 ^ r≤n→∀ s∈qd f (2 ^ r) 0 n true,2 ^ r≤s.1:=by
 intro f
 induction f with
 | zero =>
  intro n h h1 s A;have:0 < 2 ^ r:=Nat.pow_pos (by omega);rw [zaq _ _ _ _ _ (by simp at h;omega)] at A;simp at A
 | succ f ih =>
  intro n h h1 s A;have J:0 < 2 ^ r:=Nat.pow_pos (by omega);by_cases E:2 ^ r=0+n
  ·rw [zaq _ _ _ _ _ E] at A;simp at A
  ·obtain⟨I,K,L,Q,R,S⟩:=jm n f (by omega) h;obtain⟨q,H⟩:=zhw n;have D:2 ^ r≤kOf n:=by
    rw [H];refine Nat.pow_le_pow_right (by omega) ?_;have:2 ^ r < 2 ^ (q+1):=by rw [Nat.pow_succ];omega
    have:=(Nat.pow_lt_pow_iff_right (by omega:1 < 2)).1 this;omega
   rw [zbr f _ 0 n true E (by omega)] at A;rcases List.mem_append.1 A with A | A
   ·exact ih (kOf n) I D s A
   ·obtain rfl:=List.mem_singleton.1 A;simp only;omega
theorem zlh (size:Nat)(l:Int)(j r:Nat)(h:j / 4=r / 4):zj size l j=zj size l r:=by unfold zj;rw [h]
theorem zuo (size a r:Nat)(K:size < 2 ^ 63)(h:a+2 ^ r≤size)(J:2 ^ (r+1) ∣ a):(zj size ((r / 2:Nat):Int) ((a+2 ^ r) / 4 ^ (r / 2) - 1),((a+2 ^ r) / 4 ^ (r / 2) - 1) % 4)∈yf size 64 a (2 ^ r):=by
 have hr:r < 63:=by
  have:2 ^ r < 2 ^ 63:=by omega
  exact(Nat.pow_lt_pow_iff_right (by omega:1 < 2)).1 this
 have A:0 < 4 ^ (r / 2):=Nat.pow_pos (by omega);rcases Nat.mod_two_eq_zero_or_one r with h0 | h1
 ·have e:2 ^ r=4 ^ (r / 2):=by rw [qg];congr 1;omega
  have E:lvl (2 ^ r)=r / 2:=zge r (by omega);rw [yf,if_pos (by rw [E,e];exact Nat.div_self A),E,e,Nat.add_div_right _ A];simp
 ·obtain⟨c,rfl⟩:∃ c,r=2*c+1:=⟨r / 2,by omega⟩
  have H:(2*c+1) / 2=c:=by omega
  rw [H] at A ⊢;have e:2 ^ (2*c+1)=2*4 ^ c:=by rw [Nat.pow_succ,qg];omega
  have E:lvl (2 ^ (2*c+1))=c:=by rw [zge _ (by omega)];omega
  have I:kOf (2 ^ (2*c+1))=4 ^ c:=by rw [zlt,qg]
  rw [yf,if_neg (by rw [E,e,Nat.mul_div_cancel _ A];omega),I];refine List.mem_append.2 (.inr ?_);rw [e,show 2*4 ^ c - 4 ^ c=4 ^ c by omega];have D:lvl (4 ^ c)=c:=zyn c (by omega);rw [yf,if_pos (by rw [D];exact Nat.div_self A),D];have:(a+2*4 ^ c) / 4 ^ c - 1=(a+4 ^ c) / 4 ^ c:=by
   rw [show a+2*4 ^ c=a+4 ^ c+4 ^ c by omega,Nat.add_div_right _ A];rfl
  rw [this];exact List.mem_singleton.2 rfl
def InS (size:Nat)(m:Mm):Prop:=∀ x∈m,4*x.1.2.1+x.1.2.2≤(yd x.1.1 size:Int)
theorem InS.more {a b:Nat}{m:Mm}(h:InS a m)(r:a≤b):InS b m:=fun x A=>by
 have h1:=h x A;have h2:=zkd x.1.1 r;omega
theorem zke (size:Nat)(l:Int)(j:Nat):4*(zj size l j).2.1+(zj size l j).2.2≤(yd (zj size l j).1 size:Int):=by
 unfold zj;simp only;omega
theorem InS.put {size:Nat}{m:Mm}(h:InS size m)(room:Int)(p:Pl)(f:Fl)(r:4*p.2.1+p.2.2≤(yd p.1 size:Int)):InS size (m.put room p f):=by
 intro x A;rcases Mm.put_mem A with rfl | ⟨h1,-⟩
 ·exact r
 ·exact h x h1
theorem InS.remember {size:Nat}(room:Int):∀(r A:Mm),InS size A→InS size r→InS size (zx room A r)
 | [],A,h,_=>h
 | x::r,A,h,hn=>by
  show InS size (zx room (A.put room x.1 (zdx x.2)) r);exact InS.remember room r _ (h.put room _ _ (hn x (by simp))) (fun y D=>hn y (by simp [D]))
theorem InS.keys {size:Nat}{a b:Mm}(h:InS size a)(e:b.map (·.1)=a.map (·.1)):InS size b:=by
 intro x A;have:x.1∈a.map (·.1):=by rw [← e];exact List.mem_map_of_mem A
 obtain⟨y,D,r⟩:=List.mem_map.1 this;rw [← r];exact h y D
theorem zxm (es:List (List UInt8))(size:Nat)(r:Mm)(old:Nat)(root:List UInt8)(h:GdM (zau es) r)(h1:1≤old)(h2:old≤es.length)(S:old < 2 ^ 64)(hr:root=ye (es.take old))
  (K:∀ fl,r.get (zj size (lvl old:Nat) (old / 4 ^ lvl old - 1))=some fl→old / 4 ^ lvl old - 1≠0→(fl.getD ((old / 4 ^ lvl old - 1) % 4) .no).there=true∧(old / 4 ^ lvl old - 1=1→(fl.getD 0 .no).there=true)):GdM (zau es) (zb8 size r old root):=by
 obtain⟨V,-,J⟩:=zcg old h1 S;have X:0 < 4 ^ lvl old:=Nat.pow_pos (by omega);have Y:1≤old / 4 ^ lvl old:=by
  exact Nat.div_pos (Nat.le_of_dvd h1 V) X
 have U:old / 4 ^ lvl old≤yd ((lvl old:Nat):Int) es.length:=by
  unfold yd;rw [Int.toNat_natCast];exact Nat.div_le_div_right h2
 have L:∀ fl,r.get (zj size (lvl old:Nat) (old / 4 ^ lvl old - 1))=some fl→(fl.getD ((old / 4 ^ lvl old - 1) % 4) .no).there=true→(fl.getD ((old / 4 ^ lvl old - 1) % 4) .no).hash=xo es ((lvl old:Nat):Int) (old / 4 ^ lvl old - 1):=by
  intro fl A D;obtain⟨⟨-,t⟩,-⟩:=((h.get A).2 _ (Nat.mod_lt _ (by omega))).2 D;rw [zb3] at t;exact t (by show((lvl old:Nat):Int)≠-1;omega)
 unfold zb8;cases A:r.get (zj size (lvl old:Nat) (old / 4 ^ lvl old - 1)) with
 | none=>exact h
 | some fl =>
  simp only;have W:=K fl A;have D:=L fl A;by_cases H:old / 4 ^ lvl old - 1=0
  ·rw [if_pos H];refine zft es size 64 r (lvl old) 0 root h (by omega) ?_;rw [hr,zkf,Nat.zero_mul];have:old=4 ^ lvl old:=J.1 (by omega);unfold run;simp only [List.drop_zero];rw [← this]
  ·rw [if_neg H];obtain⟨I,Q⟩:=W H;by_cases E:old / 4 ^ lvl old - 1=1
   ·rw [if_pos E];rw [E] at I D A;have R:=Q E
    split
    ·refine zft es size 64 _ (lvl old) 1 _ (h.set ((h.get A).fitsAt (zd5 es) R)) (by omega) (D I)
    ·exact h
   ·rw [if_neg E];exact zft es size 64 r (lvl old) _ _ h (by omega) (D I)
theorem zju (size:Nat)(h:Mm)(old:Nat)(root:List UInt8):(zb8 size h old root).map (·.1)=h.map (·.1):=by
 unfold zb8;cases hg:h.get (zj size (lvl old:Nat) (old / 4 ^ lvl old - 1)) with
 | none=>rfl
 | some fl =>
  simp only
  split
  ·exact zaj ..
  ·split
   ·split
    ·rw [zaj,Mm.set_keys]
    ·rfl
   ·exact zaj ..
section
variable {σ : Type} {fe : σ → List UInt8 → (List UInt8 × Bool) × σ}
theorem zv6 {proved:Mm}{size old:Nat}{s:σ}{m':Ms σ}(hs:size < 2 ^ 63)(h1:1≤old)(h2:old < size)(hp:WfM proved)(Z:InS old proved)(hq:jk fe proved size ⟨s,[]⟩ ((qd 64 old 0 size true).flatMap fun x=>yf size 64 x.1 x.2) m'):
  ∀ fl,m'.needed.get (zj size (lvl old:Nat) (old / 4 ^ lvl old - 1))=some fl→old / 4 ^ lvl old - 1≠0→(fl.getD ((old / 4 ^ lvl old - 1) % 4) .no).there=true∧(old / 4 ^ lvl old - 1=1→(fl.getD 0 .no).there=true):=by
 intro fl K E;have H:WfM (⟨s,[]⟩:Ms σ).needed:=zbo _;by_cases I:∀ r,old≠2 ^ r
 ·obtain⟨a',r,g1,g2,g3⟩:=zw9 64 old 0 size true (by omega) (zl1 _) (by omega) (by omega) (fun _=>rfl) I;obtain⟨c,hc⟩:=g3;have Y:old=2 ^ r*(2*c+1):=by rw [← g2,hc,Nat.pow_succ,Nat.mul_add,Nat.mul_one,Nat.mul_assoc]
  have L:lvl old=r / 2:=by rw [Y];exact z3h r c (by omega)
  have Q:=zuo size a' r hs (by omega) ⟨c,hc⟩;rw [g2,← L] at Q;obtain⟨f',V,f2,f3,f4⟩:=(hq.has hp H).1 _ (List.mem_flatMap.2 ⟨_,g1,Q⟩);simp only at V f3;rw [K] at V;simp only [Option.some.injEq] at V;subst V;refine⟨f3,fun e1=>?_⟩;exfalso;have A:0 < 4 ^ (r / 2):=Nat.pow_pos (by omega);have X:old / 4 ^ lvl old=2:=by omega
  rw [L,Y] at X;rcases Nat.mod_two_eq_zero_or_one r with h0 | h1
  ·have e:2 ^ r=4 ^ (r / 2):=by rw [qg];congr 1;omega
   rw [e,Nat.mul_div_cancel_left _ A] at X;omega
  ·have e:2 ^ r=4 ^ (r / 2)*2:=by rw [qg,← Nat.pow_succ];congr 1;omega
   rw [e,Nat.mul_assoc,Nat.mul_div_cancel_left _ A] at X;have:c=0:=by omega
   subst this;exact I r (by rw [Y];simp)
 ·obtain⟨r,hr⟩:∃ r,old=2 ^ r:=by
   rcases Classical.em (∃ r,old=2 ^ r) with h | h
   ·exact h
   ·exact absurd (fun r e=>h ⟨r,e⟩) I
  have af:r < 64:=by
   have:2 ^ r < 2 ^ 64:=by omega
   exact(Nat.pow_lt_pow_iff_right (by omega:1 < 2)).1 this
  have L:lvl old=r / 2:=by rw [hr];exact zge r af
  have A:0 < 4 ^ (r / 2):=Nat.pow_pos (by omega);have J:old / 4 ^ (r / 2)=2:=by
   rcases Nat.mod_two_eq_zero_or_one r with h0 | h1
   ·exfalso;apply E;have e:2 ^ r=4 ^ (r / 2):=by rw [qg];congr 1;omega
    rw [L,hr,e,Nat.div_self A]
   ·have e:2 ^ r=4 ^ (r / 2)*2:=by rw [qg,← Nat.pow_succ];congr 1;omega
    rw [hr,e,Nat.mul_div_cancel_left _ A]
  rw [L,J] at K E ⊢;simp only [Nat.reduceSub] at K E ⊢;have hk:=hq.keys hp H _ (Mm.get_mem K);rcases hk with ⟨y,hy,-⟩ | ⟨q,ad,D⟩
  ·simp at hy
  ·simp only at D;obtain⟨U,R,ae⟩:=List.mem_flatMap.1 ad;have ai:=ztt r 64 size (by omega) (by omega) U (by rw [← hr];exact R);obtain⟨i1,i2,i3⟩:=zja 64 old 0 size true (by omega) (by omega) (by omega) (by omega) U R;obtain⟨l',j',e1,e2,e3,-⟩:=zff size hs 63 U.1 U.2 (by omega) i3 (by omega) q ae;rw [e1] at D;simp only at D;have ac:l'=r / 2∧j' / 4=0:=by
    unfold zj at D;simp only [Prod.mk.injEq] at D;have q1:=D.1;have q2:=D.2.1;exact⟨by omega,by omega⟩
   obtain⟨rfl,ag⟩:=ac;have ah:2≤j':=by
    have:old / 4 ^ (r / 2)≤U.1 / 4 ^ (r / 2):=Nat.div_le_div_right (by omega);omega
   have aa:proved.get (zj size ((r / 2:Nat):Int) 1)=none:=by
    cases hg2:proved.get (zj size ((r / 2:Nat):Int) 1) with
    | none=>rfl
    | some g =>
     exfalso;have W:=Z _ (Mm.get_mem hg2);have h4:yd ((r / 2:Nat):Int) old=2:=by unfold yd;rw [Int.toNat_natCast];exact J
     unfold zj at W;simp only at W;rw [h4] at W;omega
   have S:=hq.whole hp H (fun x hx=>by simp at hx) _ (Mm.get_mem K) aa;have hw:(2:Int)≤(zj size ((r / 2:Nat):Int) 1).2.2:=by unfold zj;simp only;omega
   exact⟨S 1 (by omega) (by simp only;omega),fun _=>S 0 (by omega) (by simp only;omega)⟩
end
end
end Go.Proofs.YtndkblnpbjffhaaGreatDoor
