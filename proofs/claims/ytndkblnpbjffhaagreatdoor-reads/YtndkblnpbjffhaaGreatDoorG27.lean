import Derived.Test.YtndkblnpbjffhaaGreatDoorG26
namespace Go.Proofs.YtndkblnpbjffhaaGreatDoor
theorem Al.dvd {a q:Nat}(h:Al a (2 ^ q)):2 ^ q ∣ a:=by
 obtain⟨e,h1,h2⟩:=h;exact Nat.dvd_trans (Nat.pow_dvd_pow 2 ((Nat.pow_le_pow_iff_right (by omega:1 < 2)).1 h1)) h2
theorem Al.dvd_lt {a n q:Nat}(h:Al a n)(r:2 ^ q < n):2 ^ (q+1) ∣ a:=by
 obtain⟨e,h1,h2⟩:=h;have:2 ^ q < 2 ^ e:=by omega
 exact Nat.dvd_trans (Nat.pow_dvd_pow 2 ((Nat.pow_lt_pow_iff_right (by omega:1 < 2)).1 this)) h2
theorem zgu (size a q f:Nat)(I:q < 64)(S:1≤f)(K:2 ^ q ∣ a):∀ p∈yf size (f+1) a (2 ^ q),∃ j,p=(zj size ((q / 2:Nat):Int) j,j % 4)∧j / 4=a / 4 ^ (q / 2+1):=by
 intro p D;have h:0 < 4 ^ (q / 2):=Nat.pow_pos (by omega);have r:∀ x,x / 4 ^ (q / 2) / 4=x / 4 ^ (q / 2+1):=fun x=>by rw [Nat.pow_succ,Nat.div_div_eq_div_mul]
 rcases Nat.mod_two_eq_zero_or_one q with h0 | h1
 ·have e:2 ^ q=4 ^ (q / 2):=by rw [qg];congr 1;omega
  have E:lvl (2 ^ q)=q / 2:=zge q I;rw [yf,if_pos (by rw [E,e];exact Nat.div_self h),E] at D;obtain rfl:=List.mem_singleton.1 D;exact⟨_,rfl,r a⟩
 ·obtain⟨c,rfl⟩:∃ c,q=2*c+1:=⟨q / 2,by omega⟩
  have Q:(2*c+1) / 2=c:=by omega
  rw [Q] at h r ⊢;have e:2 ^ (2*c+1)=2*4 ^ c:=by rw [Nat.pow_succ,qg];omega
  have E:lvl (2 ^ (2*c+1))=c:=by rw [zge _ I];omega
  have R:kOf (2 ^ (2*c+1))=4 ^ c:=by rw [zlt,qg]
  have A:lvl (4 ^ c)=c:=zyn c (by omega);obtain⟨f,rfl⟩:∃ J,f=J+1:=⟨f - 1,by omega⟩
  rw [yf,if_neg (by rw [E,e,Nat.mul_div_cancel _ h];omega),R,e,show 2*4 ^ c - 4 ^ c=4 ^ c by omega] at D;rw [yf,if_pos (by rw [A];exact Nat.div_self h),A,yf,if_pos (by rw [A];exact Nat.div_self h),A] at D;obtain⟨b,L⟩:=K;have H:a / 4 ^ c=2*b:=by
   rw [L,e,show 2*4 ^ c*b=4 ^ c*(2*b) by rw [Nat.mul_comm 2 (4 ^ c),Nat.mul_assoc],Nat.mul_div_cancel_left _ h]
  rcases List.mem_append.1 D with D | D
  ·obtain rfl:=List.mem_singleton.1 D;exact⟨_,rfl,r a⟩
  ·obtain rfl:=List.mem_singleton.1 D;refine⟨_,rfl,?_⟩;rw [Nat.add_div_right _ h,← r a,H];omega
theorem zx6 (a n q:Nat)(E:2 ^ (q+1) ∣ a)(h1:2 ^ q≤n)(h2:n < 2 ^ (q+1)):a / 4 ^ (q / 2+1)=((a+n) / 4 ^ (q / 2) - 1) / 4:=by
 have h:0 < 4 ^ (q / 2):=Nat.pow_pos (by omega);have A:∀ x,x / 4 ^ (q / 2) / 4=x / 4 ^ (q / 2+1):=fun x=>by rw [Nat.pow_succ,Nat.div_div_eq_div_mul]
 obtain⟨b,D⟩:=E;rw [← A];rcases Nat.mod_two_eq_zero_or_one q with h0 | h0
 ·have e:2 ^ q=4 ^ (q / 2):=by rw [qg];congr 1;omega
  have r:a=4 ^ (q / 2)*(2*b):=by rw [D,Nat.pow_succ,e,Nat.mul_assoc]
  have H:n / 4 ^ (q / 2)=1:=by
   rw [Nat.pow_succ,e] at h2;rw [e] at h1;exact Nat.div_eq_of_lt_le (by omega) (by omega)
  rw [r,Nat.mul_add_div h,Nat.mul_div_cancel_left _ h,H];omega
 ·have e:2 ^ q=2*4 ^ (q / 2):=by rw [qg,Nat.mul_comm,← Nat.pow_succ];congr 1;omega
  have r:a=4 ^ (q / 2)*(4*b):=by rw [D,Nat.pow_succ,e,Nat.mul_comm 2,Nat.mul_assoc,Nat.mul_assoc];congr 1;omega
  have I:2≤n / 4 ^ (q / 2):=(Nat.le_div_iff_mul_le h).2 (by omega);have J:n / 4 ^ (q / 2) < 4:=(Nat.div_lt_iff_lt_mul h).2 (by rw [Nat.pow_succ,e] at h2;omega);rw [r,Nat.mul_add_div h,Nat.mul_div_cancel_left _ h];omega
theorem zp3 (a q:Nat)(D:2 ^ q ∣ a):a / 4 ^ (q / 2+1)=((a+2 ^ q) / 4 ^ (q / 2) - 1) / 4:=by
 have h:0 < 4 ^ (q / 2):=Nat.pow_pos (by omega);have r:∀ x,x / 4 ^ (q / 2) / 4=x / 4 ^ (q / 2+1):=fun x=>by rw [Nat.pow_succ,Nat.div_div_eq_div_mul]
 obtain⟨b,A⟩:=D;rw [← r];rcases Nat.mod_two_eq_zero_or_one q with h0 | h0
 ·have e:2 ^ q=4 ^ (q / 2):=by rw [qg];congr 1;omega
  rw [A,e,Nat.mul_add_div h,Nat.mul_div_cancel_left _ h,Nat.div_self h];omega
 ·have e:2 ^ q=4 ^ (q / 2)*2:=by rw [qg,← Nat.pow_succ];congr 1;omega
  rw [A,e,Nat.mul_assoc,Nat.mul_add_div h,Nat.mul_div_cancel_left _ h,Nat.mul_div_cancel_left _ h];omega
theorem z3x (size:Nat)(V:size < 2 ^ 63):∀(f a n:Nat),Al a n→a+n=size→1≤n→n≤2 ^ f→∀ p∈yf size (f+2) a n,∃ l j:Nat,p=(zj size (l:Int) j,j % 4)∧j / 4=(size / 4 ^ l - 1) / 4∧4 ^ l≤n:=by
 intro f
 induction f with
 | zero =>
  intro a n D I h1 h2 p r;obtain rfl:n=2 ^ 0:=by simp at h2 ⊢;omega
  obtain⟨j,e,E⟩:=zgu size a 0 1 (by omega) (by omega) D.dvd p r;exact⟨0,j,e,by rw [E,← I];exact zp3 a 0 D.dvd,by simp⟩
 | succ f ih =>
  intro a n D I h1 h2 p r;by_cases A:∃ q,n=2 ^ q
  ·obtain⟨q,rfl⟩:=A;have L:q < 63:=by
    have:2 ^ q < 2 ^ 63:=by omega
    exact(Nat.pow_lt_pow_iff_right (by omega:1 < 2)).1 this
   obtain⟨j,e,E⟩:=zgu size a q (f+2) (by omega) (by omega) D.dvd p r;refine⟨q / 2,j,e,by rw [E,← I];exact zp3 a q D.dvd,?_⟩;rw [qg];exact Nat.pow_le_pow_right (by omega) (by omega)
  ·have H:2≤n:=by
    rcases Nat.lt_or_ge n 2 with h | h
    ·exact absurd ⟨0,by simp;omega⟩ A
    ·exact h
   obtain⟨W,R,X,S,Y,Z⟩:=jm n f H h2;obtain⟨q,L⟩:=zhw n;have J:¬ n / 4 ^ lvl n=1:=by
    intro h;have:=((zcg n (by omega) (by omega)).2.2).1 h;rw [qg] at this;exact A ⟨_,this⟩
   rw [yf,if_neg J] at r;have Q:q < 63:=by
    have:2 ^ q < 2 ^ 63:=by omega
    exact(Nat.pow_lt_pow_iff_right (by omega:1 < 2)).1 this
   rcases List.mem_append.1 r with r | r
   ·rw [L] at r;have K:=D.dvd_lt (q:=q) (by omega);obtain⟨j,e,E⟩:=zgu size a q (f+1) (by omega) (by omega) (Nat.dvd_trans (Nat.pow_dvd_pow 2 (by omega)) K) p r;refine⟨q / 2,j,e,?_,?_⟩
    ·rw [E,← I];refine zx6 a n q K (by omega) ?_;rw [Nat.pow_succ];rcases Nat.lt_or_ge n (2 ^ q*2) with h | h
     ·exact h
     ·exact absurd ⟨q+1,by rw [Nat.pow_succ];omega⟩ A
    ·refine Nat.le_trans ?_ (show 2 ^ q≤n by omega);rw [qg];exact Nat.pow_le_pow_right (by omega) (by omega)
   ·obtain⟨l,j,e,E,U⟩:=ih (a+kOf n) (n - kOf n) (D.right H) (by omega) S R p r;exact⟨l,j,e,E,by omega⟩
theorem zmb (a x y q:Nat)(h:2 ^ (q+1) ∣ a)(E:a≤x∧x < a+2 ^ (q+1))(H:a≤y∧y < a+2 ^ (q+1)):x / 4 ^ (q / 2+1)=y / 4 ^ (q / 2+1):=by
 have e:4 ^ (q / 2+1)=2 ^ (q+1)*2 ^ (2*(q / 2+1) - (q+1)):=by rw [qg,← Nat.pow_add];congr 1;omega
 have D:0 < 2 ^ (q+1):=Nat.pow_pos (by omega);obtain⟨b,A⟩:=h;have k:∀ z,a≤z∧z < a+2 ^ (q+1)→z / 2 ^ (q+1)=b:=by
  intro z I;rw [A] at I;obtain⟨r,rfl⟩:∃ r,z=2 ^ (q+1)*b+r:=⟨z - 2 ^ (q+1)*b,by omega⟩
  rw [Nat.mul_add_div D,Nat.div_eq_of_lt (by omega)];rfl
 rw [e,← Nat.div_div_eq_div_mul,← Nat.div_div_eq_div_mul,k x E,k y H]
theorem z2v (size i:Nat)(hs:size < 2 ^ 63):∀(f a n:Nat),n≤2 ^ f→Al a n→a≤i→i < a+n→a+n≤size→(a+n=size∨∃ q,n=2 ^ q)→∀ s∈xy f a n i,∀ p∈yf size 64 s.1 s.2,∃ l j:Nat,p=(zj size (l:Int) j,j % 4)∧(j / 4=i / 4 ^ (l+1)∨j / 4=(size / 4 ^ l - 1) / 4)∧4 ^ l < n:=by
 intro f
 induction f with
 | zero=>intro a n _ _ _ _ _ _ s A;simp [xy] at A
 | succ f ih =>
  intro a n h L J ac ae V s A p E;by_cases h1:n≤1
  ·rw [zd4 _ _ _ _ h1] at A;simp at A
  obtain⟨k1,k2,k3,k4,k5,k6⟩:=jm n f (by omega) h;obtain⟨q,X⟩:=zhw n;have ad:q < 63:=by
   have:2 ^ q < 2 ^ 63:=by omega
   exact(Nat.pow_lt_pow_iff_right (by omega:1 < 2)).1 this
  have Q:=L.dvd_lt (q:=q) (by omega);have K:2 ^ q ∣ a:=Nat.dvd_trans (Nat.pow_dvd_pow 2 (by omega)) Q;have Z:4 ^ (q / 2) < n:=by
   refine Nat.lt_of_le_of_lt ?_ (show 2 ^ q < n by omega);rw [qg];exact Nat.pow_le_pow_right (by omega) (by omega)
  have I:n=2 ^ (q+1)∨(n < 2 ^ (q+1)∧a+n=size):=by
   rw [Nat.pow_succ];rcases Nat.lt_or_ge n (2 ^ q*2) with U | aa
   ·right;refine⟨U,?_⟩;rcases V with h | ⟨r,hr⟩
    ·exact h
    ·exfalso;have c1:2 ^ q < 2 ^ r:=by omega
     have c2:2 ^ r < 2 ^ (q+1):=by rw [Nat.pow_succ];omega
     have d1:=(Nat.pow_lt_pow_iff_right (by omega:1 < 2)).1 c1;have d2:=(Nat.pow_lt_pow_iff_right (by omega:1 < 2)).1 c2;omega
   ·left;omega
  by_cases R:i < a+kOf n
  ·rw [zbq f a n i (by omega) R] at A;rcases List.mem_append.1 A with A | A
   ·obtain⟨l,j,e,D,S⟩:=ih a (kOf n) k1 (L.left (by omega)) J R (by omega) (.inr ⟨q,X⟩) s A p E;exact⟨l,j,e,D,by omega⟩
   ·obtain rfl:=List.mem_singleton.1 A;simp only at E;rcases I with H | ⟨H,Y⟩
    ·have e2:n - kOf n=2 ^ q:=by rw [Nat.pow_succ] at H;omega
     rw [e2,X] at E;obtain⟨j,e,D⟩:=zgu size (a+2 ^ q) q 63 (by omega) (by omega) (Nat.dvd_add K (Nat.dvd_refl _)) p E;refine⟨q / 2,j,e,.inl ?_,Z⟩;rw [D];exact zmb a _ _ q Q ⟨by omega,by rw [Nat.pow_succ];omega⟩ ⟨J,by omega⟩
    ·obtain⟨l,j,e,D,S⟩:=z3x size hs 62 (a+kOf n) (n - kOf n) (L.right (by omega)) (by omega) k4 (by omega) p E;exact⟨l,j,e,.inr D,by omega⟩
  ·rw [za5 f a n i (by omega) R] at A;rcases List.mem_append.1 A with A | A
   ·have W:(a+kOf n)+(n - kOf n)=size∨∃ r,n - kOf n=2 ^ r:=by
     rcases I with H | ⟨H,Y⟩
     ·exact .inr ⟨q,by rw [Nat.pow_succ] at H;omega⟩
     ·exact .inl (by omega)
    obtain⟨l,j,e,D,S⟩:=ih (a+kOf n) (n - kOf n) k2 (L.right (by omega)) (by omega) (by omega) (by omega) W s A p E;exact⟨l,j,e,D,Nat.lt_of_lt_of_le S (Nat.sub_le _ _)⟩
   ·obtain rfl:=List.mem_singleton.1 A;simp only at E;rw [X] at E;obtain⟨j,e,D⟩:=zgu size a q 63 (by omega) (by omega) K p E;refine⟨q / 2,j,e,?_,Z⟩;rcases I with H | ⟨H,Y⟩
    ·left;rw [D];exact zmb a _ _ q Q ⟨by omega,by rw [Nat.pow_succ];omega⟩ ⟨J,by omega⟩
    ·right;rw [D,← Y];exact zx6 a n q Q (by omega) H
theorem zyl {α:Type} [DecidableEq α]:∀(l s:List α),l.Nodup→(∀ x∈l,x∈s)→l.length≤s.length
 | [],s,_,_=>by simp
 | x::l,s,hn,hs=>by
  have r:=hs x (by simp);have h:=List.nodup_cons.1 hn;have:=zyl l (s.erase x) h.2 (fun y A=>(List.mem_erase_of_ne (fun e=>h.1 (by rw [← e];exact A))).2 (hs y (by simp [A])));rw [List.length_erase_of_mem r] at this;have:0 < s.length:=List.length_pos_of_mem r;simp only [List.length_cons];omega
def zeh (size i:Nat):List (Pl×Nat):=(zj size (-1) i,i % 4)::(xy 64 0 size i).flatMap fun s=>yf size 64 s.1 s.2
def z8c (size i:Nat):List Pl:=zj size (-1) i::(List.range 4).flatMap fun(l:Nat)=>[zj size (l:Int) (i / 4 ^ l),zj size (l:Int) (size / 4 ^ l - 1)]
theorem zuh (size i:Nat)(D:i < size)(H:size≤256):∀ p∈zeh size i,p.1∈z8c size i:=by
 intro p r;unfold zeh at r;unfold z8c;rcases List.mem_cons.1 r with rfl | r
 ·simp
 ·obtain⟨s,h1,h2⟩:=List.mem_flatMap.1 r;obtain⟨l,j,rfl,h,E⟩:=z2v size i (by omega) 64 0 size (by omega) (zl1 _) (by omega) (by omega) (by omega) (.inl (by omega)) s h1 p h2;have A:l < 4:=by
   have:4 ^ l < 4 ^ 4:=by omega
   exact(Nat.pow_lt_pow_iff_right (by omega:1 < 4)).1 this
  refine List.mem_cons_of_mem _ (List.mem_flatMap.2 ⟨l,List.mem_range.2 A,?_⟩);simp only [List.mem_cons,List.not_mem_nil,or_false];rcases h with h | h
  ·left;refine zlh size l j _ ?_;rw [h,Nat.pow_succ,Nat.div_div_eq_div_mul]
  ·right;exact zlh size l j _ h
theorem z3d (size i:Nat):(z8c size i).length=9:=rfl
end Go.Proofs.YtndkblnpbjffhaaGreatDoor
