import Derived.Test.YtndkblnpbjffhaaGreatDoorG07
import Derived.Lib.Split
open Go.RowKit
namespace Go.Proofs.YtndkblnpbjffhaaGreatDoor
def zac:Nat→List (List UInt8) →Nat→List (List UInt8)
 | 0,_,_=>[]
 | f+1,ls,i =>
  if ls.length≤1 then []
  else if i < kOf ls.length then zac f (ls.take (kOf ls.length)) i++[xe f (ls.drop (kOf ls.length))]
  else zac f (ls.drop (kOf ls.length)) (i - kOf ls.length)++[xe f (ls.take (kOf ls.length))]
theorem zcm (f:Nat)(r:List (List UInt8))(i:Nat)(h:r.length≤1):zac f r i=[]:=by
 cases f with
 | zero=>rfl
 | succ f=>rw [zac,if_pos h]
theorem zcy (f:Nat)(r:List (List UInt8))(i:Nat)(h:2≤r.length)(A:i < kOf r.length):zac (f+1) r i=zac f (r.take (kOf r.length)) i++[xe f (r.drop (kOf r.length))]:=by
 rw [zac,if_neg (by omega),if_pos A]
theorem zb1 (f:Nat)(r:List (List UInt8))(i:Nat)(h:2≤r.length)(A:¬ i < kOf r.length):zac (f+1) r i=zac f (r.drop (kOf r.length)) (i - kOf r.length)++[xe f (r.take (kOf r.length))]:=by
 rw [zac,if_neg (by omega),if_neg A]
theorem z93 (f:Nat):∀(A:List (List UInt8)) (i:Nat),∀ p∈zac f A i,p.length=8:=by
 induction f with
 | zero=>intro A i p r;simp [zac] at r
 | succ f ih =>
  intro A i p r;by_cases h1:A.length≤1
  ·rw [zcm _ _ _ h1] at r;simp at r
  by_cases D:i < kOf A.length
  ·rw [zcy _ _ _ (by omega) D] at r;rcases List.mem_append.1 r with h | h
   ·exact ih _ _ p h
   ·rw [List.mem_singleton.1 h];exact qk _ _
  ·rw [zb1 _ _ _ (by omega) D] at r;rcases List.mem_append.1 r with h | h
   ·exact ih _ _ p h
   ·rw [List.mem_singleton.1 h];exact qk _ _
theorem zld (f:Nat):∀(h:List (List UInt8)) (i:Nat),(zac f h i).length≤f:=by
 induction f with
 | zero=>intro h i;simp [zac]
 | succ f ih =>
  intro h i;by_cases h1:h.length≤1
  ·rw [zcm _ _ _ h1];simp
  by_cases r:i < kOf h.length
  ·rw [zcy _ _ _ (by omega) r];have:=ih (h.take (kOf h.length)) i;simp;omega
  ·rw [zb1 _ _ _ (by omega) r];have:=ih (h.drop (kOf h.length)) (i - kOf h.length);simp;omega
def zci:Nat→Nat→List (List UInt8) →Bool→List (List UInt8)
 | 0,_,_,_=>[]
 | f+1,m,ls,whole =>
  if m=ls.length then (if whole=true then [] else [xe (f+1) ls])
  else if m≤kOf ls.length then zci f m (ls.take (kOf ls.length)) whole++[xe f (ls.drop (kOf ls.length))]
  else zci f (m - kOf ls.length) (ls.drop (kOf ls.length)) false++[xe f (ls.take (kOf ls.length))]
theorem zc0 (f:Nat)(h:List (List UInt8)):zci (f+1) h.length h true=[]:=by
 rw [zci,if_pos rfl,if_pos rfl]
theorem zfe (f:Nat)(h:List (List UInt8)):zci (f+1) h.length h false=[xe (f+1) h]:=by
 rw [zci,if_pos rfl,if_neg (by simp)]
theorem zfh (f m:Nat)(r:List (List UInt8))(whole:Bool)(h:m≠r.length)(A:m≤kOf r.length):zci (f+1) m r whole=zci f m (r.take (kOf r.length)) whole++[xe f (r.drop (kOf r.length))]:=by
 rw [zci,if_neg h,if_pos A]
theorem zd9 (f m:Nat)(r:List (List UInt8))(whole:Bool)(h:m≠r.length)(A:¬ m≤kOf r.length):zci (f+1) m r whole=zci f (m - kOf r.length) (r.drop (kOf r.length)) false++[xe f (r.take (kOf r.length))]:=by
 rw [zci,if_neg h,if_neg A]
theorem zmi (f:Nat):∀(m:Nat) (h:List (List UInt8)) (whole:Bool),(zci f m h whole).length≤f:=by
 induction f with
 | zero=>intro m h whole;simp [zci]
 | succ f ih =>
  intro m h whole;by_cases h1:m=h.length
  ·subst h1;cases whole with
   | true=>rw [zc0];simp
   | false=>rw [zfe];simp
  by_cases r:m≤kOf h.length
  ·rw [zfh _ _ _ _ h1 r];have:=ih m (h.take (kOf h.length)) whole;simp;omega
  ·rw [zd9 _ _ _ _ h1 r];have:=ih (m - kOf h.length) (h.drop (kOf h.length)) false;simp;omega
def ye (l:List (List UInt8)):List UInt8:=xe l.length l
theorem z8v (l:List (List UInt8)):(ye l).length=8:=qk _ _
theorem vz:∀(f g:Nat) (l:List (List UInt8)),l.length≤f→l.length≤g→xe f l=xe g l:=by
 intro f
 induction f with
 | zero =>
  intro g l r _;rw [zae 0 l (by omega),zae g l (by omega)]
 | succ f ih =>
  intro g l r A;by_cases h0:l.length=0
  ·rw [zae _ l h0,zae _ l h0]
  ·obtain⟨g,rfl⟩:∃ h,g=h+1:=⟨g - 1,by omega⟩
   by_cases h1:l.length=1
   ·rw [zc3 f l h1,zc3 g l h1]
   ·obtain⟨D,E,H⟩:=jg l.length (by omega);rw [vb f l (by omega),vb g l (by omega),ih g (l.take (kOf l.length)) (by simp;omega) (by simp;omega),ih g (l.drop (kOf l.length)) (by simp;omega) (by simp;omega)]
theorem zk3 (l:List (List UInt8))(h:2≤l.length):ye l=yz (ye (l.take (kOf l.length))) (ye (l.drop (kOf l.length))):=by
 obtain⟨A,D,E⟩:=jg l.length h;unfold ye;obtain⟨f,r⟩:∃ f,l.length=f+1:=⟨l.length - 1,by omega⟩
 rw [r,vb f l h,← r];rw [vz f (l.take (kOf l.length)).length (l.take (kOf l.length)) (by simp;omega) (Nat.le_refl _),vz f (l.drop (kOf l.length)).length (l.drop (kOf l.length)) (by simp;omega) (Nat.le_refl _)]
theorem zlt (p:Nat):kOf (2 ^ (p+1))=2 ^ p:=by
 obtain⟨h1,h2,h⟩:=jg (2 ^ (p+1)) (by rw [Nat.pow_succ];have:0 < 2 ^ p:=Nat.pow_pos (by omega);omega);unfold kOf at *
 generalize (2 ^ (p+1) - 1).log2=q at *
 have a:q < p+1:=(Nat.pow_lt_pow_iff_right (by omega:1 < 2)).1 h1;have b:p+1≤q+1:=(Nat.pow_le_pow_iff_right (by omega:1 < 2)).1 (by rw [Nat.pow_succ 2 q];omega);congr 1;omega
theorem z1d (e:List UInt8):ye [e]=jc e:=rfl
def run (es:List (List UInt8))(s:Nat×Nat):List (List UInt8):=(es.drop s.1).take s.2
theorem zc5 (es:List (List UInt8))(a n:Nat)(h:a+n≤es.length):(run es (a,n)).length=n:=by simp [run];omega
theorem zfq (es:List (List UInt8))(a n k:Nat)(h:k≤n):(run es (a,n)).take k=run es (a,k):=by
 simp only [run,List.take_take];congr 1;omega
theorem zfr (es:List (List UInt8))(a n k:Nat):(run es (a,n)).drop k=run es (a+k,n - k):=by
 simp only [run,List.drop_take,List.drop_drop]
def xy:Nat→Nat→Nat→Nat→List (Nat×Nat)
 | 0,_,_,_=>[]
 | f+1,a,n,i =>
  if n≤1 then []
  else if i < a+kOf n then xy f a (kOf n) i++[(a+kOf n,n - kOf n)]
  else xy f (a+kOf n) (n - kOf n) i++[(a,kOf n)]
def qd:Nat→Nat→Nat→Nat→Bool→List (Nat×Nat)
 | 0,m,a,n,whole=>if m=a+n then (if whole=true then [] else [(a,n)]) else []
 | f+1,m,a,n,whole =>
  if m=a+n then (if whole=true then [] else [(a,n)])
  else if m≤a+kOf n then qd f m a (kOf n) whole++[(a+kOf n,n - kOf n)]
  else qd f m (a+kOf n) (n - kOf n) false++[(a,kOf n)]
theorem zd4 (f a n i:Nat)(h:n≤1):xy f a n i=[]:=by
 cases f with
 | zero=>rfl
 | succ f=>rw [xy,if_pos h]
theorem zbq (f a n i:Nat)(h:2≤n)(r:i < a+kOf n):xy (f+1) a n i=xy f a (kOf n) i++[(a+kOf n,n - kOf n)]:=by
 rw [xy,if_neg (by omega),if_pos r]
theorem za5 (f a n i:Nat)(h:2≤n)(r:¬ i < a+kOf n):xy (f+1) a n i=xy f (a+kOf n) (n - kOf n) i++[(a,kOf n)]:=by
 rw [xy,if_neg (by omega),if_neg r]
theorem zaq (f m a n:Nat)(whole:Bool)(h:m=a+n):qd f m a n whole=if whole=true then [] else [(a,n)]:=by
 cases f with
 | zero=>rw [qd,if_pos h]
 | succ f=>rw [qd,if_pos h]
theorem zbr (f m a n:Nat)(whole:Bool)(h:m≠a+n)(r:m≤a+kOf n):qd (f+1) m a n whole=qd f m a (kOf n) whole++[(a+kOf n,n - kOf n)]:=by
 rw [qd,if_neg h,if_pos r]
theorem zbx (f m a n:Nat)(whole:Bool)(h:m≠a+n)(r:¬ m≤a+kOf n):qd (f+1) m a n whole=qd f m (a+kOf n) (n - kOf n) false++[(a,kOf n)]:=by
 rw [qd,if_neg h,if_neg r]
theorem zaw (f:Nat):∀ a n i,(xy f a n i).length≤f:=by
 induction f with
 | zero=>intro a n i;simp [xy]
 | succ f ih =>
  intro a n i;by_cases h:n≤1
  ·rw [zd4 _ _ _ _ h];simp
  by_cases r:i < a+kOf n
  ·rw [zbq f a n i (by omega) r];have:=ih a (kOf n) i;simp;omega
  ·rw [za5 f a n i (by omega) r];have:=ih (a+kOf n) (n - kOf n) i;simp;omega
theorem za4 (f:Nat):∀ m a n whole,(qd f m a n whole).length≤f+1:=by
 induction f with
 | zero =>
  intro m a n whole;by_cases h:m=a+n
  ·rw [zaq _ _ _ _ _ h];split<;>simp
  ·rw [qd,if_neg h];simp
 | succ f ih =>
  intro m a n whole;by_cases h:m=a+n
  ·rw [zaq _ _ _ _ _ h];split<;>simp
  by_cases r:m≤a+kOf n
  ·rw [zbr f m a n whole h r];have:=ih m a (kOf n) whole;simp;omega
  ·rw [zbx f m a n whole h r];have:=ih m (a+kOf n) (n - kOf n) false;simp;omega
theorem jm (n f:Nat)(h2:2≤n)(h:n≤2 ^ (f+1)):kOf n≤2 ^ f∧n - kOf n≤2 ^ f∧1≤kOf n∧1≤n - kOf n∧kOf n < n∧n≤2*kOf n:=by
 obtain⟨r,D,E⟩:=jg n h2;have A:kOf n≤2 ^ f:=by
  unfold kOf at *
  refine Nat.pow_le_pow_right (by omega) ?_;have:(n - 1).log2 < f+1:=(Nat.pow_lt_pow_iff_right (by omega:1 < 2)).1 (Nat.lt_of_lt_of_le r h);omega
 omega
theorem zum (es:List (List UInt8)):∀(f g a n i:Nat),n≤2 ^ f→n≤g→a+n≤es.length→a≤i→i < a+n→zac g (run es (a,n)) (i - a)=(xy f a n i).map (fun s=>ye (run es s)):=by
 intro f
 induction f with
 | zero =>
  intro g a n i h K E h1 h2;have r:=zc5 es a n E;have A:n≤1:=by simpa using h
  rw [zcm _ _ _ (by omega)];rfl
 | succ f ih =>
  intro g a n i h K E h1 h2;have r:=zc5 es a n E;by_cases A:n≤1
  ·rw [zcm _ _ _ (by omega),zd4 _ _ _ _ A];rfl
  obtain⟨g,rfl⟩:∃ J,g=J+1:=⟨g - 1,by omega⟩
  obtain⟨H,I,L,Q,R,S⟩:=jm n f (by omega) h;have U:=zc5 es a (kOf n) (by omega);have V:=zc5 es (a+kOf n) (n - kOf n) (by omega);by_cases D:i < a+kOf n
  ·rw [zbq f a n i (by omega) D,zcy g _ _ (by omega) (by rw [r];omega),r,zfq es a n _ (by omega),zfr,ih g a (kOf n) i H (by omega) (by omega) h1 D,List.map_append];congr 2;exact vz _ _ _ (by omega) (Nat.le_refl _)
  ·rw [za5 f a n i (by omega) D,zb1 g _ _ (by omega) (by rw [r];omega),r,zfq es a n _ (by omega),zfr,show i - a - kOf n=i - (a+kOf n) by omega,ih g (a+kOf n) (n - kOf n) i I (by omega) (by omega) (by omega) (by omega),List.map_append];congr 2;exact vz _ _ _ (by omega) (Nat.le_refl _)
theorem zuw (es:List (List UInt8)):∀(f g m a n:Nat) (whole:Bool),n≤2 ^ f→n≤g→a+n≤es.length→a < m→m≤a+n→zci g (m - a) (run es (a,n)) whole=(qd f m a n whole).map (fun s=>ye (run es s)):=by
 intro f
 induction f with
 | zero =>
  intro g m a n whole h J E h1 h2;have r:=zc5 es a n E;have K:n≤1:=by simpa using h
  obtain⟨g,rfl⟩:∃ A,g=A+1:=⟨g - 1,by omega⟩
  rw [zaq 0 m a n whole (by omega),show m - a=(run es (a,n)).length by omega];cases whole with
  | true=>rw [zc0];rfl
  | false=>rw [zfe];simp [ye];exact vz _ _ _ (by omega) (Nat.le_refl _)
 | succ f ih =>
  intro g m a n whole h J E h1 h2;have r:=zc5 es a n E;obtain⟨g,rfl⟩:∃ A,g=A+1:=⟨g - 1,by omega⟩
  by_cases hm:m=a+n
  ·rw [zaq _ m a n whole hm,show m - a=(run es (a,n)).length by omega];cases whole with
   | true=>rw [zc0];rfl
   | false=>rw [zfe];simp [ye];exact vz _ _ _ (by omega) (Nat.le_refl _)
  obtain⟨H,I,L,Q,R,S⟩:=jm n f (by omega) h;have U:=zc5 es a (kOf n) (by omega);have V:=zc5 es (a+kOf n) (n - kOf n) (by omega);by_cases D:m≤a+kOf n
  ·rw [zbr f m a n whole hm D,zfh g _ _ _ (by omega) (by rw [r];omega),r,zfq es a n _ (by omega),zfr,ih g m a (kOf n) whole H (by omega) (by omega) h1 D,List.map_append];congr 2;exact vz _ _ _ (by omega) (Nat.le_refl _)
  ·rw [zbx f m a n whole hm D,zd9 g _ _ _ (by omega) (by rw [r];omega),r,zfq es a n _ (by omega),zfr,show m - a - kOf n=m - (a+kOf n) by omega,ih g m (a+kOf n) (n - kOf n) false I (by omega) (by omega) (by omega) (by omega),List.map_append];congr 2;exact vz _ _ _ (by omega) (Nat.le_refl _)
theorem zpn {l i w l' r w':Int}(h:¬ j8 l i w)(D:¬ j8 l' r w')(E:i≤9223372036854775807)(A:r≤9223372036854775807)(e:qi l i w=qi l' r w'):l=l'∧i=r∧w=w':=by
 have a:=zk1 h E;have b:=zk1 D A;rw [e,b] at a;simp only [Prod.mk.injEq,and_true] at a;exact⟨a.1.symm,a.2.1.symm,a.2.2.symm⟩
theorem zmv {l i w:Int}:qi l i w≠cpF:=by
 unfold qi
 split
 ·simp [cpF]
 ·unfold zjc cpF zjg zdo
  split<;>simp
def yd (l:Int)(n:Nat):Nat:=n / 4 ^ l.toNat
def xo (es:List (List UInt8))(l:Int)(k:Nat):List UInt8 :=
 if l=-1 then zj4 (es.getD k []) else ye ((es.drop (k*4 ^ l.toNat)).take (4 ^ l.toNat))
def wid (c j:Nat):Nat:=min 4 (c - 4*j)
def zcj (es:List (List UInt8))(l:Int)(j w:Nat):List UInt8:=((List.range' (4*j) w).map (xo es l)).flatten
def zbg (es:List (List UInt8))(l:Int)(c j:Nat):List UInt8×List UInt8:=(qi l j (wid c j),zcj es l j (wid c j))
def zhb (es:List (List UInt8))(l:Int)(h c:Nat):Fs:=(List.range' h ((c+3) / 4 - h)).map (zbg es l c)
def vo (es:List (List UInt8))(L:Nat):Fs:=zhb es (-1) 0 es.length++(List.range L).flatMap fun(k:Nat)=>zhb es (k:Int) 0 (es.length / 4 ^ k)
def xd (es:List (List UInt8)):Fs:=vo es 21
def zeq (es:List (List UInt8))(put:Nat)(l:Int):Fs:=if yd l es.length=yd l put then [] else zhb es l (yd l put / 4) (yd l es.length)
def zqx (es:List (List UInt8))(put L:Nat):Fs:=zeq es put (-1)++(List.range L).flatMap fun(k:Nat)=>zeq es put (k:Int)
def xr (es:List (List UInt8))(put:Nat):Fs:=zqx es put 21
theorem z12 (es:List (List UInt8))(l:Int)(h:Nat):zhb es l h 0=[]:=by simp [zhb]
theorem zi5 {es:List (List UInt8)}{l:Int}{r c:Nat}{f:List UInt8×List UInt8}:f∈zhb es l r c↔∃ j,r≤j∧4*j < c∧f=zbg es l c j:=by
 unfold zhb;rw [List.mem_map];constructor
 ·rintro⟨j,h,rfl⟩;rw [List.mem_range'_1] at h;exact⟨j,h.1,by omega,rfl⟩
 ·rintro⟨j,h1,h2,rfl⟩;exact⟨j,by rw [List.mem_range'_1];omega,rfl⟩
theorem zps {α:Type}(f:Nat→List α)(a b:Nat)(r:a≤b)(h:∀ k,a≤k→f k=[]):(List.range b).flatMap f=(List.range a).flatMap f:=by
 induction b with
 | zero=>obtain rfl:a=0:=by omega
         rfl
 | succ b ih =>
  by_cases e:a=b+1
  ·rw [e]
  ·rw [List.range_succ,List.flatMap_append,ih (by omega)];simp [h b (by omega)]
theorem zvo (es:List (List UInt8))(L:Nat)(h:es.length < 4 ^ L)(r:L≤21):vo es L=xd es:=by
 unfold xd vo;rw [zps _ L 21 r];intro k A;rw [Nat.div_eq_of_lt (Nat.lt_of_lt_of_le h (Nat.pow_le_pow_right (by omega) A))];exact z12 _ _ _
def isL (l:Int):Prop:=-1≤l∧l≤20
theorem vv {es:List (List UInt8)}{f:List UInt8×List UInt8}:f∈xd es↔∃ l j,isL l∧4*j < yd l es.length∧f=zbg es l (yd l es.length) j:=by
 unfold xd vo;rw [List.mem_append,zi5,List.mem_flatMap];constructor
 ·rintro(⟨j,-,h,rfl⟩ | ⟨k,A,r⟩)
  ·exact⟨-1,j,⟨by omega,by omega⟩,by simpa [yd] using h,by simp [yd]⟩
  ·rw [zi5] at r;obtain⟨j,-,h,rfl⟩:=r;rw [List.mem_range] at A;exact⟨k,j,⟨by omega,by omega⟩,by simpa [yd] using h,by simp [yd]⟩
 ·rintro⟨l,j,⟨h1,h2⟩,h,rfl⟩;by_cases e:l=-1
  ·subst e;exact .inl ⟨j,Nat.zero_le _,by simpa [yd] using h,by simp [yd]⟩
  ·obtain⟨k,rfl⟩:=Int.eq_ofNat_of_zero_le (show 0≤l by omega);exact .inr ⟨k,List.mem_range.2 (by omega),zi5.2 ⟨j,Nat.zero_le _,by simpa [yd] using h,by simp [yd]⟩⟩
theorem zsb {es:List (List UInt8)}{put:Nat}{f:List UInt8×List UInt8}:f∈xr es put↔∃ l j,isL l∧yd l es.length≠yd l put∧yd l put / 4≤j∧4*j < yd l es.length∧f=zbg es l (yd l es.length) j:=by
 have key:∀ l,f∈zeq es put l↔∃ j,yd l es.length≠yd l put∧yd l put / 4≤j∧4*j < yd l es.length∧f=zbg es l (yd l es.length) j:=by
  intro l;unfold zeq
  split
  ·rename_i e;simp [e]
  ·rename_i e;rw [zi5];simp [e]
 unfold xr zqx;rw [List.mem_append,key,List.mem_flatMap];constructor
 ·rintro(⟨j,h⟩ | ⟨k,A,r⟩)
  ·exact⟨-1,j,⟨by omega,by omega⟩,h⟩
  ·rw [key] at r;obtain⟨j,h⟩:=r;rw [List.mem_range] at A;exact⟨k,j,⟨by omega,by omega⟩,h⟩
 ·rintro⟨l,j,⟨h1,h2⟩,h⟩;by_cases e:l=-1
  ·subst e;exact .inl ⟨j,h⟩
  ·obtain⟨k,rfl⟩:=Int.eq_ofNat_of_zero_le (show 0≤l by omega);exact .inr ⟨k,List.mem_range.2 (by omega),(key _).2 ⟨j,h⟩⟩
theorem zo3 {es:List (List UInt8)}{put:Nat}:∀ f∈xr es put,f∈xd es:=by
 intro f r;obtain⟨l,j,h1,-,-,h2,h⟩:=zsb.1 r;exact vv.2 ⟨l,j,h1,h2,h⟩
theorem znm {α:Type}(es:List α)(p a b:Nat)(h:a+b≤p):((es.take p).drop a).take b=(es.drop a).take b:=by
 apply List.ext_getElem?;intro i;simp only [List.getElem?_take,List.getElem?_drop]
 split
 ·rw [if_pos (by omega)]
 ·rfl
theorem zwg (es:List (List UInt8))(l:Int)(p k:Nat)(h:k < yd l p):xo (es.take p) l k=xo es l k:=by
 unfold xo
 split
 ·rename_i e;subst e;have:k < p:=by simpa [yd] using h
  rw [List.getD_eq_getElem?_getD,List.getD_eq_getElem?_getD,List.getElem?_take,if_pos this]
 ·unfold yd at h;have r:0 < 4 ^ l.toNat:=Nat.pow_pos (by omega);have h1:(k+1)*4 ^ l.toNat≤p:=(Nat.le_div_iff_mul_le r).1 h;rw [znm];rw [Nat.add_mul] at h1;omega
theorem znp (es:List (List UInt8))(l:Int)(p c c' j:Nat)(A:wid c' j=wid c j)(h:4*j+wid c j≤yd l p):zbg (es.take p) l c' j=zbg es l c j:=by
 unfold zbg;rw [A];refine Prod.ext rfl ?_;show zcj _ _ _ _=zcj _ _ _ _;unfold zcj;congr 1;refine List.map_congr_left fun k r=>?_;rw [List.mem_range'_1] at r;exact zwg es l p k (by omega)
theorem zwk {es:List (List UInt8)}{put:Nat}(E:put≤es.length):∀ f∈xd es,f∈xr es put∨f∈xd (es.take put):=by
 intro f r;obtain⟨l,j,h1,h2,rfl⟩:=vv.1 r;have h:(es.take put).length=put:=by rw [List.length_take];omega
 have D:yd l put≤yd l es.length:=Nat.div_le_div_right E;by_cases e:yd l es.length=yd l put
 ·refine .inr (vv.2 ⟨l,j,h1,by rw [h];omega,?_⟩);rw [h,znp es l put (yd l es.length) (yd l put) j (by rw [e]) (by unfold wid;omega)]
 ·by_cases A:yd l put / 4≤j
  ·exact .inl (zsb.2 ⟨l,j,h1,e,A,h2,rfl⟩)
  ·refine .inr (vv.2 ⟨l,j,h1,by rw [h];omega,?_⟩);rw [h,znp es l put (yd l es.length) (yd l put) j (by unfold wid;omega) (by unfold wid;omega)]
theorem zeu (l:Int)(n:Nat):yd l n≤n:=Nat.div_le_self _ _
theorem zfd {l:Int}{j c:Nat}(h:isL l)(r:4*j < c):¬ j8 l j (wid c j):=by
 unfold j8 wid isL at *
 omega
theorem zj3 {es:List (List UInt8)}(K:es.length≤1000000):zzv (xd es):=by
 refine⟨fun q x y D E=>?_,fun x D=>?_⟩
 ·obtain⟨l,j,h1,h2,e⟩:=vv.1 D;obtain⟨l',H,r,A,h⟩:=vv.1 E;have b:=zeu l es.length;have I:=zeu l' es.length;unfold zbg at e h;simp only [Prod.mk.injEq] at e h;obtain⟨rfl,J,-⟩:=zpn (zfd h1 h2) (zfd r A) (by omega) (by omega) (e.1.symm.trans h.1);obtain rfl:j=H:=by omega
  rw [e.2,h.2]
 ·obtain⟨l,j,h1,h2,e⟩:=vv.1 D;unfold zbg at e;simp only [Prod.mk.injEq] at e;exact zmv e.1.symm
def zen (d:Nat):UInt8:=if d < 10 then UInt8.ofNat (48+d) else UInt8.ofNat (87+d)
def z6b (b:UInt8):List UInt8:=[zen (b.toNat / 16),zen (b.toNat % 16)]
def j2 (l:List UInt8):List UInt8:=(l.map z6b).flatten
def zjq (c:UInt8):Prop:=(48≤c.toNat∧c.toNat≤57)∨(97≤c.toNat∧c.toNat≤102)
def nv (c:UInt8):Nat:=if c.toNat≤57 then c.toNat - 48 else c.toNat - 87
def zer (h:Nat):List UInt8→Nat
 | []=>h
 | c::r=>zer (h*16+nv c) r
theorem zue (d:Nat)(h:d < 16):(zen d).toNat=if d < 10 then 48+d else 87+d:=by
 unfold zen
 split<;>rw [UInt8.toNat_ofNat']<;>omega
theorem zrz (d:Nat)(h:d < 16):zjq (zen d):=by
 unfold zjq;rw [zue d h]
 split<;>omega
theorem zx9 (d:Nat)(h:d < 16):nv (zen d)=d:=by
 unfold nv;rw [zue d h]
 split<;>split<;>omega
theorem yab (c:UInt8)(h:zjq c):nv c < 16:=by
 unfold zjq at h;unfold nv
 split<;>omega
theorem zrp (a b:List UInt8)(n:Nat):zer n (a++b)=zer (zer n a) b:=by
 induction a generalizing n with
 | nil=>rfl
 | cons c a ih=>exact ih _
theorem zzr (n:Nat)(b:UInt8)(r:List UInt8):zer n (z6b b++r)=zer (n*256+b.toNat) r:=by
 have h:=b.toNat_lt;show zer ((n*16+nv (zen (b.toNat / 16)))*16+nv (zen (b.toNat % 16))) r=_;rw [zx9 _ (by omega),zx9 _ (by omega)];congr 1;omega
theorem zkc (b:UInt8)(l:List UInt8):j2 (b::l)=z6b b++j2 l:=by simp [j2]
theorem vw (l:List UInt8):(j2 l).length=2*l.length:=by
 induction l with
 | nil=>rfl
 | cons b l ih=>rw [zkc,List.length_append,ih];simp [z6b];omega
theorem zn2 (l:List UInt8):∀ c∈j2 l,zjq c:=by
 induction l with
 | nil=>intro c h;simp [j2] at h
 | cons b l ih =>
  intro c h;have r:=b.toNat_lt;rw [zkc] at h;rcases List.mem_append.1 h with h | h
  ·rcases(by simpa [z6b] using h:c=zen (b.toNat / 16)∨c=zen (b.toNat % 16)) with rfl | rfl
   ·exact zrz _ (by omega)
   ·exact zrz _ (by omega)
  ·exact ih c h
theorem zyr (l:List UInt8)(h:∀ c∈l,zjq c)(n k:Nat)(r:n < 16 ^ k):zer n l < 16 ^ (k+l.length):=by
 induction l generalizing n k with
 | nil=>exact r
 | cons c l ih =>
  have D:=yab c (h c (by simp));have:n*16+nv c < 16 ^ (k+1):=by rw [Nat.pow_succ];omega
  have:=ih (fun x A=>h x (by simp [A])) (n*16+nv c) (k+1) this;rw [show k+(c::l).length=k+1+l.length by simp;omega];exact this
theorem zno (root:List UInt8)(h:root.length=8):zj8 (zer 0 (j2 root):Nat)=root:=by
 obtain⟨r,A,D,E,H,I,J,K,rfl⟩:=hv8 root h;have h0:=r.toNat_lt;have h1:=A.toNat_lt;have h2:=D.toNat_lt;have Q:=E.toNat_lt;have R:=H.toNat_lt;have h5:=I.toNat_lt;have h6:=J.toNat_lt;have S:=K.toNat_lt;have e:zer 0 (j2 [r,A,D,E,H,I,J,K])=((((((r.toNat*256+A.toNat)*256+D.toNat)*256+E.toNat)*256+H.toNat)*256+I.toNat)*256+J.toNat)*256+K.toNat:=by
  simp only [zkc,zzr];show zer _ []=_;simp only [zer,Nat.zero_mul,Nat.zero_add]
 rw [e];unfold zj8;have key:∀(b:UInt8) (x:Int),x=(b.toNat:Int)→UInt8.ofNat x.toNat=b:=by
  intro b x L;subst L;simp
 generalize U:((((((r.toNat*256+A.toNat)*256+D.toNat)*256+E.toNat)*256+H.toNat)*256+I.toNat)*256+J.toNat)*256+K.toNat=n;rw [key r _ (by omega),key A _ (by omega),key D _ (by omega),key E _ (by omega),key H _ (by omega),key I _ (by omega),key J _ (by omega),key K _ (by omega)]
theorem zuv {a b:List UInt8}(r:a.length=8)(A:b.length=8)(h:j2 a=j2 b):a=b:=by
 rw [← zno a r,← zno b A,h]
theorem zzx (l:List UInt8):∀ x∈j2 l,x≠10:=by
 intro x h e;subst e;have:=zn2 l 10 h;unfold zjq at this
 revert this
 decide
theorem zzo (n:Nat):∀ x∈dec n,x≠10:=zlw n 10 (by unfold zcl;decide)
def zaz:List UInt8:=[116,105,108,101,115,10]
def zv4 (n:Nat)(root:List UInt8):List UInt8:=zaz++dec n++[10]++j2 root++[10]
def zid (n:Nat)(root key:List UInt8):List UInt8:=j2 (hash (key++[0]++zv4 n root))
def jr (n:Nat)(root key:List UInt8):List UInt8:=zv4 n root++zid n root key++[10]
theorem zg0 (n:Nat)(root key:List UInt8):jr n root key=zaz++(dec n++(10::(j2 root++(10::(zid n root key++[10]))))):=by
 unfold jr zv4;simp
def vp (t key:List UInt8)(n:Nat)(root:List UInt8):Prop:=n≤9223372036854775807∧root.length=8∧t=jr n root key
theorem zy6 (r:List UInt8):ztp (10::r):=by show ¬ zcl 10;unfold zcl;decide
theorem vp.inj {t key:List UInt8}{n m:Nat}{a b:List UInt8}(h:vp t key n a)(H:vp t key m b):n=m∧a=b:=by
 obtain⟨K,I,e⟩:=h;obtain⟨hm,J,A⟩:=H;rw [e,zg0,zg0] at A;have D:=List.append_cancel_left A;have r:z8q (dec n++(10::(j2 a++(10::(zid n a key++[10])))))=z8q (dec m++(10::(j2 b++(10::(zid m b key++[10]))))):=by rw [D]
 rw [zs0 n K _ (zy6 _),zs0 m hm _ (zy6 _)] at r;simp only [Prod.mk.injEq,List.cons.injEq,true_and] at r;obtain⟨rfl,E,-⟩:=r;refine⟨rfl,zuv I J ?_⟩;have:=congrArg (List.take 16) E;rw [List.take_append_of_le_length (by rw [vw];omega),List.take_append_of_le_length (by rw [vw];omega),List.take_of_length_le (by rw [vw];omega),List.take_of_length_le (by rw [vw];omega)] at this;exact this
theorem z42 (a b:List UInt8)(c:UInt8)(h:∀ x∈a,x≠c):Lib.index (a++c::b) [c]=a.length:=by
 refine Lib.index_first (by simp) ?_ (fun j r=>?_)
 ·unfold Lib.occAt;rw [List.drop_left];simp
 ·cases ho:Lib.occAt (a++c::b) [c] j with
  | false=>rfl
  | true =>
   have:=Lib.occAt_head rfl ho;rw [List.getElem?_append_left r,List.getElem?_eq_getElem r] at this;exact absurd (Option.some.inj this) (h _ (List.getElem_mem r))
theorem zkg (k:Nat)(a b:List UInt8)(c:UInt8)(h:∀ x∈a,x≠c):Lib.splitK [c] 0 (k+1) (a++c::b)=a::Lib.splitK [c] 0 k b:=by
 rw [Lib.splitK,z42 a b c h,if_neg (by rw [beq_iff_eq];omega),Int.toNat_natCast,Nat.add_zero,List.take_left];congr 2;rw [show a.length+[c].length=(a++[c]).length by simp,show a++c::b=(a++[c])++b by simp,List.drop_left]
theorem zwu (n:Nat)(root key:List UInt8):Lib.splitK [10] 0 3 (jr n root key)=[[116,105,108,101,115],dec n,j2 root,zid n root key++[10]]:=by
 rw [zg0,show zaz=[116,105,108,101,115]++[10] from rfl,List.append_assoc,show [10]++(dec n++(10::(j2 root++(10::(zid n root key++[10])))))=(10:UInt8)::(dec n++(10::(j2 root++(10::(zid n root key++[10]))))) from rfl];rw [zkg 2 _ _ 10 (by decide),zkg 1 _ _ 10 (zzo n),zkg 0 _ _ 10 (zzx root)];rfl
theorem zzt (n:Nat)(root key:List UInt8):3≤(jr n root key).length:=by
 rw [zg0];simp [zaz]
abbrev Lk:=List UInt8→Option (List UInt8)
def wdF (h:Lk)(i hv:Nat):Option Nat:=[4,3,2,1].find? fun w=>decide (hv < w)&&(h (qi (-1) i (w:Nat))).isSome
def zy5 (h:Lk)(s:List Nat):Prop:=∀ j w:Nat,1≤w→w≤4→(h (qi (-1) j w)).isSome→j∈s
end Go.Proofs.YtndkblnpbjffhaaGreatDoor
