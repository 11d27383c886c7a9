import Derived.Test.YtinhekmmdlhfkaaGreatDoorG06
import Derived.Test.YtinhekmmdlhfkaaGreatDoorG01
import Derived.Test.YtinhekmmdlhfkaaGreatDoorG04
import Derived.Lib.Split
namespace Go.Proofs.YtinhekmmdlhfkaaGreatDoor
section
open Go.RowKit
def pathF:Nat→List (List UInt8) →Nat→List (List UInt8)
 | 0,_,_=>[]
 | f+1,ls,i =>
  if ls.length≤1 then []
  else if i < kOf ls.length then pathF f (ls.take (kOf ls.length)) i++[rootF f (ls.drop (kOf ls.length))]
  else pathF f (ls.drop (kOf ls.length)) (i - kOf ls.length)++[rootF f (ls.take (kOf ls.length))]
theorem pathF_one (f:Nat)(ls:List (List UInt8))(i:Nat)(h:ls.length≤1):pathF f ls i=[]:=by
 cases f with
 | zero=>rfl
 | succ f=>rw [pathF,if_pos h]
theorem pathF_left (f:Nat)(ls:List (List UInt8))(i:Nat)(h:2≤ls.length)(hi:i < kOf ls.length):pathF (f+1) ls i=pathF f (ls.take (kOf ls.length)) i++[rootF f (ls.drop (kOf ls.length))]:=by
 rw [pathF,if_neg (by omega),if_pos hi]
theorem pathF_right (f:Nat)(ls:List (List UInt8))(i:Nat)(h:2≤ls.length)(hi:¬ i < kOf ls.length):pathF (f+1) ls i=pathF f (ls.drop (kOf ls.length)) (i - kOf ls.length)++[rootF f (ls.take (kOf ls.length))]:=by
 rw [pathF,if_neg (by omega),if_neg hi]
def prtF:Nat→Nat→List (List UInt8) →Bool→List (List UInt8)
 | 0,_,_,_=>[]
 | f+1,m,ls,whole =>
  if m=ls.length then (if whole=true then [] else [rootF (f+1) ls])
  else if m≤kOf ls.length then prtF f m (ls.take (kOf ls.length)) whole++[rootF f (ls.drop (kOf ls.length))]
  else prtF f (m - kOf ls.length) (ls.drop (kOf ls.length)) false++[rootF f (ls.take (kOf ls.length))]
theorem prtF_whole (f:Nat)(ls:List (List UInt8)):prtF (f+1) ls.length ls true=[]:=by
 rw [prtF,if_pos rfl,if_pos rfl]
theorem prtF_not (f:Nat)(ls:List (List UInt8)):prtF (f+1) ls.length ls false=[rootF (f+1) ls]:=by
 rw [prtF,if_pos rfl,if_neg (by simp)]
theorem prtF_left (f m:Nat)(ls:List (List UInt8))(whole:Bool)(h:m≠ls.length)(hk:m≤kOf ls.length):prtF (f+1) m ls whole=prtF f m (ls.take (kOf ls.length)) whole++[rootF f (ls.drop (kOf ls.length))]:=by
 rw [prtF,if_neg h,if_pos hk]
theorem prtF_right (f m:Nat)(ls:List (List UInt8))(whole:Bool)(h:m≠ls.length)(hk:¬ m≤kOf ls.length):prtF (f+1) m ls whole=prtF f (m - kOf ls.length) (ls.drop (kOf ls.length)) false++[rootF f (ls.take (kOf ls.length))]:=by
 rw [prtF,if_neg h,if_neg hk]
end
section
def rootT (l:List (List UInt8)):List UInt8:=rootF l.length l
theorem rootT_8 (l:List (List UInt8)):(rootT l).length=8:=rootF_length _ _
theorem rootF_fuel:∀(f g:Nat) (l:List (List UInt8)),l.length≤f→l.length≤g→rootF f l=rootF g l:=by
 intro f
 induction f with
 | zero =>
  intro g l hf _
  rw [rootF_nil 0 l (by omega),rootF_nil g l (by omega)]
 | succ f ih =>
  intro g l hf hg
  by_cases h0:l.length=0
  ·rw [rootF_nil _ l h0,rootF_nil _ l h0]
  ·obtain⟨g,rfl⟩:∃ g',g=g'+1:=⟨g - 1,by omega⟩
   by_cases h1:l.length=1
   ·rw [rootF_one f l h1,rootF_one g l h1]
   ·obtain⟨k1,k2,k3⟩:=kOf_spec l.length (by omega)
    rw [rootF_more f l (by omega),rootF_more g l (by omega),ih g (l.take (kOf l.length)) (by simp;omega) (by simp;omega),ih g (l.drop (kOf l.length)) (by simp;omega) (by simp;omega)]
theorem rootT_split (l:List (List UInt8))(h:2≤l.length):rootT l=nodeH (rootT (l.take (kOf l.length))) (rootT (l.drop (kOf l.length))):=by
 obtain⟨k1,k2,k3⟩:=kOf_spec l.length h
 unfold rootT
 obtain⟨f,hf⟩:∃ f,l.length=f+1:=⟨l.length - 1,by omega⟩
 rw [hf,rootF_more f l h,← hf]
 rw [rootF_fuel f (l.take (kOf l.length)).length (l.take (kOf l.length)) (by simp;omega) (Nat.le_refl _),rootF_fuel f (l.drop (kOf l.length)).length (l.drop (kOf l.length)) (by simp;omega) (Nat.le_refl _)]
theorem kOf_pow (p:Nat):kOf (2 ^ (p+1))=2 ^ p:=by
 obtain⟨h1,h2,h3⟩:=kOf_spec (2 ^ (p+1)) (by rw [Nat.pow_succ];have:0 < 2 ^ p:=Nat.pow_pos (by omega);omega)
 unfold kOf at *
 generalize (2 ^ (p+1) - 1).log2=q at *
 have a:q < p+1:=(Nat.pow_lt_pow_iff_right (by omega:1 < 2)).1 h1
 have b:p+1≤q+1:=(Nat.pow_le_pow_iff_right (by omega:1 < 2)).1 (by rw [Nat.pow_succ 2 q];omega)
 congr 1
 omega
theorem rootT_one (e:List UInt8):rootT [e]=leafH e:=rfl
def run (es:List (List UInt8))(s:Nat×Nat):List (List UInt8):=(es.drop s.1).take s.2
theorem run_len (es:List (List UInt8))(a n:Nat)(h:a+n≤es.length):(run es (a,n)).length=n:=by simp [run];omega
theorem run_take (es:List (List UInt8))(a n k:Nat)(h:k≤n):(run es (a,n)).take k=run es (a,k):=by
 simp only [run,List.take_take];congr 1;omega
theorem run_drop (es:List (List UInt8))(a n k:Nat):(run es (a,n)).drop k=run es (a+k,n - k):=by
 simp only [run,List.drop_take,List.drop_drop]
def pathS:Nat→Nat→Nat→Nat→List (Nat×Nat)
 | 0,_,_,_=>[]
 | f+1,a,n,i =>
  if n≤1 then []
  else if i < a+kOf n then pathS f a (kOf n) i++[(a+kOf n,n - kOf n)]
  else pathS f (a+kOf n) (n - kOf n) i++[(a,kOf n)]
def partS:Nat→Nat→Nat→Nat→Bool→List (Nat×Nat)
 | 0,m,a,n,whole=>if m=a+n then (if whole=true then [] else [(a,n)]) else []
 | f+1,m,a,n,whole =>
  if m=a+n then (if whole=true then [] else [(a,n)])
  else if m≤a+kOf n then partS f m a (kOf n) whole++[(a+kOf n,n - kOf n)]
  else partS f m (a+kOf n) (n - kOf n) false++[(a,kOf n)]
theorem pathS_one (f a n i:Nat)(h:n≤1):pathS f a n i=[]:=by
 cases f with
 | zero=>rfl
 | succ f=>rw [pathS,if_pos h]
theorem pathS_left (f a n i:Nat)(h:2≤n)(hi:i < a+kOf n):pathS (f+1) a n i=pathS f a (kOf n) i++[(a+kOf n,n - kOf n)]:=by
 rw [pathS,if_neg (by omega),if_pos hi]
theorem pathS_right (f a n i:Nat)(h:2≤n)(hi:¬ i < a+kOf n):pathS (f+1) a n i=pathS f (a+kOf n) (n - kOf n) i++[(a,kOf n)]:=by
 rw [pathS,if_neg (by omega),if_neg hi]
theorem partS_end (f m a n:Nat)(whole:Bool)(h:m=a+n):partS f m a n whole=if whole=true then [] else [(a,n)]:=by
 cases f with
 | zero=>rw [partS,if_pos h]
 | succ f=>rw [partS,if_pos h]
theorem partS_left (f m a n:Nat)(whole:Bool)(h:m≠a+n)(hk:m≤a+kOf n):partS (f+1) m a n whole=partS f m a (kOf n) whole++[(a+kOf n,n - kOf n)]:=by
 rw [partS,if_neg h,if_pos hk]
theorem partS_right (f m a n:Nat)(whole:Bool)(h:m≠a+n)(hk:¬ m≤a+kOf n):partS (f+1) m a n whole=partS f m (a+kOf n) (n - kOf n) false++[(a,kOf n)]:=by
 rw [partS,if_neg h,if_neg hk]
theorem pathS_count (f:Nat):∀ a n i,(pathS f a n i).length≤f:=by
 induction f with
 | zero=>intro a n i;simp [pathS]
 | succ f ih =>
  intro a n i
  by_cases h:n≤1
  ·rw [pathS_one _ _ _ _ h];simp
  by_cases hi:i < a+kOf n
  ·rw [pathS_left f a n i (by omega) hi];have:=ih a (kOf n) i;simp;omega
  ·rw [pathS_right f a n i (by omega) hi];have:=ih (a+kOf n) (n - kOf n) i;simp;omega
theorem partS_count (f:Nat):∀ m a n whole,(partS f m a n whole).length≤f+1:=by
 induction f with
 | zero =>
  intro m a n whole
  by_cases h:m=a+n
  ·rw [partS_end _ _ _ _ _ h];split<;>simp
  ·rw [partS,if_neg h];simp
 | succ f ih =>
  intro m a n whole
  by_cases h:m=a+n
  ·rw [partS_end _ _ _ _ _ h];split<;>simp
  by_cases hk:m≤a+kOf n
  ·rw [partS_left f m a n whole h hk];have:=ih m a (kOf n) whole;simp;omega
  ·rw [partS_right f m a n whole h hk];have:=ih m (a+kOf n) (n - kOf n) false;simp;omega
theorem kOf_half (n f:Nat)(h2:2≤n)(h:n≤2 ^ (f+1)):kOf n≤2 ^ f∧n - kOf n≤2 ^ f∧1≤kOf n∧1≤n - kOf n∧kOf n < n∧n≤2*kOf n:=by
 obtain⟨k1,k2,k3⟩:=kOf_spec n h2
 have hk:kOf n≤2 ^ f:=by
  unfold kOf at *
  refine Nat.pow_le_pow_right (by omega) ?_
  have:(n - 1).log2 < f+1:=(Nat.pow_lt_pow_iff_right (by omega:1 < 2)).1 (Nat.lt_of_lt_of_le k1 h)
  omega
 omega
theorem pathS_roots (es:List (List UInt8)):∀(f g a n i:Nat),n≤2 ^ f→n≤g→a+n≤es.length→a≤i→i < a+n→pathF g (run es (a,n)) (i - a)=(pathS f a n i).map (fun s=>rootT (run es s)):=by
 intro f
 induction f with
 | zero =>
  intro g a n i h hg hl h1 h2
  have hn:=run_len es a n hl
  have hn1:n≤1:=by simpa using h
  rw [pathF_one _ _ _ (by omega)];rfl
 | succ f ih =>
  intro g a n i h hg hl h1 h2
  have hn:=run_len es a n hl
  by_cases hn1:n≤1
  ·rw [pathF_one _ _ _ (by omega),pathS_one _ _ _ _ hn1];rfl
  obtain⟨g,rfl⟩:∃ g',g=g'+1:=⟨g - 1,by omega⟩
  obtain⟨a1,a2,a3,a4,a5,a6⟩:=kOf_half n f (by omega) h
  have e1:=run_len es a (kOf n) (by omega)
  have e2:=run_len es (a+kOf n) (n - kOf n) (by omega)
  by_cases hi:i < a+kOf n
  ·rw [pathS_left f a n i (by omega) hi,pathF_left g _ _ (by omega) (by rw [hn];omega),hn,run_take es a n _ (by omega),run_drop,ih g a (kOf n) i a1 (by omega) (by omega) h1 hi,List.map_append]
   congr 2
   exact rootF_fuel _ _ _ (by omega) (Nat.le_refl _)
  ·rw [pathS_right f a n i (by omega) hi,pathF_right g _ _ (by omega) (by rw [hn];omega),hn,run_take es a n _ (by omega),run_drop,show i - a - kOf n=i - (a+kOf n) by omega,ih g (a+kOf n) (n - kOf n) i a2 (by omega) (by omega) (by omega) (by omega),List.map_append]
   congr 2
   exact rootF_fuel _ _ _ (by omega) (Nat.le_refl _)
theorem partS_roots (es:List (List UInt8)):∀(f g m a n:Nat) (whole:Bool),n≤2 ^ f→n≤g→a+n≤es.length→a < m→m≤a+n→prtF g (m - a) (run es (a,n)) whole=(partS f m a n whole).map (fun s=>rootT (run es s)):=by
 intro f
 induction f with
 | zero =>
  intro g m a n whole h hg hl h1 h2
  have hn:=run_len es a n hl
  have hn1:n≤1:=by simpa using h
  obtain⟨g,rfl⟩:∃ g',g=g'+1:=⟨g - 1,by omega⟩
  rw [partS_end 0 m a n whole (by omega),show m - a=(run es (a,n)).length by omega]
  cases whole with
  | true=>rw [prtF_whole];rfl
  | false=>rw [prtF_not];simp [rootT];exact rootF_fuel _ _ _ (by omega) (Nat.le_refl _)
 | succ f ih =>
  intro g m a n whole h hg hl h1 h2
  have hn:=run_len es a n hl
  obtain⟨g,rfl⟩:∃ g',g=g'+1:=⟨g - 1,by omega⟩
  by_cases hm:m=a+n
  ·rw [partS_end _ m a n whole hm,show m - a=(run es (a,n)).length by omega]
   cases whole with
   | true=>rw [prtF_whole];rfl
   | false=>rw [prtF_not];simp [rootT];exact rootF_fuel _ _ _ (by omega) (Nat.le_refl _)
  obtain⟨a1,a2,a3,a4,a5,a6⟩:=kOf_half n f (by omega) h
  have e1:=run_len es a (kOf n) (by omega)
  have e2:=run_len es (a+kOf n) (n - kOf n) (by omega)
  by_cases hk:m≤a+kOf n
  ·rw [partS_left f m a n whole hm hk,prtF_left g _ _ _ (by omega) (by rw [hn];omega),hn,run_take es a n _ (by omega),run_drop,ih g m a (kOf n) whole a1 (by omega) (by omega) h1 hk,List.map_append]
   congr 2
   exact rootF_fuel _ _ _ (by omega) (Nat.le_refl _)
  ·rw [partS_right f m a n whole hm hk,prtF_right g _ _ _ (by omega) (by rw [hn];omega),hn,run_take es a n _ (by omega),run_drop,show m - a - kOf n=m - (a+kOf n) by omega,ih g m (a+kOf n) (n - kOf n) false a2 (by omega) (by omega) (by omega) (by omega),List.map_append]
   congr 2
   exact rootF_fuel _ _ _ (by omega) (Nat.le_refl _)
end
section
theorem nameF_inj {l i w l' i' w':Int}(h:¬ badName l i w)(h':¬ badName l' i' w')(hi:i≤9223372036854775807)(hi':i'≤9223372036854775807)(e:nameF l i w=nameF l' i' w'):l=l'∧i=i'∧w=w':=by
 have a:=parseP_name h hi
 have b:=parseP_name h' hi'
 rw [e,b] at a
 simp only [Prod.mk.injEq,and_true] at a
 exact⟨a.1.symm,a.2.1.symm,a.2.2.symm⟩
theorem nameF_cp {l i w:Int}:nameF l i w≠cpF:=by
 unfold nameF
 split
 ·simp [cpF]
 ·unfold headF cpF entF tileF
  split<;>simp
def cntL (l:Int)(n:Nat):Nat:=n / 4 ^ l.toNat
def dataF (es:List (List UInt8))(l:Int)(k:Nat):List UInt8 :=
 if l=-1 then bun1 (es.getD k []) else rootT ((es.drop (k*4 ^ l.toNat)).take (4 ^ l.toNat))
def wid (c j:Nat):Nat:=min 4 (c - 4*j)
def fileD (es:List (List UInt8))(l:Int)(j w:Nat):List UInt8:=((List.range' (4*j) w).map (dataF es l)).flatten
def fileF (es:List (List UInt8))(l:Int)(c j:Nat):List UInt8×List UInt8:=(nameF l j (wid c j),fileD es l j (wid c j))
def levF (es:List (List UInt8))(l:Int)(j0 c:Nat):Fs:=(List.range' j0 ((c+3) / 4 - j0)).map (fileF es l c)
def wantTo (es:List (List UInt8))(L:Nat):Fs:=levF es (-1) 0 es.length++(List.range L).flatMap fun(k:Nat)=>levF es (k:Int) 0 (es.length / 4 ^ k)
def want (es:List (List UInt8)):Fs:=wantTo es 21
def levT (es:List (List UInt8))(put:Nat)(l:Int):Fs:=if cntL l es.length=cntL l put then [] else levF es l (cntL l put / 4) (cntL l es.length)
def todoTo (es:List (List UInt8))(put L:Nat):Fs:=levT es put (-1)++(List.range L).flatMap fun(k:Nat)=>levT es put (k:Int)
def todo (es:List (List UInt8))(put:Nat):Fs:=todoTo es put 21
theorem mem_levF {es:List (List UInt8)}{l:Int}{j0 c:Nat}{f:List UInt8×List UInt8}:f∈levF es l j0 c↔∃ j,j0≤j∧4*j < c∧f=fileF es l c j:=by
 unfold levF
 rw [List.mem_map]
 constructor
 ·rintro⟨j,hj,rfl⟩
  rw [List.mem_range'_1] at hj
  exact⟨j,hj.1,by omega,rfl⟩
 ·rintro⟨j,h1,h2,rfl⟩
  exact⟨j,by rw [List.mem_range'_1];omega,rfl⟩
theorem flat_more {α:Type}(f:Nat→List α)(a b:Nat)(hab:a≤b)(h:∀ k,a≤k→f k=[]):(List.range b).flatMap f=(List.range a).flatMap f:=by
 induction b with
 | zero=>obtain rfl:a=0:=by omega
         rfl
 | succ b ih =>
  by_cases e:a=b+1
  ·rw [e]
  ·rw [List.range_succ,List.flatMap_append,ih (by omega)]
   simp [h b (by omega)]
def isL (l:Int):Prop:=-1≤l∧l≤20
theorem mem_want {es:List (List UInt8)}{f:List UInt8×List UInt8}:f∈want es↔∃ l j,isL l∧4*j < cntL l es.length∧f=fileF es l (cntL l es.length) j:=by
 unfold want wantTo
 rw [List.mem_append,mem_levF,List.mem_flatMap]
 constructor
 ·rintro(⟨j,-,h,rfl⟩ | ⟨k,hk,hf⟩)
  ·exact⟨-1,j,⟨by omega,by omega⟩,by simpa [cntL] using h,by simp [cntL]⟩
  ·rw [mem_levF] at hf
   obtain⟨j,-,h,rfl⟩:=hf
   rw [List.mem_range] at hk
   exact⟨k,j,⟨by omega,by omega⟩,by simpa [cntL] using h,by simp [cntL]⟩
 ·rintro⟨l,j,⟨h1,h2⟩,h,rfl⟩
  by_cases e:l=-1
  ·subst e
   exact .inl ⟨j,Nat.zero_le _,by simpa [cntL] using h,by simp [cntL]⟩
  ·obtain⟨k,rfl⟩:=Int.eq_ofNat_of_zero_le (show 0≤l by omega)
   exact .inr ⟨k,List.mem_range.2 (by omega),mem_levF.2 ⟨j,Nat.zero_le _,by simpa [cntL] using h,by simp [cntL]⟩⟩
theorem mem_todo {es:List (List UInt8)}{put:Nat}{f:List UInt8×List UInt8}:f∈todo es put↔∃ l j,isL l∧cntL l es.length≠cntL l put∧cntL l put / 4≤j∧4*j < cntL l es.length∧f=fileF es l (cntL l es.length) j:=by
 have key:∀ l,f∈levT es put l↔∃ j,cntL l es.length≠cntL l put∧cntL l put / 4≤j∧4*j < cntL l es.length∧f=fileF es l (cntL l es.length) j:=by
  intro l
  unfold levT
  split
  ·rename_i e;simp [e]
  ·rename_i e
   rw [mem_levF]
   simp [e]
 unfold todo todoTo
 rw [List.mem_append,key,List.mem_flatMap]
 constructor
 ·rintro(⟨j,h⟩ | ⟨k,hk,hf⟩)
  ·exact⟨-1,j,⟨by omega,by omega⟩,h⟩
  ·rw [key] at hf
   obtain⟨j,h⟩:=hf
   rw [List.mem_range] at hk
   exact⟨k,j,⟨by omega,by omega⟩,h⟩
 ·rintro⟨l,j,⟨h1,h2⟩,h⟩
  by_cases e:l=-1
  ·subst e;exact .inl ⟨j,h⟩
  ·obtain⟨k,rfl⟩:=Int.eq_ofNat_of_zero_le (show 0≤l by omega)
   exact .inr ⟨k,List.mem_range.2 (by omega),(key _).2 ⟨j,h⟩⟩
theorem todo_want {es:List (List UInt8)}{put:Nat}:∀ f∈todo es put,f∈want es:=by
 intro f hf
 obtain⟨l,j,h1,-,-,h2,h3⟩:=mem_todo.1 hf
 exact mem_want.2 ⟨l,j,h1,h2,h3⟩
theorem take_drop_take {α:Type}(es:List α)(p a b:Nat)(h:a+b≤p):((es.take p).drop a).take b=(es.drop a).take b:=by
 apply List.ext_getElem?
 intro i
 simp only [List.getElem?_take,List.getElem?_drop]
 split
 ·rw [if_pos (by omega)]
 ·rfl
theorem dataF_take (es:List (List UInt8))(l:Int)(p k:Nat)(h:k < cntL l p):dataF (es.take p) l k=dataF es l k:=by
 unfold dataF
 split
 ·rename_i e
  subst e
  have:k < p:=by simpa [cntL] using h
  rw [List.getD_eq_getElem?_getD,List.getD_eq_getElem?_getD,List.getElem?_take,if_pos this]
 ·unfold cntL at h
  have hpos:0 < 4 ^ l.toNat:=Nat.pow_pos (by omega)
  have h1:(k+1)*4 ^ l.toNat≤p:=(Nat.le_div_iff_mul_le hpos).1 h
  rw [take_drop_take]
  rw [Nat.add_mul] at h1
  omega
theorem fileF_take (es:List (List UInt8))(l:Int)(p c c' j:Nat)(hw:wid c' j=wid c j)(h:4*j+wid c j≤cntL l p):fileF (es.take p) l c' j=fileF es l c j:=by
 unfold fileF
 rw [hw]
 refine Prod.ext rfl ?_
 show fileD _ _ _ _=fileD _ _ _ _
 unfold fileD
 congr 1
 refine List.map_congr_left fun k hk=>?_
 rw [List.mem_range'_1] at hk
 exact dataF_take es l p k (by omega)
theorem want_parts {es:List (List UInt8)}{put:Nat}(hp:put≤es.length):∀ f∈want es,f∈todo es put∨f∈want (es.take put):=by
 intro f hf
 obtain⟨l,j,h1,h2,rfl⟩:=mem_want.1 hf
 have hlen:(es.take put).length=put:=by rw [List.length_take];omega
 have hle:cntL l put≤cntL l es.length:=Nat.div_le_div_right hp
 by_cases e:cntL l es.length=cntL l put
 ·refine .inr (mem_want.2 ⟨l,j,h1,by rw [hlen];omega,?_⟩)
  rw [hlen,fileF_take es l put (cntL l es.length) (cntL l put) j (by rw [e]) (by unfold wid;omega)]
 ·by_cases hj:cntL l put / 4≤j
  ·exact .inl (mem_todo.2 ⟨l,j,h1,e,hj,h2,rfl⟩)
  ·refine .inr (mem_want.2 ⟨l,j,h1,by rw [hlen];omega,?_⟩)
   rw [hlen,fileF_take es l put (cntL l es.length) (cntL l put) j (by unfold wid;omega) (by unfold wid;omega)]
theorem cntL_le (l:Int)(n:Nat):cntL l n≤n:=Nat.div_le_self _ _
theorem good_file {l:Int}{j c:Nat}(h:isL l)(hj:4*j < c):¬ badName l j (wid c j):=by
 unfold badName wid isL at *
 omega
theorem want_fine {es:List (List UInt8)}(hn:es.length≤1000000):Fine (want es):=by
 refine⟨fun q x y hx hy=>?_,fun x hx=>?_⟩
 ·obtain⟨l,j,h1,h2,e⟩:=mem_want.1 hx
  obtain⟨l',j',h1',h2',e'⟩:=mem_want.1 hy
  have b:=cntL_le l es.length
  have b':=cntL_le l' es.length
  unfold fileF at e e'
  simp only [Prod.mk.injEq] at e e'
  obtain⟨rfl,hj,-⟩:=nameF_inj (good_file h1 h2) (good_file h1' h2') (by omega) (by omega) (e.1.symm.trans e'.1)
  obtain rfl:j=j':=by omega
  rw [e.2,e'.2]
 ·obtain⟨l,j,h1,h2,e⟩:=mem_want.1 hx
  unfold fileF at e
  simp only [Prod.mk.injEq] at e
  exact nameF_cp e.1.symm
end
section
def hexD (d:Nat):UInt8:=if d < 10 then UInt8.ofNat (48+d) else UInt8.ofNat (87+d)
def hex1 (b:UInt8):List UInt8:=[hexD (b.toNat / 16),hexD (b.toNat % 16)]
def hexF (l:List UInt8):List UInt8:=(l.map hex1).flatten
def isHex (c:UInt8):Prop:=(48≤c.toNat∧c.toNat≤57)∨(97≤c.toNat∧c.toNat≤102)
def nv (c:UInt8):Nat:=if c.toNat≤57 then c.toNat - 48 else c.toNat - 87
def hexN (acc:Nat):List UInt8→Nat
 | []=>acc
 | c::r=>hexN (acc*16+nv c) r
theorem hexD_val (d:Nat)(h:d < 16):(hexD d).toNat=if d < 10 then 48+d else 87+d:=by
 unfold hexD
 split<;>rw [UInt8.toNat_ofNat']<;>omega
theorem hexD_hex (d:Nat)(h:d < 16):isHex (hexD d):=by
 unfold isHex
 rw [hexD_val d h]
 split<;>omega
theorem nv_hexD (d:Nat)(h:d < 16):nv (hexD d)=d:=by
 unfold nv
 rw [hexD_val d h]
 split<;>split<;>omega
theorem nv_lt (c:UInt8)(h:isHex c):nv c < 16:=by
 unfold isHex at h
 unfold nv
 split<;>omega
theorem hexN_append (a b:List UInt8)(n:Nat):hexN n (a++b)=hexN (hexN n a) b:=by
 induction a generalizing n with
 | nil=>rfl
 | cons c a ih=>exact ih _
theorem hexN_hex1 (n:Nat)(b:UInt8)(r:List UInt8):hexN n (hex1 b++r)=hexN (n*256+b.toNat) r:=by
 have hb:=b.toNat_lt
 show hexN ((n*16+nv (hexD (b.toNat / 16)))*16+nv (hexD (b.toNat % 16))) r=_
 rw [nv_hexD _ (by omega),nv_hexD _ (by omega)]
 congr 1
 omega
theorem hexF_cons (b:UInt8)(l:List UInt8):hexF (b::l)=hex1 b++hexF l:=by simp [hexF]
theorem hexF_len (l:List UInt8):(hexF l).length=2*l.length:=by
 induction l with
 | nil=>rfl
 | cons b l ih=>rw [hexF_cons,List.length_append,ih];simp [hex1];omega
theorem hexF_hex (l:List UInt8):∀ c∈hexF l,isHex c:=by
 induction l with
 | nil=>intro c h;simp [hexF] at h
 | cons b l ih =>
  intro c h
  have hb:=b.toNat_lt
  rw [hexF_cons] at h
  rcases List.mem_append.1 h with h | h
  ·rcases(by simpa [hex1] using h:c=hexD (b.toNat / 16)∨c=hexD (b.toNat % 16)) with rfl | rfl
   ·exact hexD_hex _ (by omega)
   ·exact hexD_hex _ (by omega)
  ·exact ih c h
theorem hexN_lt (l:List UInt8)(h:∀ c∈l,isHex c)(n k:Nat)(hn:n < 16 ^ k):hexN n l < 16 ^ (k+l.length):=by
 induction l generalizing n k with
 | nil=>exact hn
 | cons c l ih =>
  have hc:=nv_lt c (h c (by simp))
  have:n*16+nv c < 16 ^ (k+1):=by rw [Nat.pow_succ];omega
  have:=ih (fun x hx=>h x (by simp [hx])) (n*16+nv c) (k+1) this
  rw [show k+(c::l).length=k+1+l.length by simp;omega]
  exact this
theorem out8_hex (root:List UInt8)(h:root.length=8):out8 (hexN 0 (hexF root):Nat)=root:=by
 obtain⟨b0,b1,b2,b3,b4,b5,b6,b7,rfl⟩:=hv8 root h
 have h0:=b0.toNat_lt;have h1:=b1.toNat_lt;have h2:=b2.toNat_lt;have h3:=b3.toNat_lt
 have h4:=b4.toNat_lt;have h5:=b5.toNat_lt;have h6:=b6.toNat_lt;have h7:=b7.toNat_lt
 have e:hexN 0 (hexF [b0,b1,b2,b3,b4,b5,b6,b7])=((((((b0.toNat*256+b1.toNat)*256+b2.toNat)*256+b3.toNat)*256+b4.toNat)*256+b5.toNat)*256+b6.toNat)*256+b7.toNat:=by
  simp only [hexF_cons,hexN_hex1]
  show hexN _ []=_
  simp only [hexN,Nat.zero_mul,Nat.zero_add]
 rw [e]
 unfold out8
 have key:∀(b:UInt8) (x:Int),x=(b.toNat:Int)→UInt8.ofNat x.toNat=b:=by
  intro b x hx
  subst hx
  simp
 generalize hn:((((((b0.toNat*256+b1.toNat)*256+b2.toNat)*256+b3.toNat)*256+b4.toNat)*256+b5.toNat)*256+b6.toNat)*256+b7.toNat=n
 rw [key b0 _ (by omega),key b1 _ (by omega),key b2 _ (by omega),key b3 _ (by omega),key b4 _ (by omega),key b5 _ (by omega),key b6 _ (by omega),key b7 _ (by omega)]
theorem hexF_inj {a b:List UInt8}(ha:a.length=8)(hb:b.length=8)(h:hexF a=hexF b):a=b:=by
 rw [← out8_hex a ha,← out8_hex b hb,h]
theorem hex_not10 (l:List UInt8):∀ x∈hexF l,x≠10:=by
 intro x hx e
 subst e
 have:=hexF_hex l 10 hx
 unfold isHex at this
 revert this
 decide
theorem dec_not10 (n:Nat):∀ x∈dec n,x≠10:=dec_not n 10 (by unfold isDig;decide)
def tilesL:List UInt8:=[116,105,108,101,115,10]
def linesF (n:Nat)(root:List UInt8):List UInt8:=tilesL++dec n++[10]++hexF root++[10]
def lastF (n:Nat)(root key:List UInt8):List UInt8:=hexF (hash (key++[0]++linesF n root))
def signF (n:Nat)(root key:List UInt8):List UInt8:=linesF n root++lastF n root key++[10]
theorem signF_eq (n:Nat)(root key:List UInt8):signF n root key=tilesL++(dec n++(10::(hexF root++(10::(lastF n root key++[10]))))):=by
 unfold signF linesF
 simp
def IsSign (t key:List UInt8)(n:Nat)(root:List UInt8):Prop:=n≤9223372036854775807∧root.length=8∧t=signF n root key
theorem noDig10 (r:List UInt8):noDig (10::r):=by show ¬ isDig 10;unfold isDig;decide
theorem IsSign.inj {t key:List UInt8}{n m:Nat}{a b:List UInt8}(h:IsSign t key n a)(h':IsSign t key m b):n=m∧a=b:=by
 obtain⟨hn,ha,e⟩:=h
 obtain⟨hm,hb,e'⟩:=h'
 rw [e,signF_eq,signF_eq] at e'
 have e1:=List.append_cancel_left e'
 have e2:numR (dec n++(10::(hexF a++(10::(lastF n a key++[10])))))=numR (dec m++(10::(hexF b++(10::(lastF m b key++[10]))))):=by rw [e1]
 rw [numR_dec n hn _ (noDig10 _),numR_dec m hm _ (noDig10 _)] at e2
 simp only [Prod.mk.injEq,List.cons.injEq,true_and] at e2
 obtain⟨rfl,e3,-⟩:=e2
 refine⟨rfl,hexF_inj ha hb ?_⟩
 have:=congrArg (List.take 16) e3
 rw [List.take_append_of_le_length (by rw [hexF_len];omega),List.take_append_of_le_length (by rw [hexF_len];omega),List.take_of_length_le (by rw [hexF_len];omega),List.take_of_length_le (by rw [hexF_len];omega)] at this
 exact this
theorem index_at (a b:List UInt8)(c:UInt8)(h:∀ x∈a,x≠c):Lib.index (a++c::b) [c]=a.length:=by
 refine Lib.index_first (by simp) ?_ (fun j hj=>?_)
 ·unfold Lib.occAt
  rw [List.drop_left]
  simp
 ·cases ho:Lib.occAt (a++c::b) [c] j with
  | false=>rfl
  | true =>
   have:=Lib.occAt_head rfl ho
   rw [List.getElem?_append_left hj,List.getElem?_eq_getElem hj] at this
   exact absurd (Option.some.inj this) (h _ (List.getElem_mem hj))
theorem splitK_at (k:Nat)(a b:List UInt8)(c:UInt8)(h:∀ x∈a,x≠c):Lib.splitK [c] 0 (k+1) (a++c::b)=a::Lib.splitK [c] 0 k b:=by
 rw [Lib.splitK,index_at a b c h,if_neg (by rw [beq_iff_eq];omega),Int.toNat_natCast,Nat.add_zero,List.take_left]
 congr 2
 rw [show a.length+[c].length=(a++[c]).length by simp,show a++c::b=(a++[c])++b by simp,List.drop_left]
theorem split_sign (n:Nat)(root key:List UInt8):Lib.splitK [10] 0 3 (signF n root key)=[[116,105,108,101,115],dec n,hexF root,lastF n root key++[10]]:=by
 rw [signF_eq,show tilesL=[116,105,108,101,115]++[10] from rfl,List.append_assoc,show [10]++(dec n++(10::(hexF root++(10::(lastF n root key++[10])))))=(10:UInt8)::(dec n++(10::(hexF root++(10::(lastF n root key++[10]))))) from rfl]
 rw [splitK_at 2 _ _ 10 (by decide),splitK_at 1 _ _ 10 (dec_not10 n),splitK_at 0 _ _ 10 (hex_not10 root)]
 rfl
theorem signF_len (n:Nat)(root key:List UInt8):3≤(signF n root key).length:=by
 rw [signF_eq]
 simp [tilesL]
end
section
abbrev Lk:=List UInt8→Option (List UInt8)
def wdF (lk:Lk)(i hv:Nat):Option Nat:=[4,3,2,1].find? fun w=>decide (hv < w)&&(lk (nameF (-1) i (w:Nat))).isSome
def Among (lk:Lk)(s:List Nat):Prop:=∀ j w:Nat,1≤w→w≤4→(lk (nameF (-1) j w)).isSome→j∈s
end
end Go.Proofs.YtinhekmmdlhfkaaGreatDoor
