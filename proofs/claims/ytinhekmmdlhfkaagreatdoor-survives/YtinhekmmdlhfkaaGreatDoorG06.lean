import Derived.Test.YtinhekmmdlhfkaaGreatDoorG01
import Derived.Lib.ItoaMem
import Derived.Lib.AtoiAllCases
import Derived.Lib.IndexLaws
import Derived.Lib.IndexMore
import Derived.Lib.Strings
import Derived.Test.YtinhekmmdlhfkaaGreatDoorG04
namespace Go.Proofs.YtinhekmmdlhfkaaGreatDoor
section
def dec (n:Nat):List UInt8:=Lib.decDigits n
def zb9 (c:UInt8):Prop:=48≤c.toNat∧c.toNat≤57
theorem zi1 {n:Nat}(h:n < 10):dec n=[UInt8.ofNat (48+n)]:=by unfold dec;rw [Lib.decDigits,dif_pos h]
theorem zgz {n:Nat}(h:¬ n < 10):dec n=dec (n / 10)++[UInt8.ofNat (48+n % 10)]:=by unfold dec;rw [Lib.decDigits,dif_neg h]
theorem zef (d:Nat)(h:d < 10):(UInt8.ofNat (48+d)).toNat=48+d:=by rw [UInt8.toNat_ofNat'];omega
theorem zim (n:Nat):∀ c∈dec n,zb9 c:=by
 induction n using Nat.strongRecOn with
 | _ n ih =>
  intro c hc
  by_cases h:n < 10
  ·rw [zi1 h] at hc
   obtain rfl:c=UInt8.ofNat (48+n):=by simpa using hc
   unfold zb9
   rw [zef n h];omega
  ·rw [zgz h] at hc
   rcases List.mem_append.1 hc with h' | h'
   ·exact ih (n / 10) (by omega) c h'
   ·obtain rfl:c=UInt8.ofNat (48+n % 10):=by simpa using h'
    unfold zb9
    rw [zef _ (by omega)];omega
theorem z2e (n:Nat):dec n≠[]:=by
 by_cases h:n < 10
 ·rw [zi1 h];simp
 ·rw [zgz h];simp
theorem zyj (n:Nat)(h:n≤9223372036854775807)(r:List UInt8):Lib.parseUint10 0 (dec n++r)=Lib.parseUint10 n r:=by
 induction n using Nat.strongRecOn generalizing r with
 | _ n ih =>
  by_cases h9:n < 10
  ·rw [zi1 h9,List.cons_append,List.nil_append,Lib.parseUint10,zef n h9,if_pos (by omega),if_neg (by omega),if_neg (by omega)]
   congr 1
   omega
  ·rw [zgz h9,List.append_assoc,ih (n / 10) (by omega) (by omega),List.cons_append,List.nil_append,Lib.parseUint10,zef _ (by omega),if_pos (by omega),if_neg (by omega),if_neg (by omega)]
   congr 1
   omega
theorem z2u (n:Nat)(h:n≤9223372036854775807):Lib.atoiAll (dec n)= .ok (n:Int):=by
 have hp:=zyj n h []
 rw [List.append_nil,Lib.parseUint10] at hp
 have hd:=zim n
 have hne:=z2e n
 cases hdec:dec n with
 | nil=>exact absurd hdec hne
 | cons c r =>
  rw [hdec] at hp hd
  obtain⟨c1,c2⟩:=hd c (by simp)
  have hm:Lib.parseMag (c::r)= .ok n:=by rw [Lib.parseMag,if_neg (by simp),hp]
  simp only [Lib.atoiAll]
  rw [if_neg (by omega),hm]
  simp only []
  rw [if_neg (by omega),if_neg (by omega),if_neg (by omega)]
def zeu (l:List UInt8):Int:=match Lib.atoiAll l with
 | .ok v=>v
 | _=>-1
theorem zgx (n:Nat)(h:n≤9223372036854775807):zeu (dec n)=(n:Int):=by unfold zeu;rw [z2u n h]
theorem zsl (l:List UInt8):-9223372036854775808≤zeu l∧zeu l≤9223372036854775807:=by
 unfold zeu
 cases h:Lib.atoiAll l
 ·exact Lib.atoiAll_bounds h
 ·simp
 ·simp
def zsb (n:Nat):List UInt8→Option (Nat×List UInt8)
 | []=>some (n,[])
 | c::r=>if 48≤c.toNat∧c.toNat≤57 then (if (9223372036854775807 - (c.toNat - 48)) / 10 < n then none else zsb (10*n+(c.toNat - 48)) r) else some (n,c::r)
theorem z30 (n:Nat)(h:n≤9223372036854775807)(r:List UInt8):zsb 0 (dec n++r)=zsb n r:=by
 induction n using Nat.strongRecOn generalizing r with
 | _ n ih =>
  by_cases h9:n < 10
  ·rw [zi1 h9,List.cons_append,List.nil_append,zsb,zef n h9,if_pos (by omega),if_neg (by omega)]
   congr 1
   omega
  ·rw [zgz h9,List.append_assoc,ih (n / 10) (by omega) (by omega),List.cons_append,List.nil_append,zsb,zef _ (by omega),if_pos (by omega),if_neg (by omega)]
   congr 1
   omega
def z6p (s:List UInt8):Nat×List UInt8×Bool:=match zsb 0 s with
 | none=>(0,s,false)
 | some (n,r)=>(n,r,decide (r.length < s.length))
def zs3:List UInt8→Prop
 | []=>True
 | c::_=>¬ zb9 c
theorem zx3 (n:Nat)(r:List UInt8)(h:zs3 r):zsb n r=some (n,r):=by
 cases r with
 | nil=>rfl
 | cons c r =>
  have h':¬(48≤c.toNat∧c.toNat≤57):=h
  rw [zsb,if_neg h']
theorem ztb (n:Nat)(h:n≤9223372036854775807)(r:List UInt8)(hr:zs3 r):z6p (dec n++r)=(n,r,true):=by
 unfold z6p
 rw [z30 n h,zx3 n r hr]
 have:0 < (dec n).length:=List.length_pos_iff.2 (z2e n)
 simp only [List.length_append]
 rw [show decide (r.length < (dec n).length+r.length)=true by simp;omega]
theorem z3v (a t b:List UInt8)(c:UInt8)(h:∀ x∈a,x≠c):Lib.cut (a++(c::t)++b) (c::t)=(a,b,true):=by
 have hi:Lib.index (a++(c::t)++b) (c::t)=a.length:=by
  refine Lib.index_first (by simp) ?_ (fun j hj=>?_)
  ·unfold Lib.occAt
   rw [List.append_assoc,List.drop_left]
   simp [List.isPrefixOf_iff_prefix]
  ·cases ho:Lib.occAt (a++(c::t)++b) (c::t) j with
   | false=>rfl
   | true =>
    have:=Lib.occAt_head rfl ho
    rw [List.append_assoc,List.getElem?_append_left hj,List.getElem?_eq_getElem hj] at this
    exact absurd (Option.some.inj this) (h _ (List.getElem_mem hj))
 unfold Lib.cut
 rw [hi,if_pos (by omega),Int.toNat_natCast]
 have e1:(a++(c::t)++b).take a.length=a:=by rw [List.append_assoc,List.take_left]
 have e2:(a++(c::t)++b).drop (a.length+(c::t).length)=b:=by
  rw [← List.length_append,List.drop_left]
 rw [e1,e2]
theorem z44 (a t:List UInt8)(c:UInt8)(h:∀ x∈a,x≠c):Lib.cut a (c::t)=(a,[],false):=by
 have hi:Lib.index a (c::t)=-1:=by
  refine Lib.index_none (fun j hj=>?_)
  cases ho:Lib.occAt a (c::t) j with
  | false=>rfl
  | true =>
   have:=Lib.occAt_head rfl ho
   obtain⟨hj',e⟩:=List.getElem?_eq_some_iff.1 this
   exact absurd e (h _ (List.getElem_mem hj'))
 unfold Lib.cut
 rw [hi,if_neg (by omega)]
theorem zp5 (p r:List UInt8):p.isPrefixOf (p++r)=true:=by rw [List.isPrefixOf_iff_prefix];exact List.prefix_append p r
def zld:List UInt8:=[101,110,116,114,105,101,115,47]
def zd4:List UInt8:=[116,105,108,101,47]
def zeq:List UInt8:=[46,112,47]
def jz (l i w:Int):Prop:=l < -1∨20 < l∨i < 0∨w < 1∨4 < w
def zjl (l:Int):List UInt8:=if l=-1 then zld else zd4++dec l.toNat++[47]
def zcp (w:Int):List UInt8:=if w < 4 then zeq++dec w.toNat else []
def yr (l i w:Int):List UInt8:=if l < -1∨20 < l∨i < 0∨w < 1∨4 < w then [] else zjl l++dec i.toNat++zcp w
theorem zzg {l i w:Int}(h:jz l i w):yr l i w=[]:=by unfold jz at h;unfold yr;rw [if_pos h]
theorem zdq {l i w:Int}(h:¬ jz l i w):yr l i w=zjl l++dec i.toNat++zcp w:=by unfold jz at h;unfold yr;rw [if_neg h]
def zao (p:List UInt8):Int×List UInt8×Bool :=
 if Lib.hasPrefix p zld then (-1,Lib.trimPrefix p zld,true)
 else (zeu (Lib.cut (Lib.trimPrefix p zd4) [47]).1,(Lib.cut (Lib.trimPrefix p zd4) [47]).2.1,Lib.hasPrefix p zd4)
def zun (c:List UInt8×List UInt8×Bool):Int:=if c.2.2 then zeu c.2.1 else 4
def z1i (p:List UInt8):Int×Int×Int×Bool :=
 if (zao p).2.2=true∧yr (zao p).1 (zeu (Lib.cut (zao p).2.1 zeq).1) (zun (Lib.cut (zao p).2.1 zeq))=p
 then ((zao p).1,zeu (Lib.cut (zao p).2.1 zeq).1,zun (Lib.cut (zao p).2.1 zeq),true) else (0,0,0,false)
theorem z8y (c x:UInt8)(h:zb9 x)(hc:¬ zb9 c):x≠c:=fun e=>hc (e▸h)
theorem zlg (n:Nat)(c:UInt8)(hc:¬ zb9 c):∀ x∈dec n,x≠c:=fun x hx=>z8y c x (zim n x hx) hc
theorem zhh:zjl (-1) =zld:=by unfold zjl;rw [if_pos rfl]
theorem zil (l:Int)(h:l≠-1):zjl l=zd4++dec l.toNat++[47]:=by unfold zjl;rw [if_neg h]
theorem zsx (w:Int):zs3 (zcp w):=by
 unfold zcp
 split
 ·show ¬ zb9 46
  unfold zb9;decide
 ·trivial
theorem zn0 (l:Int)(hl:-1≤l)(hl2:l≤20)(r:List UInt8):zao (zjl l++r)=(l,r,true):=by
 by_cases h:l=-1
 ·subst h
  rw [zhh]
  unfold zao Lib.trimPrefix Lib.hasPrefix
  rw [if_pos (zp5 zld r),if_pos (zp5 zld r),List.drop_left]
 ·rw [zil l h,List.append_assoc,List.append_assoc]
  have n1:Lib.hasPrefix (zd4++(dec l.toNat++([47]++r))) zld=false:=rfl
  have n2:Lib.hasPrefix (zd4++(dec l.toNat++([47]++r))) zd4=true:=zp5 _ _
  have n3:Lib.trimPrefix (zd4++(dec l.toNat++([47]++r))) zd4=dec l.toNat++[47]++r:=by
   unfold Lib.trimPrefix
   rw [if_pos n2,List.drop_left,List.append_assoc]
  unfold zao
  rw [n1,n2,n3,z3v (dec l.toNat) [] r 47 (zlg _ _ (by unfold zb9;decide)),zgx _ (by omega)]
  simp only [Bool.false_eq_true,if_false]
  rw [show((l.toNat:Nat):Int)=l by omega]
theorem z2a (i:Nat)(w:Int)(hi:i≤9223372036854775807)(hw:1≤w)(hw4:w≤4):zeu (Lib.cut (dec i++zcp w) zeq).1=i∧zun (Lib.cut (dec i++zcp w) zeq)=w:=by
 unfold zcp
 by_cases h:w < 4
 ·rw [if_pos h,← List.append_assoc,show zeq=46::[112,47] from rfl,z3v (dec i) [112,47] (dec w.toNat) 46 (zlg _ _ (by unfold zb9;decide))]
  refine⟨zgx i hi,?_⟩
  show(if true=true then zeu (dec w.toNat) else 4)=w
  rw [if_pos rfl,zgx _ (by omega)]
  omega
 ·rw [if_neg h,List.append_nil,show zeq=46::[112,47] from rfl,z44 (dec i) [112,47] 46 (zlg _ _ (by unfold zb9;decide))]
  refine⟨zgx i hi,?_⟩
  show(if false=true then zeu [] else 4)=w
  rw [if_neg (by simp)]
  omega
theorem zkz {l i w:Int}(h:¬ jz l i w)(hi:i≤9223372036854775807):z1i (yr l i w)=(l,i,w,true):=by
 have h':=h
 unfold jz at h'
 have e:yr l i w=zjl l++(dec i.toNat++zcp w):=by rw [zdq h,List.append_assoc]
 have c:=zn0 l (by omega) (by omega) (dec i.toNat++zcp w)
 obtain⟨c1,c2⟩:=z2a i.toNat w (by omega) (by omega) (by omega)
 unfold z1i
 rw [e,c]
 simp only []
 rw [c1,c2,show((i.toNat:Nat):Int)=i by omega,← e,if_pos (by simp)]
end
section
open Go.RowKit
def vg (z:List UInt8):Nat→List UInt8→Nat→Nat→List (List UInt8)→List UInt8×Bool
 | 0,_,_,_,_=>(z,false)
 | f+1,leaf,i,n,ps =>
  if n=1 then (leaf,decide (ps.length=0))
  else if ps.length=0 then (z,false)
  else if i < kOf n then (xa (vg z f leaf i (kOf n) ps.dropLast).1 (ps.getLastD []),(vg z f leaf i (kOf n) ps.dropLast).2)
  else (xa (ps.getLastD []) (vg z f leaf (i - kOf n) (n - kOf n) ps.dropLast).1,(vg z f leaf (i - kOf n) (n - kOf n) ps.dropLast).2)
theorem zme (z leaf:List UInt8)(f i:Nat)(ps:List (List UInt8)):vg z (f+1) leaf i 1 ps=(leaf,decide (ps.length=0)):=by
 rw [vg,if_pos rfl]
theorem zpj (z leaf:List UInt8)(f i n:Nat)(ps:List (List UInt8))(h:n≠1)(h0:ps.length=0):vg z (f+1) leaf i n ps=(z,false):=by
 rw [vg,if_neg h,if_pos h0]
theorem zj9 (z leaf:List UInt8)(f i n:Nat)(ps:List (List UInt8))(h:n≠1)(h0:ps.length≠0)(hi:i < kOf n):vg z (f+1) leaf i n ps=(xa (vg z f leaf i (kOf n) ps.dropLast).1 (ps.getLastD []),(vg z f leaf i (kOf n) ps.dropLast).2):=by
 rw [vg,if_neg h,if_neg h0,if_pos hi]
theorem zin (z leaf:List UInt8)(f i n:Nat)(ps:List (List UInt8))(h:n≠1)(h0:ps.length≠0)(hi:¬ i < kOf n):vg z (f+1) leaf i n ps=(xa (ps.getLastD []) (vg z f leaf (i - kOf n) (n - kOf n) ps.dropLast).1,(vg z f leaf (i - kOf n) (n - kOf n) ps.dropLast).2):=by
 rw [vg,if_neg h,if_neg h0,if_neg hi]
theorem zkh (z leaf:List UInt8)(hz:z.length=8)(hl:leaf.length=8)(f i n:Nat)(ps:List (List UInt8)):(vg z f leaf i n ps).1.length=8:=by
 cases f with
 | zero=>exact hz
 | succ f =>
  by_cases h1:n=1
  ·subst h1;rw [zme];exact hl
  by_cases h0:ps.length=0
  ·rw [zpj _ _ _ _ _ _ h1 h0];exact hz
  by_cases hi:i < kOf n
  ·rw [zj9 _ _ _ _ _ _ h1 h0 hi];exact qf _ _
  ·rw [zin _ _ _ _ _ _ h1 h0 hi];exact qf _ _
theorem zax {α:Type}(l:List α)(m:Nat)(h:l.length=m+1)(d:α):l.getLastD d=l[m]∧l.dropLast=l.take m:=by
 refine⟨?_,?_⟩
 ·rw [List.getLastD_eq_getLast?,List.getLast?_eq_getElem?,show l.length - 1=m by omega,List.getElem?_eq_getElem (by omega)];rfl
 ·rw [List.dropLast_eq_take,h,Nat.add_sub_cancel]
end
section
open Go.RowKit
def qv (z a:List UInt8):Nat→Nat→Nat→List (List UInt8)→Bool→List UInt8×List UInt8×Bool
 | 0,_,_,_,_=>(z,z,false)
 | f+1,m,n,ps,whole =>
  if m=n then (if whole=true then (a,a,decide (ps.length=0)) else if ps.length=1 then (ps.headD [],ps.headD [],true) else (z,z,false))
  else if ps.length=0 then (z,z,false)
  else if m≤kOf n then ((qv z a f m (kOf n) ps.dropLast whole).1,xa (qv z a f m (kOf n) ps.dropLast whole).2.1 (ps.getLastD []),(qv z a f m (kOf n) ps.dropLast whole).2.2)
  else (xa (ps.getLastD []) (qv z a f (m - kOf n) (n - kOf n) ps.dropLast false).1,xa (ps.getLastD []) (qv z a f (m - kOf n) (n - kOf n) ps.dropLast false).2.1,(qv z a f (m - kOf n) (n - kOf n) ps.dropLast false).2.2)
variable (z a : List UInt8) (f m n : Nat) (ps : List (List UInt8)) (whole : Bool)
theorem zij:qv z a (f+1) n n ps true=(a,a,decide (ps.length=0)):=by
 rw [qv,if_pos rfl,if_pos rfl]
theorem zka (h:ps.length=1):qv z a (f+1) n n ps false=(ps.headD [],ps.headD [],true):=by
 rw [qv,if_pos rfl,if_neg (by simp),if_pos h]
theorem zsp (h:ps.length≠1):qv z a (f+1) n n ps false=(z,z,false):=by
 rw [qv,if_pos rfl,if_neg (by simp),if_neg h]
theorem zoy (hm:m≠n)(h:ps.length=0):qv z a (f+1) m n ps whole=(z,z,false):=by
 rw [qv,if_neg hm,if_pos h]
theorem zke (hm:m≠n)(h:ps.length≠0)(hk:m≤kOf n):qv z a (f+1) m n ps whole=((qv z a f m (kOf n) ps.dropLast whole).1,xa (qv z a f m (kOf n) ps.dropLast whole).2.1 (ps.getLastD []),(qv z a f m (kOf n) ps.dropLast whole).2.2):=by
 rw [qv,if_neg hm,if_neg h,if_pos hk]
theorem zh4 (hm:m≠n)(h:ps.length≠0)(hk:¬ m≤kOf n):qv z a (f+1) m n ps whole=(xa (ps.getLastD []) (qv z a f (m - kOf n) (n - kOf n) ps.dropLast false).1,xa (ps.getLastD []) (qv z a f (m - kOf n) (n - kOf n) ps.dropLast false).2.1,(qv z a f (m - kOf n) (n - kOf n) ps.dropLast false).2.2):=by
 rw [qv,if_neg hm,if_neg h,if_neg hk]
theorem zr7 (ps:List (List UInt8))(h:ps.length=1)(p8:∀ p∈ps,p.length=8):(ps.headD []).length=8:=by
 match ps,h with
 | [p],_=>exact p8 p (by simp)
theorem zg7 (z a:List UInt8)(hz:z.length=8)(ha:a.length=8)(f:Nat):∀(m n:Nat) (ps:List (List UInt8)) (whole:Bool),(∀ p∈ps,p.length=8)→(qv z a f m n ps whole).1.length=8∧(qv z a f m n ps whole).2.1.length=8:=by
 induction f with
 | zero=>exact fun m n ps whole _=>⟨hz,hz⟩
 | succ f ih =>
  intro m n ps whole p8
  have p8':∀ p∈ps.dropLast,p.length=8:=fun p hp=>p8 p (List.dropLast_subset _ hp)
  by_cases h1:m=n
  ·subst h1
   cases whole with
   | true=>rw [zij];exact⟨ha,ha⟩
   | false =>
    by_cases h:ps.length=1
    ·rw [zka _ _ _ _ _ h];exact⟨zr7 ps h p8,zr7 ps h p8⟩
    ·rw [zsp _ _ _ _ _ h];exact⟨hz,hz⟩
  by_cases h0:ps.length=0
  ·rw [zoy _ _ _ _ _ _ _ h1 h0];exact⟨hz,hz⟩
  by_cases hk:m≤kOf n
  ·rw [zke _ _ _ _ _ _ _ h1 h0 hk];exact⟨(ih m (kOf n) ps.dropLast whole p8').1,qf _ _⟩
  ·rw [zh4 _ _ _ _ _ _ _ h1 h0 hk];exact⟨qf _ _,qf _ _⟩
end
section
open Go.RowKit
def zdm:Nat→List (List UInt8) →Nat→List (List UInt8)
 | 0,_,_=>[]
 | f+1,ls,i =>
  if ls.length≤1 then []
  else if i < kOf ls.length then zdm f (ls.take (kOf ls.length)) i++[qb f (ls.drop (kOf ls.length))]
  else zdm f (ls.drop (kOf ls.length)) (i - kOf ls.length)++[qb f (ls.take (kOf ls.length))]
theorem zhk (f:Nat)(ls:List (List UInt8))(i:Nat)(h:ls.length≤1):zdm f ls i=[]:=by
 cases f with
 | zero=>rfl
 | succ f=>rw [zdm,if_pos h]
theorem zic (f:Nat)(ls:List (List UInt8))(i:Nat)(h:2≤ls.length)(hi:i < kOf ls.length):zdm (f+1) ls i=zdm f (ls.take (kOf ls.length)) i++[qb f (ls.drop (kOf ls.length))]:=by
 rw [zdm,if_neg (by omega),if_pos hi]
theorem zgt (f:Nat)(ls:List (List UInt8))(i:Nat)(h:2≤ls.length)(hi:¬ i < kOf ls.length):zdm (f+1) ls i=zdm f (ls.drop (kOf ls.length)) (i - kOf ls.length)++[qb f (ls.take (kOf ls.length))]:=by
 rw [zdm,if_neg (by omega),if_neg hi]
def zgu:Nat→Nat→List (List UInt8) →Bool→List (List UInt8)
 | 0,_,_,_=>[]
 | f+1,m,ls,whole =>
  if m=ls.length then (if whole=true then [] else [qb (f+1) ls])
  else if m≤kOf ls.length then zgu f m (ls.take (kOf ls.length)) whole++[qb f (ls.drop (kOf ls.length))]
  else zgu f (m - kOf ls.length) (ls.drop (kOf ls.length)) false++[qb f (ls.take (kOf ls.length))]
theorem zff (f:Nat)(ls:List (List UInt8)):zgu (f+1) ls.length ls true=[]:=by
 rw [zgu,if_pos rfl,if_pos rfl]
theorem zjk (f:Nat)(ls:List (List UInt8)):zgu (f+1) ls.length ls false=[qb (f+1) ls]:=by
 rw [zgu,if_pos rfl,if_neg (by simp)]
theorem zki (f m:Nat)(ls:List (List UInt8))(whole:Bool)(h:m≠ls.length)(hk:m≤kOf ls.length):zgu (f+1) m ls whole=zgu f m (ls.take (kOf ls.length)) whole++[qb f (ls.drop (kOf ls.length))]:=by
 rw [zgu,if_neg h,if_pos hk]
theorem zii (f m:Nat)(ls:List (List UInt8))(whole:Bool)(h:m≠ls.length)(hk:¬ m≤kOf ls.length):zgu (f+1) m ls whole=zgu f (m - kOf ls.length) (ls.drop (kOf ls.length)) false++[qb f (ls.take (kOf ls.length))]:=by
 rw [zgu,if_neg h,if_neg hk]
end
section
def yb (l:List (List UInt8)):List UInt8:=qb l.length l
theorem zp4 (l:List (List UInt8)):(yb l).length=8:=jn _ _
theorem vu:∀(f g:Nat) (l:List (List UInt8)),l.length≤f→l.length≤g→qb f l=qb g l:=by
 intro f
 induction f with
 | zero =>
  intro g l hf _
  rw [zal 0 l (by omega),zal g l (by omega)]
 | succ f ih =>
  intro g l hf hg
  by_cases h0:l.length=0
  ·rw [zal _ l h0,zal _ l h0]
  ·obtain⟨g,rfl⟩:∃ g',g=g'+1:=⟨g - 1,by omega⟩
   by_cases h1:l.length=1
   ·rw [zdi f l h1,zdi g l h1]
   ·obtain⟨k1,k2,k3⟩:=jy l.length (by omega)
    rw [j9 f l (by omega),j9 g l (by omega),ih g (l.take (kOf l.length)) (by simp;omega) (by simp;omega),ih g (l.drop (kOf l.length)) (by simp;omega) (by simp;omega)]
theorem zk1 (l:List (List UInt8))(h:2≤l.length):yb l=xa (yb (l.take (kOf l.length))) (yb (l.drop (kOf l.length))):=by
 obtain⟨k1,k2,k3⟩:=jy l.length h
 unfold yb
 obtain⟨f,hf⟩:∃ f,l.length=f+1:=⟨l.length - 1,by omega⟩
 rw [hf,j9 f l h,← hf]
 rw [vu f (l.take (kOf l.length)).length (l.take (kOf l.length)) (by simp;omega) (Nat.le_refl _),vu f (l.drop (kOf l.length)).length (l.drop (kOf l.length)) (by simp;omega) (Nat.le_refl _)]
theorem zp7 (p:Nat):kOf (2 ^ (p+1))=2 ^ p:=by
 obtain⟨h1,h2,h3⟩:=jy (2 ^ (p+1)) (by rw [Nat.pow_succ];have:0 < 2 ^ p:=Nat.pow_pos (by omega);omega)
 unfold kOf at *
 generalize (2 ^ (p+1) - 1).log2=q at *
 have a:q < p+1:=(Nat.pow_lt_pow_iff_right (by omega:1 < 2)).1 h1
 have b:p+1≤q+1:=(Nat.pow_le_pow_iff_right (by omega:1 < 2)).1 (by rw [Nat.pow_succ 2 q];omega)
 congr 1
 omega
theorem zz6 (e:List UInt8):yb [e]=qu e:=rfl
def run (es:List (List UInt8))(s:Nat×Nat):List (List UInt8):=(es.drop s.1).take s.2
theorem zcl (es:List (List UInt8))(a n:Nat)(h:a+n≤es.length):(run es (a,n)).length=n:=by simp [run];omega
theorem zex (es:List (List UInt8))(a n k:Nat)(h:k≤n):(run es (a,n)).take k=run es (a,k):=by
 simp only [run,List.take_take];congr 1;omega
theorem zey (es:List (List UInt8))(a n k:Nat):(run es (a,n)).drop k=run es (a+k,n - k):=by
 simp only [run,List.drop_take,List.drop_drop]
def xp:Nat→Nat→Nat→Nat→List (Nat×Nat)
 | 0,_,_,_=>[]
 | f+1,a,n,i =>
  if n≤1 then []
  else if i < a+kOf n then xp f a (kOf n) i++[(a+kOf n,n - kOf n)]
  else xp f (a+kOf n) (n - kOf n) i++[(a,kOf n)]
def xr:Nat→Nat→Nat→Nat→Bool→List (Nat×Nat)
 | 0,m,a,n,whole=>if m=a+n then (if whole=true then [] else [(a,n)]) else []
 | f+1,m,a,n,whole =>
  if m=a+n then (if whole=true then [] else [(a,n)])
  else if m≤a+kOf n then xr f m a (kOf n) whole++[(a+kOf n,n - kOf n)]
  else xr f m (a+kOf n) (n - kOf n) false++[(a,kOf n)]
theorem ze0 (f a n i:Nat)(h:n≤1):xp f a n i=[]:=by
 cases f with
 | zero=>rfl
 | succ f=>rw [xp,if_pos h]
theorem zdx (f a n i:Nat)(h:2≤n)(hi:i < a+kOf n):xp (f+1) a n i=xp f a (kOf n) i++[(a+kOf n,n - kOf n)]:=by
 rw [xp,if_neg (by omega),if_pos hi]
theorem zcs (f a n i:Nat)(h:2≤n)(hi:¬ i < a+kOf n):xp (f+1) a n i=xp f (a+kOf n) (n - kOf n) i++[(a,kOf n)]:=by
 rw [xp,if_neg (by omega),if_neg hi]
theorem zam (f m a n:Nat)(whole:Bool)(h:m=a+n):xr f m a n whole=if whole=true then [] else [(a,n)]:=by
 cases f with
 | zero=>rw [xr,if_pos h]
 | succ f=>rw [xr,if_pos h]
theorem zbl (f m a n:Nat)(whole:Bool)(h:m≠a+n)(hk:m≤a+kOf n):xr (f+1) m a n whole=xr f m a (kOf n) whole++[(a+kOf n,n - kOf n)]:=by
 rw [xr,if_neg h,if_pos hk]
theorem zbx (f m a n:Nat)(whole:Bool)(h:m≠a+n)(hk:¬ m≤a+kOf n):xr (f+1) m a n whole=xr f m (a+kOf n) (n - kOf n) false++[(a,kOf n)]:=by
 rw [xr,if_neg h,if_neg hk]
theorem za3 (f:Nat):∀ a n i,(xp f a n i).length≤f:=by
 induction f with
 | zero=>intro a n i;simp [xp]
 | succ f ih =>
  intro a n i
  by_cases h:n≤1
  ·rw [ze0 _ _ _ _ h];simp
  by_cases hi:i < a+kOf n
  ·rw [zdx f a n i (by omega) hi];have:=ih a (kOf n) i;simp;omega
  ·rw [zcs f a n i (by omega) hi];have:=ih (a+kOf n) (n - kOf n) i;simp;omega
theorem za2 (f:Nat):∀ m a n whole,(xr f m a n whole).length≤f+1:=by
 induction f with
 | zero =>
  intro m a n whole
  by_cases h:m=a+n
  ·rw [zam _ _ _ _ _ h];split<;>simp
  ·rw [xr,if_neg h];simp
 | succ f ih =>
  intro m a n whole
  by_cases h:m=a+n
  ·rw [zam _ _ _ _ _ h];split<;>simp
  by_cases hk:m≤a+kOf n
  ·rw [zbl f m a n whole h hk];have:=ih m a (kOf n) whole;simp;omega
  ·rw [zbx f m a n whole h hk];have:=ih m (a+kOf n) (n - kOf n) false;simp;omega
theorem jl (n f:Nat)(h2:2≤n)(h:n≤2 ^ (f+1)):kOf n≤2 ^ f∧n - kOf n≤2 ^ f∧1≤kOf n∧1≤n - kOf n∧kOf n < n∧n≤2*kOf n:=by
 obtain⟨k1,k2,k3⟩:=jy n h2
 have hk:kOf n≤2 ^ f:=by
  unfold kOf at *
  refine Nat.pow_le_pow_right (by omega) ?_
  have:(n - 1).log2 < f+1:=(Nat.pow_lt_pow_iff_right (by omega:1 < 2)).1 (Nat.lt_of_lt_of_le k1 h)
  omega
 omega
theorem zr8 (es:List (List UInt8)):∀(f g a n i:Nat),n≤2 ^ f→n≤g→a+n≤es.length→a≤i→i < a+n→zdm g (run es (a,n)) (i - a)=(xp f a n i).map (fun s=>yb (run es s)):=by
 intro f
 induction f with
 | zero =>
  intro g a n i h hg hl h1 h2
  have hn:=zcl es a n hl
  have hn1:n≤1:=by simpa using h
  rw [zhk _ _ _ (by omega)];rfl
 | succ f ih =>
  intro g a n i h hg hl h1 h2
  have hn:=zcl es a n hl
  by_cases hn1:n≤1
  ·rw [zhk _ _ _ (by omega),ze0 _ _ _ _ hn1];rfl
  obtain⟨g,rfl⟩:∃ g',g=g'+1:=⟨g - 1,by omega⟩
  obtain⟨a1,a2,a3,a4,a5,a6⟩:=jl n f (by omega) h
  have e1:=zcl es a (kOf n) (by omega)
  have e2:=zcl es (a+kOf n) (n - kOf n) (by omega)
  by_cases hi:i < a+kOf n
  ·rw [zdx f a n i (by omega) hi,zic g _ _ (by omega) (by rw [hn];omega),hn,zex es a n _ (by omega),zey,ih g a (kOf n) i a1 (by omega) (by omega) h1 hi,List.map_append]
   congr 2
   exact vu _ _ _ (by omega) (Nat.le_refl _)
  ·rw [zcs f a n i (by omega) hi,zgt g _ _ (by omega) (by rw [hn];omega),hn,zex es a n _ (by omega),zey,show i - a - kOf n=i - (a+kOf n) by omega,ih g (a+kOf n) (n - kOf n) i a2 (by omega) (by omega) (by omega) (by omega),List.map_append]
   congr 2
   exact vu _ _ _ (by omega) (Nat.le_refl _)
theorem ztd (es:List (List UInt8)):∀(f g m a n:Nat) (whole:Bool),n≤2 ^ f→n≤g→a+n≤es.length→a < m→m≤a+n→zgu g (m - a) (run es (a,n)) whole=(xr f m a n whole).map (fun s=>yb (run es s)):=by
 intro f
 induction f with
 | zero =>
  intro g m a n whole h hg hl h1 h2
  have hn:=zcl es a n hl
  have hn1:n≤1:=by simpa using h
  obtain⟨g,rfl⟩:∃ g',g=g'+1:=⟨g - 1,by omega⟩
  rw [zam 0 m a n whole (by omega),show m - a=(run es (a,n)).length by omega]
  cases whole with
  | true=>rw [zff];rfl
  | false=>rw [zjk];simp [yb];exact vu _ _ _ (by omega) (Nat.le_refl _)
 | succ f ih =>
  intro g m a n whole h hg hl h1 h2
  have hn:=zcl es a n hl
  obtain⟨g,rfl⟩:∃ g',g=g'+1:=⟨g - 1,by omega⟩
  by_cases hm:m=a+n
  ·rw [zam _ m a n whole hm,show m - a=(run es (a,n)).length by omega]
   cases whole with
   | true=>rw [zff];rfl
   | false=>rw [zjk];simp [yb];exact vu _ _ _ (by omega) (Nat.le_refl _)
  obtain⟨a1,a2,a3,a4,a5,a6⟩:=jl n f (by omega) h
  have e1:=zcl es a (kOf n) (by omega)
  have e2:=zcl es (a+kOf n) (n - kOf n) (by omega)
  by_cases hk:m≤a+kOf n
  ·rw [zbl f m a n whole hm hk,zki g _ _ _ (by omega) (by rw [hn];omega),hn,zex es a n _ (by omega),zey,ih g m a (kOf n) whole a1 (by omega) (by omega) h1 hk,List.map_append]
   congr 2
   exact vu _ _ _ (by omega) (Nat.le_refl _)
  ·rw [zbx f m a n whole hm hk,zii g _ _ _ (by omega) (by rw [hn];omega),hn,zex es a n _ (by omega),zey,show m - a - kOf n=m - (a+kOf n) by omega,ih g m (a+kOf n) (n - kOf n) false a2 (by omega) (by omega) (by omega) (by omega),List.map_append]
   congr 2
   exact vu _ _ _ (by omega) (Nat.le_refl _)
end
section
theorem zhr {l i w l' i' w':Int}(h:¬ jz l i w)(h':¬ jz l' i' w')(hi:i≤9223372036854775807)(hi':i'≤9223372036854775807)(e:yr l i w=yr l' i' w'):l=l'∧i=i'∧w=w':=by
 have a:=zkz h hi
 have b:=zkz h' hi'
 rw [e,b] at a
 simp only [Prod.mk.injEq,and_true] at a
 exact⟨a.1.symm,a.2.1.symm,a.2.2.symm⟩
theorem zgc {l i w:Int}:yr l i w≠cpF:=by
 unfold yr
 split
 ·simp [cpF]
 ·unfold zjl cpF zld zd4
  split<;>simp
def zz (l:Int)(n:Nat):Nat:=n / 4 ^ l.toNat
def ql (es:List (List UInt8))(l:Int)(k:Nat):List UInt8 :=
 if l=-1 then zsa (es.getD k []) else yb ((es.drop (k*4 ^ l.toNat)).take (4 ^ l.toNat))
def wid (c j:Nat):Nat:=min 4 (c - 4*j)
def zad (es:List (List UInt8))(l:Int)(j w:Nat):List UInt8:=((List.range' (4*j) w).map (ql es l)).flatten
def jx (es:List (List UInt8))(l:Int)(c j:Nat):List UInt8×List UInt8:=(yr l j (wid c j),zad es l j (wid c j))
def zk7 (es:List (List UInt8))(l:Int)(j0 c:Nat):Fs:=(List.range' j0 ((c+3) / 4 - j0)).map (jx es l c)
def z4i (es:List (List UInt8))(L:Nat):Fs:=zk7 es (-1) 0 es.length++(List.range L).flatMap fun(k:Nat)=>zk7 es (k:Int) 0 (es.length / 4 ^ k)
def xj (es:List (List UInt8)):Fs:=z4i es 21
def zcy (es:List (List UInt8))(put:Nat)(l:Int):Fs:=if zz l es.length=zz l put then [] else zk7 es l (zz l put / 4) (zz l es.length)
def zns (es:List (List UInt8))(put L:Nat):Fs:=zcy es put (-1)++(List.range L).flatMap fun(k:Nat)=>zcy es put (k:Int)
def yj (es:List (List UInt8))(put:Nat):Fs:=zns es put 21
theorem zi9 {es:List (List UInt8)}{l:Int}{j0 c:Nat}{f:List UInt8×List UInt8}:f∈zk7 es l j0 c↔∃ j,j0≤j∧4*j < c∧f=jx es l c j:=by
 unfold zk7
 rw [List.mem_map]
 constructor
 ·rintro⟨j,hj,rfl⟩
  rw [List.mem_range'_1] at hj
  exact⟨j,hj.1,by omega,rfl⟩
 ·rintro⟨j,h1,h2,rfl⟩
  exact⟨j,by rw [List.mem_range'_1];omega,rfl⟩
theorem zz7 {α:Type}(f:Nat→List α)(a b:Nat)(hab:a≤b)(h:∀ k,a≤k→f k=[]):(List.range b).flatMap f=(List.range a).flatMap f:=by
 induction b with
 | zero=>obtain rfl:a=0:=by omega
         rfl
 | succ b ih =>
  by_cases e:a=b+1
  ·rw [e]
  ·rw [List.range_succ,List.flatMap_append,ih (by omega)]
   simp [h b (by omega)]
def isL (l:Int):Prop:=-1≤l∧l≤20
theorem jh {es:List (List UInt8)}{f:List UInt8×List UInt8}:f∈xj es↔∃ l j,isL l∧4*j < zz l es.length∧f=jx es l (zz l es.length) j:=by
 unfold xj z4i
 rw [List.mem_append,zi9,List.mem_flatMap]
 constructor
 ·rintro(⟨j,-,h,rfl⟩ | ⟨k,hk,hf⟩)
  ·exact⟨-1,j,⟨by omega,by omega⟩,by simpa [zz] using h,by simp [zz]⟩
  ·rw [zi9] at hf
   obtain⟨j,-,h,rfl⟩:=hf
   rw [List.mem_range] at hk
   exact⟨k,j,⟨by omega,by omega⟩,by simpa [zz] using h,by simp [zz]⟩
 ·rintro⟨l,j,⟨h1,h2⟩,h,rfl⟩
  by_cases e:l=-1
  ·subst e
   exact .inl ⟨j,Nat.zero_le _,by simpa [zz] using h,by simp [zz]⟩
  ·obtain⟨k,rfl⟩:=Int.eq_ofNat_of_zero_le (show 0≤l by omega)
   exact .inr ⟨k,List.mem_range.2 (by omega),zi9.2 ⟨j,Nat.zero_le _,by simpa [zz] using h,by simp [zz]⟩⟩
theorem zs8 {es:List (List UInt8)}{put:Nat}{f:List UInt8×List UInt8}:f∈yj es put↔∃ l j,isL l∧zz l es.length≠zz l put∧zz l put / 4≤j∧4*j < zz l es.length∧f=jx es l (zz l es.length) j:=by
 have key:∀ l,f∈zcy es put l↔∃ j,zz l es.length≠zz l put∧zz l put / 4≤j∧4*j < zz l es.length∧f=jx es l (zz l es.length) j:=by
  intro l
  unfold zcy
  split
  ·rename_i e;simp [e]
  ·rename_i e
   rw [zi9]
   simp [e]
 unfold yj zns
 rw [List.mem_append,key,List.mem_flatMap]
 constructor
 ·rintro(⟨j,h⟩ | ⟨k,hk,hf⟩)
  ·exact⟨-1,j,⟨by omega,by omega⟩,h⟩
  ·rw [key] at hf
   obtain⟨j,h⟩:=hf
   rw [List.mem_range] at hk
   exact⟨k,j,⟨by omega,by omega⟩,h⟩
 ·rintro⟨l,j,⟨h1,h2⟩,h⟩
  by_cases e:l=-1
  ·subst e;exact .inl ⟨j,h⟩
  ·obtain⟨k,rfl⟩:=Int.eq_ofNat_of_zero_le (show 0≤l by omega)
   exact .inr ⟨k,List.mem_range.2 (by omega),(key _).2 ⟨j,h⟩⟩
theorem zg8 {es:List (List UInt8)}{put:Nat}:∀ f∈yj es put,f∈xj es:=by
 intro f hf
 obtain⟨l,j,h1,-,-,h2,h3⟩:=zs8.1 hf
 exact jh.2 ⟨l,j,h1,h2,h3⟩
theorem zmd {α:Type}(es:List α)(p a b:Nat)(h:a+b≤p):((es.take p).drop a).take b=(es.drop a).take b:=by
 apply List.ext_getElem?
 intro i
 simp only [List.getElem?_take,List.getElem?_drop]
 split
 ·rw [if_pos (by omega)]
 ·rfl
theorem zvz (es:List (List UInt8))(l:Int)(p k:Nat)(h:k < zz l p):ql (es.take p) l k=ql es l k:=by
 unfold ql
 split
 ·rename_i e
  subst e
  have:k < p:=by simpa [zz] using h
  rw [List.getD_eq_getElem?_getD,List.getD_eq_getElem?_getD,List.getElem?_take,if_pos this]
 ·unfold zz at h
  have hpos:0 < 4 ^ l.toNat:=Nat.pow_pos (by omega)
  have h1:(k+1)*4 ^ l.toNat≤p:=(Nat.le_div_iff_mul_le hpos).1 h
  rw [zmd]
  rw [Nat.add_mul] at h1
  omega
theorem zlz (es:List (List UInt8))(l:Int)(p c c' j:Nat)(hw:wid c' j=wid c j)(h:4*j+wid c j≤zz l p):jx (es.take p) l c' j=jx es l c j:=by
 unfold jx
 rw [hw]
 refine Prod.ext rfl ?_
 show zad _ _ _ _=zad _ _ _ _
 unfold zad
 congr 1
 refine List.map_congr_left fun k hk=>?_
 rw [List.mem_range'_1] at hk
 exact zvz es l p k (by omega)
theorem zib {es:List (List UInt8)}{put:Nat}(hp:put≤es.length):∀ f∈xj es,f∈yj es put∨f∈xj (es.take put):=by
 intro f hf
 obtain⟨l,j,h1,h2,rfl⟩:=jh.1 hf
 have hlen:(es.take put).length=put:=by rw [List.length_take];omega
 have hle:zz l put≤zz l es.length:=Nat.div_le_div_right hp
 by_cases e:zz l es.length=zz l put
 ·refine .inr (jh.2 ⟨l,j,h1,by rw [hlen];omega,?_⟩)
  rw [hlen,zlz es l put (zz l es.length) (zz l put) j (by rw [e]) (by unfold wid;omega)]
 ·by_cases hj:zz l put / 4≤j
  ·exact .inl (zs8.2 ⟨l,j,h1,e,hj,h2,rfl⟩)
  ·refine .inr (jh.2 ⟨l,j,h1,by rw [hlen];omega,?_⟩)
   rw [hlen,zlz es l put (zz l es.length) (zz l put) j (by unfold wid;omega) (by unfold wid;omega)]
theorem zc2 (l:Int)(n:Nat):zz l n≤n:=Nat.div_le_self _ _
theorem zdg {l:Int}{j c:Nat}(h:isL l)(hj:4*j < c):¬ jz l j (wid c j):=by
 unfold jz wid isL at *
 omega
theorem zho {es:List (List UInt8)}(hn:es.length≤1000000):zvw (xj es):=by
 refine⟨fun q x y hx hy=>?_,fun x hx=>?_⟩
 ·obtain⟨l,j,h1,h2,e⟩:=jh.1 hx
  obtain⟨l',j',h1',h2',e'⟩:=jh.1 hy
  have b:=zc2 l es.length
  have b':=zc2 l' es.length
  unfold jx at e e'
  simp only [Prod.mk.injEq] at e e'
  obtain⟨rfl,hj,-⟩:=zhr (zdg h1 h2) (zdg h1' h2') (by omega) (by omega) (e.1.symm.trans e'.1)
  obtain rfl:j=j':=by omega
  rw [e.2,e'.2]
 ·obtain⟨l,j,h1,h2,e⟩:=jh.1 hx
  unfold jx at e
  simp only [Prod.mk.injEq] at e
  exact zgc e.1.symm
end
end Go.Proofs.YtinhekmmdlhfkaaGreatDoor
