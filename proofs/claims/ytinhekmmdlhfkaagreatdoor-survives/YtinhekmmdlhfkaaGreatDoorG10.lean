import Derived.Test.YtinhekmmdlhfkaaGreatDoorG07
import Derived.Lib.TrailingZeros
import Derived.Test.YtinhekmmdlhfkaaGreatDoorG01
import Derived.Maps.OwnSet
import Derived.DeepKeys4
import Derived.MapViews
import Derived.Test.YtinhekmmdlhfkaaGreatDoorG09
import Derived.Test.YtinhekmmdlhfkaaGreatDoorG04
namespace Go.Proofs.YtinhekmmdlhfkaaGreatDoor
section
def zwj (l:List UInt8):Nat:=l.foldl (fun a c=>a*10+(c.toNat - 48)) 0
theorem zyq (n:Nat):zwj (dec n)=n:=by
 induction n using Nat.strongRecOn with
 | ind n ih =>
  by_cases h:n < 10
  ·rw [zi1 h]
   unfold zwj
   simp only [List.foldl_cons,List.foldl_nil,zef n h]
   omega
  ·rw [zgz h]
   have:=ih (n / 10) (by omega)
   unfold zwj at this ⊢
   rw [List.foldl_append,this]
   simp only [List.foldl_cons,List.foldl_nil,zef (n % 10) (by omega)]
   omega
def zjt (c:UInt8):Bool:=decide (48≤c.toNat∧c.toNat≤57)
def ixN (p:List UInt8):Nat:=zwj ((p.drop 8).takeWhile zjt)
theorem znv (n:Nat)(r:List UInt8)(hr:zs3 r):(dec n++r).takeWhile zjt=dec n:=by
 rw [List.takeWhile_append_of_pos (fun a ha=>by have h:=zim n a ha;unfold zb9 at h;simpa [zjt] using h)]
 have:r.takeWhile zjt=[]:=by
  cases r with
  | nil=>rfl
  | cons c t =>
   have hc:zjt c=false:=by
    have:¬ zb9 c:=hr
    simpa [zjt,zb9] using this
   simp [List.takeWhile,hc]
 rw [this,List.append_nil]
theorem zq4 (j w:Nat)(h1:1≤w)(h4:w≤4):ixN (yr (-1) j w)=j:=by
 rw [zdq (by unfold jz;omega),zhh,List.append_assoc]
 unfold ixN
 rw [List.drop_left' (show zld.length=8 from rfl),znv _ _ (zsx _),zyq]
 simp
theorem z6k {es:List (List UInt8)}{j w:Nat}{x:List UInt8}(h1:1≤w)(h4:w≤4)(h:(yr (-1) j w,x)∈xj es):4*j < es.length:=by
 obtain⟨l,j',h1',h2,e⟩:=jh.1 h
 unfold jx at e
 simp only [Prod.mk.injEq] at e
 have g:=zdg h1' h2
 by_cases hl:l=-1
 ·subst hl
  have he:=congrArg ixN e.1
  rw [zq4 j w h1 h4,zq4 j' _ (by unfold wid;omega) (by unfold wid;omega)] at he
  subst he
  simpa [zz] using h2
 ·have he:=e.1
  rw [zdq (by unfold jz;omega),zdq g,zhh,zil l hl] at he
  simp [zld,zd4] at he
theorem zty {es:List (List UInt8)}{fs fs':Fs}{c:List UInt8}{s:List Nat}(hs:zht (zx fs) s)(h0:∀ j,4*j < es.length→j∈s)(w:zek (xj es) c fs fs'):zht (zx fs') s:=by
 intro j w1 h1 h4 h
 rcases w (yr (-1) j w1) with e | ⟨_,x,hx,_⟩ | ⟨e,_⟩
 ·rw [e] at h;exact hs j w1 h1 h4 h
 ·exact h0 j (z6k h1 h4 hx)
 ·exact absurd e zgc
theorem z1m (ls:List (List UInt8))(B:Nat)(h:∀ l∈ls,l.length≤B):ls.flatten.length≤ls.length*B:=by
 induction ls with
 | nil=>simp
 | cons a r ih =>
  have h1:=h a (by simp)
  have h2:=ih (fun l hl=>h l (by simp [hl]))
  rw [List.flatten_cons,List.length_append,List.length_cons,Nat.add_mul]
  omega
theorem zyt {es:List (List UInt8)}(h20:∀ e∈es,e.length≤20)(l:Int)(k:Nat):(ql es l k).length≤21:=by
 unfold ql
 split
 ·unfold zsa
  rw [List.getD_eq_getElem?_getD]
  cases e:es[k]? with
  | none=>simp
  | some x =>
   have:=h20 x (List.mem_of_getElem? e)
   simp
   omega
 ·unfold yb
  rw [jn]
  omega
theorem z23 {es:List (List UInt8)}(h20:∀ e∈es,e.length≤20){q x:List UInt8}(h:(q,x)∈xj es):x.length≤84:=by
 obtain⟨l,j,h1,h2,e⟩:=jh.1 h
 unfold jx at e
 simp only [Prod.mk.injEq] at e
 rw [e.2]
 unfold zad
 refine Nat.le_trans (z1m _ 21 fun y hy=>?_) ?_
 ·obtain⟨k,-,rfl⟩:=List.mem_map.1 hy
  exact zyt h20 l k
 ·rw [List.length_map,List.length_range']
  unfold wid
  omega
theorem z4e {es:List (List UInt8)}{fs fs':Fs}{c:List UInt8}{M:Nat}(h20:∀ e∈es,e.length≤20)(hl:∀ f∈fs,f.2.length≤M)(hc:c.length≤M)(hM:84≤M)(ha:zbq fs')(w:zek (xj es) c fs fs'):∀ f∈fs',f.2.length≤M:=by
 intro f hf
 have e:=zml (p:=f.1) (d:=f.2) ha hf
 rcases w f.1 with e' | ⟨_,x,hx,e'⟩ | ⟨_,e'⟩
 ·rw [e] at e'
  exact hl (f.1,f.2) (znp e'.symm)
 ·rw [e] at e'
  obtain hx':f.2=x:=by simpa using e'
  have:=z23 h20 hx
  rw [hx']
  omega
 ·rw [e] at e'
  obtain hx':f.2=c:=by simpa using e'
  rw [hx']
  exact hc
theorem z3e (d:Dk)(p x:List UInt8):(zab d p x).fs.length≤d.fs.length+1:=by
 have h:=zf9 d.fs p x
 have e:=congrArg List.length (yg d)
 unfold zab
 split<;>(try split)<;>(try split)<;>(try simp only)<;>omega
theorem zpo:∀(t:Fs) (d:Dk) ,(qa t d).2.fs.length≤d.fs.length+t.length
 | [],d=>by simp [qa]
 | f::r,d=>by
  have h:=z3e d f.1 f.2
  have h2:=zpo r (zab d f.1 f.2)
  unfold qa
  split
  ·simp only [List.length_cons];omega
  ·simp only [List.length_cons];omega
theorem zxs (d:Dk)(p x:List UInt8):(zbv d p x).fs.length≤d.fs.length+1:=by
 have h:=zf9 d.fs p x
 have e:=congrArg List.length (yg d)
 unfold zbv
 split
 ·simp only;omega
 ·omega
theorem z5b (t:Fs)(c:List UInt8)(d:Dk):(qt t c d).2.fs.length≤d.fs.length+t.length+1:=by
 have h:=zpo t d
 unfold qt
 generalize qa t d=r at *
 obtain⟨o,d1⟩:=r
 have h2:=zxs d1 cpF c
 simp only at h ⊢
 cases o with
 | some p=>simp only;omega
 | none =>
  simp only
  split<;>(simp only;omega)
theorem zth (f:Nat→Fs)(B L:Nat)(h:∀ k,(f k).length≤B):((List.range L).flatMap f).length≤L*B:=by
 induction L with
 | zero=>simp
 | succ L ih =>
  rw [List.range_succ,List.flatMap_append,List.length_append,Nat.add_mul]
  have:=h L
  simp only [List.flatMap_cons,List.flatMap_nil,List.append_nil]
  omega
theorem z3t (es:List (List UInt8))(l:Int)(j c:Nat):(zk7 es l j c).length≤(c+3) / 4:=by
 unfold zk7
 rw [List.length_map,List.length_range']
 omega
theorem zrf (es:List (List UInt8))(put:Nat)(l:Int):(zcy es put l).length≤(es.length+3) / 4:=by
 unfold zcy
 split
 ·simp
 ·have:=z3t es l (zz l put / 4) (zz l es.length)
  have:=zc2 l es.length
  omega
theorem zje (es:List (List UInt8))(put:Nat):(yj es put).length≤22*((es.length+3) / 4):=by
 unfold yj zns
 rw [List.length_append]
 have h1:=zrf es put (-1)
 have h2:=zth (fun(k:Nat)=>zcy es put (k:Int)) ((es.length+3) / 4) 21 (fun k=>zrf es put _)
 omega
theorem zga {f:List UInt8×List UInt8}:f∉xj []:=by
 intro h
 obtain⟨l,j,-,h,-⟩:=jh.1 h
 simp [zz] at h
end
section
theorem zwf (n:Nat):∀(ls:List (List UInt8)) (k:Nat) (h:k < ls.length),(∀ l∈ls,l.length=n)→(ls.flatten.drop (n*k)).take n=ls[k]
 | [],k,h,_=>by simp at h
 | a::r,0,_,hl=>by
  have ha:=hl a (by simp)
  rw [Nat.mul_zero,List.drop_zero,List.flatten_cons,List.take_append_of_le_length (by omega),List.take_of_length_le (by omega)]
  rfl
 | a::r,k+1,h,hl=>by
  have ha:=hl a (by simp)
  rw [List.flatten_cons,show n*(k+1)=a.length+n*k by rw [ha,Nat.mul_add,Nat.mul_one,Nat.add_comm],List.drop_append]
  simp only [List.getElem_cons_succ]
  rw [List.drop_of_length_le (show a.length≤a.length+n*k by omega),List.nil_append,Nat.add_sub_cancel_left]
  exact zwf n r k (by simpa using h) (fun l hl'=>hl l (by simp [hl']))
theorem zw7 (es:List (List UInt8))(L j:Nat):(ql es (L:Int) j).length=8:=by
 unfold ql
 rw [if_neg (by omega)]
 exact jn _ _
theorem zyh (es:List (List UInt8))(L j w:Nat)(h:j % 4 < w):((zad es (L:Int) (j / 4) w).drop (8*(j % 4))).take 8=ql es (L:Int) j:=by
 unfold zad
 rw [zwf 8 _ (j % 4) (by simpa using h) (fun l hl=>by
  obtain⟨k,-,rfl⟩:=List.mem_map.1 hl
  exact zw7 es L k)]
 rw [List.getElem_map,List.getElem_range']
 congr 1
 omega
theorem z0s (es:List (List UInt8))(L j w:Nat):(zad es (L:Int) j w).length=8*w:=by
 have key:∀ ls:List (List UInt8),(∀ l∈ls,l.length=8)→ls.flatten.length=8*ls.length:=by
  intro ls
  induction ls with
  | nil=>simp
  | cons a r ih =>
   intro h
   rw [List.flatten_cons,List.length_append,h a (by simp),ih (fun l hl=>h l (by simp [hl])),List.length_cons]
   omega
 unfold zad
 rw [key _ (fun l hl=>by
  obtain⟨k,-,rfl⟩:=List.mem_map.1 hl
  exact zw7 es L k)]
 simp
end
section
abbrev Pl:=Int×Int×Int
structure Pc where
 there:Bool
 fits:Bool
 hash:List UInt8
 entry:List UInt8
def xd:List UInt8:=[0,0,0,0,0,0,0,0]
def Pc.no:Pc:=⟨false,false,xd,[]⟩
abbrev Fl:=List Pc
def Fl.no:Fl:=[.no,.no,.no,.no]
abbrev Mm:=List (Pl×Fl)
def Mm.get (m:Mm)(k:Pl):Option Fl:=match m.find? (fun x=>decide (x.1=k)) with
 | some x=>some x.2
 | none=>none
def Mm.drop (m:Mm)(k:Pl):Mm:=m.filter fun x=>!decide (x.1=k)
def Mm.put (room:Int)(m:Mm)(k:Pl)(f:Fl):Mm:=if room < ((m.drop k++[(k,f)]).length:Int) then (m.drop k++[(k,f)]).tail else m.drop k++[(k,f)]
def Mm.set (m:Mm)(k:Pl)(f:Fl):Mm:=m.map fun x=>if x.1=k then (k,f) else x
def Mm.ok (m:Mm):Prop:=(m.map (·.1)).Nodup
def lvl (n:Nat):Nat:=Lib.ctz 64 n / 2
def zi (size:Nat)(l:Int)(j:Nat):Pl:=(l,((j / 4:Nat):Int),min ((zz l size:Int) - ((j / 4:Nat):Int)*4) 4)
def ze4 (w:Nat)(d:List UInt8):Fl:=(List.range 4).map fun k=>if k < w then ⟨true,false,(d.drop (8*k)).take 8,[]⟩ else .no
def zhw (es:List (List UInt8)):Fl:=(List.range 4).map fun k=>if k < es.length then ⟨true,false,qu (es.getD k []),es.getD k []⟩ else .no
def zbu (l w:Int)(d:List UInt8):Option Fl :=
 if l=-1 then (match zch d with
  | some es=>if (es.length:Int)=w then some (zhw es) else none
  | none=>none)
 else if (d.length:Int)=w*8 then some (ze4 w.toNat d) else none
def zft (w:Int)(f:Fl):Fl:=f.take w.toNat++List.replicate (4 - w.toNat) .no
def zb1 (f came:Fl):Fl:=List.zipWith (fun a b=>if a.fits then a else b) f came
def zip (f:Fl):Fl:=f.map fun p=>if p.fits then p else .no
def ziv (f:Fl):Option (List UInt8):=match f with
 | [a,b,c,d]=>if a.fits&&b.fits&&c.fits&&d.fits then some (xa (xa a.hash b.hash) (xa c.hash d.hash)) else none
 | _=>none
def zdw (p:Pl):List UInt8:=yr p.1 p.2.1 p.2.2
section
variable {σ : Type} (fe : σ → List UInt8 → (List UInt8 × Bool) × σ)
def yw (s:σ)(p:Pl):Option Fl×σ:=(if (fe s (zdw p)).1.2 then zbu p.1 p.2.2 (fe s (zdw p)).1.1 else none,(fe s (zdw p)).2)
def qy (s:σ)(p:Pl):Option Fl×σ:=match yw fe s p with
 | (some f,s1)=>(some f,s1)
 | (none,s1)=>if p.2.2=4 then (none,s1) else match yw fe s1 (p.1,p.2.1,4) with
  | (some f,s2)=>(some (zft p.2.2 f),s2)
  | (none,s2)=>(none,s2)
structure Ms (σ:Type) where
 net:σ
 needed:Mm
def yx (proved needed:Mm)(p:Pl):Fl:=match needed.get p with
 | some f=>f
 | none=>match proved.get p with
  | some f=>f
  | none=> .no
def qx (f:Fl)(k:Nat):Fl:=f.modify k fun p=>{ p with fits:=true }
def xu (proved:Mm)(size:Nat)(m:Ms σ)(l:Int)(j:Nat):Sum (List UInt8) Pc×Ms σ :=
 if ((yx proved m.needed (zi size l j)).getD (j % 4) .no).there then
  (.inr ((qx (yx proved m.needed (zi size l j)) (j % 4)).getD (j % 4) .no),
   { m with needed:=m.needed.drop (zi size l j)++[(zi size l j,qx (yx proved m.needed (zi size l j)) (j % 4))] })
 else match qy fe m.net (zi size l j) with
  | (none,s)=>(.inl (zdw (zi size l j)),{ m with net:=s })
  | (some came,s)=>(.inr ((qx (zb1 (yx proved m.needed (zi size l j)) came) (j % 4)).getD (j % 4) .no),
   { net:=s,needed:=m.needed.drop (zi size l j)++[(zi size l j,qx (zb1 (yx proved m.needed (zi size l j)) came) (j % 4))] })
def xf (proved:Mm)(size:Nat):Nat→Ms σ→Nat→Nat→Sum (List UInt8) (List UInt8)×Ms σ
 | 0,m,_,_=>(.inr xd,m)
 | f+1,m,a,n =>
  if n / 4 ^ lvl n=1 then (match xu fe proved size m (lvl n:Nat) (a / 4 ^ lvl n) with
   | (.inl e,m1)=>(.inl e,m1)
   | (.inr p,m1)=>(.inr p.hash,m1))
  else match xf proved size f m a (kOf n) with
   | (.inl e,m1)=>(.inl e,m1)
   | (.inr x,m1)=>match xf proved size f m1 (a+kOf n) (n - kOf n) with
    | (.inl e,m2)=>(.inl e,m2)
    | (.inr y,m2)=>(.inr (xa x y),m2)
def yh (proved:Mm)(size:Nat)(m:Ms σ):List (Nat×Nat)→Sum (List UInt8) (List (List UInt8))×Ms σ
 | []=>(.inr [],m)
 | s::r=>match xf fe proved size 64 m s.1 s.2 with
  | (.inl e,m1)=>(.inl e,m1)
  | (.inr x,m1)=>match yh proved size m1 r with
   | (.inl e,m2)=>(.inl e,m2)
   | (.inr xs,m2)=>(.inr (x::xs),m2)
end
def xo (size:Nat):Nat→Mm→Nat→Nat→List UInt8→Mm
 | 0,nd,_,_,_=>nd
 | f+1,nd,l,j,h=>match nd.get (zi size l j) with
  | none=>nd
  | some fl=>match ziv (fl.set (j % 4) ⟨true,true,h,[]⟩) with
   | some up=>xo size f (nd.set (zi size l j) (fl.set (j % 4) ⟨true,true,h,[]⟩)) (l+1) (j / 4) up
   | none=>nd.set (zi size l j) (fl.set (j % 4) ⟨true,true,h,[]⟩)
def zc6 (b l:Fl):Fl:=List.zipWith (fun p q=>if p.there&&q.fits&&decide (p.hash=q.hash) then { p with fits:=true } else p) b l
def jw (size:Nat)(nd:Mm)(i:Nat)(leaf:List UInt8):Mm :=
 match (xo size 64 nd 0 i leaf).get (zi size 0 i) with
 | none=>xo size 64 nd 0 i leaf
 | some ls=>match (xo size 64 nd 0 i leaf).get (zi size (-1) i) with
  | none=>xo size 64 nd 0 i leaf
  | some b=>(xo size 64 nd 0 i leaf).set (zi size (-1) i) (zc6 b ls)
def zaq (size:Nat)(nd:Mm)(old:Nat)(root:List UInt8):Mm :=
 match nd.get (zi size (lvl old:Nat) (old / 4 ^ lvl old - 1)) with
 | none=>nd
 | some fl =>
  if old / 4 ^ lvl old - 1=0 then xo size 64 nd (lvl old) 0 root
  else if old / 4 ^ lvl old - 1=1 then
   (if xa (fl.getD 0 .no).hash (fl.getD 1 .no).hash=root then xo size 64 (nd.set (zi size (lvl old:Nat) 1) (qx fl 0)) (lvl old) 1 (fl.getD 1 .no).hash else nd)
  else xo size 64 nd (lvl old) (old / 4 ^ lvl old - 1) (fl.getD ((old / 4 ^ lvl old - 1) % 4) .no).hash
def ym (room:Int)(proved nd:Mm):Mm:=nd.foldl (fun pr x=>pr.put room x.1 (zip x.2)) proved
end
section
open Go.RowKit Go.Maps Go.MapKept Go.ChangeMaps
set_option maxRecDepth 100000
def plV (p:Pl):Value:= .agg #[.int .i64 p.1,.int .i64 p.2.1,.int .i64 p.2.2]
def z34 (x:Int):Prop:=-9223372036854775808≤x∧x≤9223372036854775807
def zcb (p:Pl):Prop:=z34 p.1∧z34 p.2.1∧z34 p.2.2
def zt (b:Nat):Value:= .pointer (some ⟨b,0,none⟩)
theorem z7b:laidOutB Tryz.prog=true:=by kernel_rfl
theorem zsi:(126:TypeId) < Tryz.prog.types.size:=of_decide_eq_true (by kernel_rfl)
theorem zy9:Tryz.prog.keyType 126=true:=by kernel_rfl
theorem zxt:(match Tryz.prog.underlying 126 with | some (.array _ _) | some (.struct _)=>true | _=>false)=true:=by rw [Tryz.underlying126]
theorem zdt:Keyed Tryz.prog 126:=Keyed.of_law (deep_law_laid z7b (m:=2) (by omega) zsi (by kernel_rfl) zxt)
theorem zms:Tryz.prog.cellsOf 126=3:=by kernel_rfl
theorem z1a:Tryz.prog.cellsOf 3=1:=by kernel_rfl
theorem zrg (p:Pl):(plV p).formed Tryz.prog 126=true:=by simp [plV,Value.formed,Tryz.underlying126,zms]
theorem zg1 (d:Nat)(n:Int)(h:(Lit.int .i64 n).wf=true):Tryz.prog.keyLits (d+1) 3 [.int .i64 n]=some [.int .i64 n]:=by
 unfold Program.keyLits
 rw [Tryz.underlying3]
 simp [h]
theorem zyd (p:Pl)(h:zcb p):∃ l,keyOf Tryz.prog 126 (plV p)=some l:=by
 obtain⟨h1,h2,h3⟩:=h
 have w1:(Lit.int .i64 p.1).wf=true:=WalkArith.wf_i64 h1
 have w2:(Lit.int .i64 p.2.1).wf=true:=WalkArith.wf_i64 h2
 have w3:(Lit.int .i64 p.2.2).wf=true:=WalkArith.wf_i64 h3
 obtain⟨m,hm⟩:∃ m,Tryz.prog.types.size=m+1:=⟨_,(Nat.succ_pred_eq_of_pos (Nat.lt_of_le_of_lt (Nat.zero_le _) zsi)).symm⟩
 unfold keyOf
 rw [Tryz.underlying126]
 simp only [zy9,zrg,Bool.and_self,if_true]
 rw [hm]
 unfold Program.keyLits
 rw [Tryz.underlying126]
 simp [plV,Value.cells,zms,z1a,zg1 m _ w1,zg1 m _ w2,zg1 m _ w3]
def zfx (P:Program)(p:Pl):Lit:=(keyOf P 126 (plV p)).getD (.bool false)
theorem zkc {p:Pl}(h:zcb p):keyOf Tryz.prog 126 (plV p)=some (zfx Tryz.prog p):=by
 obtain⟨l,hl⟩:=zyd p h
 unfold zfx;rw [hl];rfl
theorem z08 {p q:Pl}(h:zcb p)(h':zcb q)(e:zfx Tryz.prog p=zfx Tryz.prog q):p=q:=by
 have h1:=zkc h
 have h2:=zkc h'
 rw [← e] at h2
 have:=zdt.inj h1 h2
 obtain⟨a,b,c⟩:=p
 obtain⟨a',b',c'⟩:=q
 simp only [plV,Value.agg.injEq,Array.mk.injEq,List.cons.injEq,Value.int.injEq,true_and,and_true] at this
 obtain⟨rfl,rfl,rfl⟩:=this
 rfl
def zst (v:Value):Option (DataW Value×List MemPlace):=some (.held v,[])
abbrev Ks:=List (Pl×Nat)
def Ks.get (l:Ks)(p:Pl):Option Nat:=match l.find? (fun x=>decide (x.1=p)) with
 | some x=>some x.2
 | none=>none
def zn7:Option Nat→Value
 | some b=>zt b
 | none=> .pointer none
def jc (w:World)(hb:Nat)(l:Ks):Prop :=
 ∃ D:DataW Value,w.ownsMap Tryz.prog 126 zst hb l.length D∧Maps.size D=l.length∧(l.map (·.1)).Nodup ∧
  ∀ p,zcb p→Maps.has D (zfx Tryz.prog p)=(l.get p).isSome∧D.atKey (zfx Tryz.prog p) (.held (.pointer none))= .held (zn7 (l.get p))
theorem jc.lt {w:World}{hb:Nat}{l:Ks}(h:jc w hb l):hb < w.heap.size:=by
 obtain⟨D,h,-⟩:=h
 exact h.lt
theorem jc.isMap {w:World}{hb:Nat}{l:Ks}(h:jc w hb l):∃ es c,w.heap[hb]?=some (.map es c):=by
 obtain⟨D,⟨es,c,e,-⟩,-⟩:=h
 exact⟨es,c,e⟩
theorem jc.same {w w':World}{hb:Nat}{l:Ks}(h:jc w hb l)(e:w'.heap[hb]?=w.heap[hb]?):jc w' hb l:=by
 obtain⟨D,⟨es,c,e1,r1⟩,r2⟩:=h
 exact⟨D,⟨es,c,e.trans e1,r1⟩,r2⟩
theorem jc.drew {w:World}{hb:Nat}{l:Ks}(h:jc w hb l):jc w.drew hb l:=h.same rfl
theorem zl7 {w:World}{b n:Nat}{D:DataW Value}(h:w.ownsMap Tryz.prog 126 zst b n D):w.ownsMap Tryz.prog 126 zst b (Maps.size D) D:=by
 obtain⟨es,c,hb,F,hs,rfl⟩:=h
 refine⟨es,c,hb,F,?_,rfl⟩
 show es.size≤((es.toList.map _).foldr DataW.insert []).length
 rw [length_sorted];simp
theorem zn9 {l:Ks}{p q:Pl}{b:Nat}(h:l.get p=none):Ks.get (l++[(p,b)]) q=if q=p then some b else l.get q:=by
 unfold Ks.get at *
 rw [List.find?_append]
 by_cases e:q=p
 ·subst e
  cases hf:l.find? (fun x=>decide (x.1=q)) with
  | some x=>rw [hf] at h;simp at h
  | none=>simp
 ·rw [if_neg e]
  cases hf:l.find? (fun x=>decide (x.1=q)) with
  | some x=>simp
  | none =>
   have:¬ p=q:=fun h=>e h.symm
   simp [this]
def Ks.drop (l:Ks)(p:Pl):Ks:=l.filter fun x=>!decide (x.1=p)
theorem zrs {l:Ks}{p q:Pl}:Ks.get (l.drop p) q=if q=p then none else l.get q:=by
 unfold Ks.get Ks.drop
 rw [List.find?_filter]
 by_cases e:q=p
 ·subst e
  rw [if_pos rfl]
  have:l.find? (fun a=>decide ((!decide (a.1=q))=true∧decide (a.1=q)=true))=none:=by
   rw [List.find?_eq_none];intro x _;simp
  rw [this]
 ·rw [if_neg e]
  have:(fun a:Pl×Nat=>decide ((!decide (a.1=p))=true∧decide (a.1=q)=true))=fun a=>decide (a.1=q):=by
   funext a
   by_cases h:a.1=q
   ·have:¬ a.1=p:=fun h'=>e (h▸h')
    simp [h,e]
   ·simp [h]
  rw [this]
theorem z5e {l:Ks}{p:Pl}(h:l.get p=none):∀ x∈l,x.1≠p:=by
 unfold Ks.get at h
 cases e:l.find? (fun x=>decide (x.1=p)) with
 | some x=>rw [e] at h;simp at h
 | none =>
  intro x hx
  simpa using List.find?_eq_none.1 e x hx
theorem z1w {l:Ks}{p:Pl}{b:Nat}(hn:(l.map (·.1)).Nodup)(h:l.get p=some b):∃ l1 l2,l=l1++(p,b)::l2∧l.drop p=l1++l2:=by
 unfold Ks.get at h
 cases e:l.find? (fun x=>decide (x.1=p)) with
 | none=>rw [e] at h;simp at h
 | some x =>
  rw [e] at h
  simp only [Option.some.injEq] at h
  have h1:=List.find?_some e
  simp only [decide_eq_true_eq] at h1
  obtain⟨l1,l2,rfl⟩:=List.append_of_mem (List.mem_of_find?_eq_some e)
  obtain⟨k,v⟩:=x
  simp only at h h1
  subst h;subst h1
  refine⟨l1,l2,rfl,?_⟩
  rw [List.map_append,List.nodup_append] at hn
  obtain⟨-,hn2,hn3⟩:=hn
  rw [List.map_cons,List.nodup_cons] at hn2
  unfold Ks.drop
  rw [List.filter_append,List.filter_cons]
  have a1:l1.filter (fun y=>!decide (y.1=k))=l1:=by
   rw [List.filter_eq_self]
   intro y hy
   simpa using hn3 y.1 (List.mem_map.2 ⟨y,hy,rfl⟩) k (by simp)
  have a2:l2.filter (fun y=>!decide (y.1=k))=l2:=by
   rw [List.filter_eq_self]
   intro y hy
   have:y.1≠k:=fun e'=>hn2.1 (e'▸List.mem_map.2 ⟨y,hy,rfl⟩)
   simpa using this
  rw [a1,a2];simp
theorem jc.look {w:World}{hb:Nat}{l:Ks}(h:jc w hb l){t e:TypeId}(ht:Tryz.prog.underlying t=some (.map 126 e))(hz:∀ w,(zeroValue e).run Tryz.prog w= .ok (.pointer none) w){p:Pl}(hp:zcb p):
  (Instr.lookup t (.map (some hb)) (plV p) true).run Tryz.prog w= .ok (.tuple #[zn7 (l.get p),.bool (l.get p).isSome]) w:=by
 obtain⟨D,h1,-,-,h4⟩:=h
 obtain⟨a,b⟩:=h4 p hp
 obtain⟨v,ps,hrun,hv⟩:=h1.look_ok zdt ht (hz w) (zd:= .held (.pointer none)) (zp:=[]) rfl (zkc hp)
 rw [b] at hv
 simp only [zst,Option.some.injEq,Prod.mk.injEq,DataW.held.injEq] at hv
 rw [hrun,a,hv.1]
theorem jc.put {w:World}{hb:Nat}{l:Ks}(h:jc w hb l){t e:TypeId}(ht:Tryz.prog.underlying t=some (.map 126 e)){p:Pl}(hp:zcb p)(hn:l.length < maxLen)(hno:l.get p=none)(b:Nat):
  ∃ w',(Instr.mapUpdate t (.map (some hb)) (plV p) (zt b)).run Tryz.prog w= .ok () w'∧jc w' hb (l++[(p,b)])∧w.grownBy w' (some hb):=by
 obtain⟨D,h1,h2,h3,h4⟩:=h
 obtain⟨w',hrun,ho,hg⟩:=h1.update zdt ht hn (zkc hp) (show zst (zt b)=some (.held (zt b),[]) from rfl)
 have hl:WideAt.IsKeyLit (zfx Tryz.prog p):=zdt.key (zkc hp)
 have hnot:Maps.has D (zfx Tryz.prog p)=false:=by rw [(h4 p hp).1,hno];rfl
 have hsz:Maps.size (D.put (zfx Tryz.prog p) (.held (zt b)))=l.length+1:=by
  rw [Maps.size_put (h1.tidy zdt),hnot,h2];rfl
 refine⟨w',hrun,⟨D.put (zfx Tryz.prog p) (.held (zt b)),?_,?_,?_,?_⟩,hg⟩
 ·have:=zl7 ho
  rw [hsz] at this
  simpa using this
 ·rw [hsz];simp
 ·rw [List.map_append,List.nodup_append]
  refine⟨h3,by simp,?_⟩
  intro a ha c hc
  simp only [List.map_cons,List.map_nil,List.mem_singleton] at hc
  subst hc
  obtain⟨x,hx,rfl⟩:=List.mem_map.1 ha
  exact z5e hno x hx
 ·intro q hq
  rw [zn9 hno]
  by_cases eq:q=p
  ·subst eq
   rw [if_pos rfl,Maps.has_put_same h1.isMap hl,Maps.atKey_put_same h1.isMap hl]
   exact⟨rfl,rfl⟩
  ·have:zfx Tryz.prog q≠zfx Tryz.prog p:=fun e=>eq (z08 hq hp e)
   rw [if_neg eq,Maps.has_put_other this,Maps.atKey_put_other this]
   exact h4 q hq
theorem jc.del {w:World}{hb:Nat}{l:Ks}(h:jc w hb l){t e:TypeId}(ht:Tryz.prog.underlying t=some (.map 126 e)){p:Pl}(hp:zcb p){b:Nat}(hin:l.get p=some b)(ty:TypeId):
  ∃ w',(Builtin.delete_ #[t,126] ty #[.map (some hb),plV p]).run Tryz.prog w= .ok (.tuple #[]) w'∧jc w' hb (l.drop p)∧w.grownBy w' (some hb):=by
 obtain⟨D,h1,h2,h3,h4⟩:=h
 obtain⟨w',hrun,ho,hg⟩:=h1.drop zdt ht (zkc hp) ty
 have hyes:Maps.has D (zfx Tryz.prog p)=true:=by rw [(h4 p hp).1,hin];rfl
 have hlen:(l.drop p).length+1=l.length:=by
  obtain⟨l1,l2,e1,e2⟩:=z1w h3 hin
  rw [e2,e1];simp;omega
 have hsz:Maps.size (D.del (zfx Tryz.prog p))=(l.drop p).length:=by
  have:=Maps.size_del (k:=zfx Tryz.prog p) (h1.tidy zdt)
  rw [hyes,h2] at this
  simp at this
  omega
 refine⟨w',hrun,⟨D.del (zfx Tryz.prog p),?_,hsz,?_,?_⟩,hg.grown⟩
 ·have:=zl7 ho
  rw [hsz] at this
  exact this
 ·unfold Ks.drop
  exact(List.filter_sublist.map _).nodup h3
 ·intro q hq
  rw [zrs]
  by_cases eq:q=p
  ·subst eq
   rw [if_pos rfl,Maps.has_del_same,Maps.atKey_del_same]
   exact⟨rfl,rfl⟩
  ·have:zfx Tryz.prog q≠zfx Tryz.prog p:=fun e=>eq (z08 hq hp e)
   rw [if_neg eq,Maps.has_del_other this,Maps.atKey_del_other this]
   exact h4 q hq
theorem jc.len {w:World}{hb:Nat}{l:Ks}(h:jc w hb l){t e:TypeId}(ht:Tryz.prog.underlying t=some (.map 126 e))(ty:TypeId):
  (Builtin.len_ #[t] ty #[.map (some hb)]).run Tryz.prog w= .ok (.int .i64 (l.length:Int)) w:=by
 obtain⟨D,h1,h2,-⟩:=h
 rw [h1.len ht ty,h2]
theorem zgh {w:World}{hb:Nat}{c:Nat}(h:w.heap[hb]?=some (.map #[] c)):jc w hb []:=by
 refine⟨.map [],⟨#[],c,h,⟨by simp,stamped_empty c,by simp⟩,Nat.le_refl _,rfl⟩,rfl,by simp,fun p _=>⟨rfl,rfl⟩⟩
theorem jc.clear {w:World}{hb:Nat}{l:Ks}(h:jc w hb l){t e:TypeId}(ht:Tryz.prog.underlying t=some (.map 126 e))(ty:TypeId):
  ∃ w',(Builtin.clear_ #[t] ty #[.map (some hb)]).run Tryz.prog w= .ok (.tuple #[]) w'∧jc w' hb []∧w.grownBy w' (some hb):=by
 obtain⟨es,c,hm⟩:=h.isMap
 refine⟨setBlock w hb (.map #[] c),?_,zgh (c:=c) (heap_setBlock_same hm _),⟨rfl,rfl,rfl,by simp [setBlock],fun i _ hi=>heap_setBlock_other hm _ (fun e=>hi (by rw [e]))⟩⟩
 simp [Builtin.clear_,run_underlying ht,MapKept.run_getObj_map hm,MapKept.run_setObj_map _ hm,Result.andThen,setBlock]
end
section
set_option maxHeartbeats 4000000
open Go.RowKit
set_option maxRecDepth 100000
theorem zkt (p q:Addr)(w:World):
  CallsD Tryz.prog 91 #[.pointer (some p),.pointer (some q)] .returning w fun e u' w'=>e= .returned (.tuple #[])∧u'= .returning∧w'=w:=by
 refine callsD_of_wpS Tryz.func91 rfl fun c₀ cs hu=>?_
 apply wpS_seq
 apply wpS_region
 simp [wpOpsS,go_sem,recoverD,hu,Tryz.ntmps91,Exit.thenS]
 refine wpS_cond (t:=false) (by simp [Act.eval,Array.replicate]) ?_
 simp only [Bool.false_eq_true,if_false]
 refine wpS_of_wp (wp_skip ?_)
 cases c₀
 simp_all [bodyPostS,results,Tryz.results91]
theorem zt1 (n:Nat)(v:Value)(w:World):(Go.method (n+1) 44 v "Fetch").run Tryz.prog w= .ok (238,v) w:=by kernel_rfl
theorem zfd.turn {w w':World}{O:Nat→Prop}{T:List Nat}{v:Value}{x:Option (List UInt8)}(h:zfd w v x)(ht:zf O T w w')(hT:5∉T):zfd w' v x:=by
 rcases h with ⟨d,rfl,hq⟩ | ⟨rfl,rfl⟩
 ·exact .inl ⟨d,rfl,hq.turn ht hT⟩
 ·exact .inr ⟨rfl,rfl⟩
theorem zoi {w1:World}{s:Nat}{v u:Value}{b:Bool}(b1:w1.heap[s]?=some (.cells #[u] 76 (0,0)))(b2:w1.heap[s+1]?=some (.cells #[.bool false] 4 (0,0))):
  ((w1.setCell ⟨s,0,none⟩ v).setCell ⟨s,0,none⟩ v).cell? ⟨s,0,none⟩=some v∧(((w1.setCell ⟨s,0,none⟩ v).setCell ⟨s,0,none⟩ v).setCell ⟨s+1,0,none⟩ (.bool b)).drew.cell? ⟨s+1,0,none⟩=some (.bool b) ∧
  zf (fun _=>True) [76,4] w1 (((w1.setCell ⟨s,0,none⟩ v).setCell ⟨s,0,none⟩ v).setCell ⟨s+1,0,none⟩ (.bool b)).drew:=by
 have c1:(w1.setCell ⟨s,0,none⟩ v).heap[s]?=some (.cells #[v] 76 (0,0)):=by rw [qj b1];rfl
 have d1:((w1.setCell ⟨s,0,none⟩ v).setCell ⟨s,0,none⟩ v).heap[s]?=some (.cells #[v] 76 (0,0)):=by rw [qj c1];rfl
 have c2:(w1.setCell ⟨s,0,none⟩ v).heap[s+1]?=some (.cells #[.bool false] 4 (0,0)):=by rw [heap_setCell_other _ _ _ _ (show s+1≠s by omega)];exact b2
 have d2:((w1.setCell ⟨s,0,none⟩ v).setCell ⟨s,0,none⟩ v).heap[s+1]?=some (.cells #[.bool false] 4 (0,0)):=by rw [heap_setCell_other _ _ _ _ (show s+1≠s by omega)];exact c2
 have e2:(((w1.setCell ⟨s,0,none⟩ v).setCell ⟨s,0,none⟩ v).setCell ⟨s+1,0,none⟩ (.bool b)).heap[s+1]?=some (.cells #[.bool b] 4 (0,0)):=by rw [qj d2];rfl
 exact⟨(zg d1 0 _ rfl).1,(zg e2 0 _ rfl).1,((((zf.refl _ _ w1).set (.inl trivial) b1 (by simp) _).set (.inl trivial) c1 (by simp) _).set (.inl trivial) d2 (by simp) _).drew⟩
def znk (nb:Nat):Value:= .iface 44 (.pointer (some ⟨nb,0,none⟩))
theorem znf (O:Nat→Prop)(nb db cb:Nat)(n:Nt)(d:Dk)(p:List UInt8)(w:World)(hn:d.fs.length≤1000000000)(hl:∀ f∈d.fs,f.2.length≤1000000000)
  (hy:∀ l∈n.lies,l.data.length≤1000000000) (hyl:n.lies.length≤1000000000) (hf:0≤n.fetches∧n.fetches < 4611686018427387904) (htd:∀ t∈n.told,0≤t∧t < 4611686018427387904)
  (hD:zm w O db d) (hN:j5 w O nb db n) (hc:w.cell? ⟨cb,2,none⟩=some (znk nb)) :
  Calls Tryz.prog 56 #[zt cb,txv p] w fun r w'=>∃ v x,r= .returned (.tuple #[v,.bool (zq d.fs n p).1.2])∧zf O nT w w'∧j5 w' O nb db (zq d.fs n p).2∧zfd w' v x∧x.getD []=(zq d.fs n p).1.1:=by
 have hmf:∀(fn:Fn) (first cap:Array Value) (w:World),(Instr.makeFunc fn first cap).run Tryz.prog w= .ok (.func fn first cap) w:=fun _ _ _ _=>rfl
 have hcl:=zj hc
 have hm:=zt1
 have eg:∀ args w,(callFunc 238 args).run Tryz.prog w= .ok (.enter 238 args) w:=enters_of Tryz.func238 (by kernel_rfl) rfl
 have hc2:∀ o o',((w.alloc o).alloc o').cell? ⟨cb,2,none⟩=some (znk nb):=fun o o'=>by
  rw [zk _ _ ⟨_,2,none⟩ (Nat.lt_of_lt_of_le hcl (by simp)),zk _ _ ⟨_,2,none⟩ hcl];exact hc
 have HC:=za (zv6 O nb db n d p ((w.alloc (.cells #[.slice none 0 0] 76)).alloc (.cells #[.bool false] 4)) hn hl hy hyl hf htd (hD.stay (O1:=fun _=>False) (T:=[]) (.of_below (zw _ _ _)) (by simp) (by simp)) (hN.below (zw _ _ _)))
 have H0:Hid (((w.alloc (.cells #[.slice none 0 0] 76)).alloc (.cells #[.bool false] 4)).heap[w.heap.size]?=some (.cells #[.slice none 0 0] 76 (0,0))∧((w.alloc (.cells #[.slice none 0 0] 76)).alloc (.cells #[.bool false] 4)).heap[w.heap.size+1]?=some (.cells #[.bool false] 4 (0,0))∧zf O nT w ((w.alloc (.cells #[.slice none 0 0] 76)).alloc (.cells #[.bool false] 4))):=by
  refine⟨zc (heap_alloc_last _ _),?_,.of_below (zw _ _ _)⟩
  rw [show w.heap.size+1=(w.alloc (.cells #[.slice none 0 0] 76)).heap.size by simp]
  exact heap_alloc_last _ _
 clear hD hN hl hy htd hc
 unfold znk at hc2
 unfold zt txv
 unfold txv at HC
 generalize zq d.fs n p=N at *
 obtain⟨⟨dat,ok⟩,n'⟩:=N
 simp only at *
 go_enter_defers Tryz.func56,Tryz.ntmps56
 go_wp2_with fail
 refine HC.o.mono ?_
 rintro r w1 ⟨v,e,x,rfl,ht,hN1,hg,hx,he⟩
 obtain⟨va,vl,vc,rfl⟩:∃ a l c,v= .slice a l c:=by
  rcases hg with ⟨d',-,g,cap,C,fr,e',-⟩ | ⟨-,e'⟩
  ·exact⟨_,_,_,e'⟩
  ·exact⟨_,_,_,e'⟩
 have b1:w1.heap[w.heap.size]?=some (.cells #[.slice none 0 0] 76 (0,0)):=ht.keep H0.o.1 (by decide)
 have b2:w1.heap[w.heap.size+1]?=some (.cells #[.bool false] 4 (0,0)):=ht.keep H0.o.2.1 (by decide)
 have c2:(w1.setCell ⟨w.heap.size,0,none⟩ (.slice va vl vc)).heap[w.heap.size]?=some (.cells #[.slice va vl vc] 76 (0,0)):=by rw [qj b1];rfl
 have c3:(w1.setCell ⟨w.heap.size,0,none⟩ (.slice va vl vc)).heap[w.heap.size+1]?=some (.cells #[.bool false] 4 (0,0)):=by rw [heap_setCell_other _ _ _ _ (show w.heap.size+1≠w.heap.size by omega)];exact b2
 obtain⟨k0,z0⟩:=zg b1 0 _ rfl
 obtain⟨k1,z1⟩:=zg c2 0 _ rfl
 obtain⟨k2,z2⟩:=zg c3 0 _ rfl
 have n1:w.heap.size≠w.heap.size+1:=by omega
 have HT1:=za (H0.o.2.2.trans (ht.mono (fun _ h=> .inl h) (fun _ h=>h)))
 have HN1:=za hN1
 have HGV:=za hg
 have HX:=za hx
 have HE:=za he
 have HBB:=za (And.intro b1 b2)
 have HCC:=za (And.intro c2 c3)
 have hev:e= .nilIface∧ok=true∨ok=false∧∃ g,e=zar g:=by
  rcases he with ⟨h1,h2⟩ | ⟨h1,h2⟩
  ·exact .inl ⟨h2,h1⟩
  ·exact .inr ⟨h1,h2⟩
 clear ht hN1 hg hx he b1 b2 c2 c3 HC
 rcases hev with ⟨rfl,rfl⟩ | ⟨rfl,g',rfl⟩
 ·go_wp2_with fail
  go_region
  all_goals go_wp2_with fail
  all_goals refine leaves_cons (f:=91) (args:=#[.pointer (some ⟨w.heap.size,0,none⟩),.pointer (some ⟨w.heap.size+1,0,none⟩)]) (by simp) (by simp [go_sem]) ?_
  all_goals refine(zkt ⟨w.heap.size,0,none⟩ ⟨w.heap.size+1,0,none⟩ _).mono ?_
  all_goals rintro e u' w'' ⟨rfl,rfl,rfl⟩
  all_goals simp [Leaves,settle,results,Tryz.results56,go_sem]
  obtain⟨q1,q2,q3⟩:=zoi (v:= .slice va vl vc) (b:=true) HBB.o.1 HBB.o.2
  rw [q1]
  simp only [Result.andThen_ok]
  rw [q2]
  exact⟨_,rfl,_,rfl,(((HT1.o.setNew (Nat.le_refl _) _ _).setNew (Nat.le_refl _) _ _).setNew (Nat.le_succ _) _ _).drew,HN1.o.turn q3 (by decide) (by decide) (by decide),x,HGV.o.turn q3 (by decide),HX.o⟩
 ·unfold zar
  go_wp2_with fail
  go_region
  all_goals go_wp2_with fail
  all_goals refine leaves_cons (f:=91) (args:=#[.pointer (some ⟨w.heap.size,0,none⟩),.pointer (some ⟨w.heap.size+1,0,none⟩)]) (by simp) (by simp [go_sem]) ?_
  all_goals refine(zkt ⟨w.heap.size,0,none⟩ ⟨w.heap.size+1,0,none⟩ _).mono ?_
  all_goals rintro e u' w'' ⟨rfl,rfl,rfl⟩
  all_goals simp [Leaves,settle,results,Tryz.results56,go_sem]
  obtain⟨q1,q2,q3⟩:=zoi (v:= .slice va vl vc) (b:=false) HBB.o.1 HBB.o.2
  rw [q1]
  simp only [Result.andThen_ok]
  rw [q2]
  exact⟨_,rfl,_,rfl,(((HT1.o.setNew (Nat.le_refl _) _ _).setNew (Nat.le_refl _) _ _).setNew (Nat.le_succ _) _ _).drew,HN1.o.turn q3 (by decide) (by decide) (by decide),x,HGV.o.turn q3 (by decide),HX.o⟩
end
end Go.Proofs.YtinhekmmdlhfkaaGreatDoor
