import Derived.Test.YtinhekmmdlhfkaaGreatDoorG07
import Derived.Lib.TrailingZeros
import Derived.Test.YtinhekmmdlhfkaaGreatDoorG01
import Derived.Maps.OwnSet
import Derived.DeepKeys4
import Derived.MapViews
namespace Go.Proofs.YtinhekmmdlhfkaaGreatDoor
section
def val10 (l:List UInt8):Nat:=l.foldl (fun a c=>a*10+(c.toNat - 48)) 0
theorem val10_dec (n:Nat):val10 (dec n)=n:=by
 induction n using Nat.strongRecOn with
 | ind n ih =>
  by_cases h:n < 10
  ·rw [dec_one h]
   unfold val10
   simp only [List.foldl_cons,List.foldl_nil,dig_val n h]
   omega
  ·rw [dec_more h]
   have:=ih (n / 10) (by omega)
   unfold val10 at this ⊢
   rw [List.foldl_append,this]
   simp only [List.foldl_cons,List.foldl_nil,dig_val (n % 10) (by omega)]
   omega
def isDigB (c:UInt8):Bool:=decide (48≤c.toNat∧c.toNat≤57)
def ixN (p:List UInt8):Nat:=val10 ((p.drop 8).takeWhile isDigB)
theorem takeWhile_dec (n:Nat)(r:List UInt8)(hr:noDig r):(dec n++r).takeWhile isDigB=dec n:=by
 rw [List.takeWhile_append_of_pos (fun a ha=>by have h:=dec_digits n a ha;unfold isDig at h;simpa [isDigB] using h)]
 have:r.takeWhile isDigB=[]:=by
  cases r with
  | nil=>rfl
  | cons c t =>
   have hc:isDigB c=false:=by
    have:¬ isDig c:=hr
    simpa [isDigB,isDig] using this
   simp [List.takeWhile,hc]
 rw [this,List.append_nil]
theorem ixN_name (j w:Nat)(h1:1≤w)(h4:w≤4):ixN (nameF (-1) j w)=j:=by
 rw [nameF_good (by unfold badName;omega),headF_ent,List.append_assoc]
 unfold ixN
 rw [List.drop_left' (show entF.length=8 from rfl),takeWhile_dec _ _ (tailF_noDig _),val10_dec]
 simp
theorem want_ix {es:List (List UInt8)}{j w:Nat}{x:List UInt8}(h1:1≤w)(h4:w≤4)(h:(nameF (-1) j w,x)∈want es):4*j < es.length:=by
 obtain⟨l,j',h1',h2,e⟩:=mem_want.1 h
 unfold fileF at e
 simp only [Prod.mk.injEq] at e
 have g:=good_file h1' h2
 by_cases hl:l=-1
 ·subst hl
  have he:=congrArg ixN e.1
  rw [ixN_name j w h1 h4,ixN_name j' _ (by unfold wid;omega) (by unfold wid;omega)] at he
  subst he
  simpa [cntL] using h2
 ·have he:=e.1
  rw [nameF_good (by unfold badName;omega),nameF_good g,headF_ent,headF_tile l hl] at he
  simp [entF,tileF] at he
theorem among_went {es:List (List UInt8)}{fs fs':Fs}{c:List UInt8}{s:List Nat}(hs:Among (look fs) s)(h0:∀ j,4*j < es.length→j∈s)(w:Went (want es) c fs fs'):Among (look fs') s:=by
 intro j w1 h1 h4 h
 rcases w (nameF (-1) j w1) with e | ⟨_,x,hx,_⟩ | ⟨e,_⟩
 ·rw [e] at h;exact hs j w1 h1 h4 h
 ·exact h0 j (want_ix h1 h4 hx)
 ·exact absurd e nameF_cp
theorem flat_len (ls:List (List UInt8))(B:Nat)(h:∀ l∈ls,l.length≤B):ls.flatten.length≤ls.length*B:=by
 induction ls with
 | nil=>simp
 | cons a r ih =>
  have h1:=h a (by simp)
  have h2:=ih (fun l hl=>h l (by simp [hl]))
  rw [List.flatten_cons,List.length_append,List.length_cons,Nat.add_mul]
  omega
theorem dataF_len {es:List (List UInt8)}(h20:∀ e∈es,e.length≤20)(l:Int)(k:Nat):(dataF es l k).length≤21:=by
 unfold dataF
 split
 ·unfold bun1
  rw [List.getD_eq_getElem?_getD]
  cases e:es[k]? with
  | none=>simp
  | some x =>
   have:=h20 x (List.mem_of_getElem? e)
   simp
   omega
 ·unfold rootT
  rw [rootF_length]
  omega
theorem want_len {es:List (List UInt8)}(h20:∀ e∈es,e.length≤20){q x:List UInt8}(h:(q,x)∈want es):x.length≤84:=by
 obtain⟨l,j,h1,h2,e⟩:=mem_want.1 h
 unfold fileF at e
 simp only [Prod.mk.injEq] at e
 rw [e.2]
 unfold fileD
 refine Nat.le_trans (flat_len _ 21 fun y hy=>?_) ?_
 ·obtain⟨k,-,rfl⟩:=List.mem_map.1 hy
  exact dataF_len h20 l k
 ·rw [List.length_map,List.length_range']
  unfold wid
  omega
theorem len_went {es:List (List UInt8)}{fs fs':Fs}{c:List UInt8}{M:Nat}(h20:∀ e∈es,e.length≤20)(hl:∀ f∈fs,f.2.length≤M)(hc:c.length≤M)(hM:84≤M)(ha:Apart fs')(w:Went (want es) c fs fs'):∀ f∈fs',f.2.length≤M:=by
 intro f hf
 have e:=mem_look (p:=f.1) (d:=f.2) ha hf
 rcases w f.1 with e' | ⟨_,x,hx,e'⟩ | ⟨_,e'⟩
 ·rw [e] at e'
  exact hl (f.1,f.2) (look_mem e'.symm)
 ·rw [e] at e'
  obtain hx':f.2=x:=by simpa using e'
  have:=want_len h20 hx
  rw [hx']
  omega
 ·rw [e] at e'
  obtain hx':f.2=c:=by simpa using e'
  rw [hx']
  exact hc
theorem putL_len (d:Dk)(p x:List UInt8):(putD d p x).fs.length≤d.fs.length+1:=by
 have h:=setF_length d.fs p x
 have e:=congrArg List.length (enterD_fs d)
 unfold putD
 split<;>(try split)<;>(try split)<;>(try simp only)<;>omega
theorem putsL_len:∀(t:Fs) (d:Dk) ,(putsD t d).2.fs.length≤d.fs.length+t.length
 | [],d=>by simp [putsD]
 | f::r,d=>by
  have h:=putL_len d f.1 f.2
  have h2:=putsL_len r (putD d f.1 f.2)
  unfold putsD
  split
  ·simp only [List.length_cons];omega
  ·simp only [List.length_cons];omega
theorem swapD_len (d:Dk)(p x:List UInt8):(swapD d p x).fs.length≤d.fs.length+1:=by
 have h:=setF_length d.fs p x
 have e:=congrArg List.length (enterD_fs d)
 unfold swapD
 split
 ·simp only;omega
 ·omega
theorem pubD_len (t:Fs)(c:List UInt8)(d:Dk):(pubD t c d).2.fs.length≤d.fs.length+t.length+1:=by
 have h:=putsL_len t d
 unfold pubD
 generalize putsD t d=r at *
 obtain⟨o,d1⟩:=r
 have h2:=swapD_len d1 cpF c
 simp only at h ⊢
 cases o with
 | some p=>simp only;omega
 | none =>
  simp only
  split<;>(simp only;omega)
theorem flatMap_len (f:Nat→Fs)(B L:Nat)(h:∀ k,(f k).length≤B):((List.range L).flatMap f).length≤L*B:=by
 induction L with
 | zero=>simp
 | succ L ih =>
  rw [List.range_succ,List.flatMap_append,List.length_append,Nat.add_mul]
  have:=h L
  simp only [List.flatMap_cons,List.flatMap_nil,List.append_nil]
  omega
theorem levF_len (es:List (List UInt8))(l:Int)(j c:Nat):(levF es l j c).length≤(c+3) / 4:=by
 unfold levF
 rw [List.length_map,List.length_range']
 omega
theorem levT_len (es:List (List UInt8))(put:Nat)(l:Int):(levT es put l).length≤(es.length+3) / 4:=by
 unfold levT
 split
 ·simp
 ·have:=levF_len es l (cntL l put / 4) (cntL l es.length)
  have:=cntL_le l es.length
  omega
theorem todo_len (es:List (List UInt8))(put:Nat):(todo es put).length≤22*((es.length+3) / 4):=by
 unfold todo todoTo
 rw [List.length_append]
 have h1:=levT_len es put (-1)
 have h2:=flatMap_len (fun(k:Nat)=>levT es put (k:Int)) ((es.length+3) / 4) 21 (fun k=>levT_len es put _)
 omega
theorem want_nil {f:List UInt8×List UInt8}:f∉want []:=by
 intro h
 obtain⟨l,j,-,h,-⟩:=mem_want.1 h
 simp [cntL] at h
end
section
theorem flat_ix (n:Nat):∀(ls:List (List UInt8)) (k:Nat) (h:k < ls.length),(∀ l∈ls,l.length=n)→(ls.flatten.drop (n*k)).take n=ls[k]
 | [],k,h,_=>by simp at h
 | a::r,0,_,hl=>by
  have ha:=hl a (by simp)
  rw [Nat.mul_zero,List.drop_zero,List.flatten_cons,List.take_append_of_le_length (by omega),List.take_of_length_le (by omega)]
  rfl
 | a::r,k+1,h,hl=>by
  have ha:=hl a (by simp)
  rw [List.flatten_cons,show n*(k+1)=a.length+n*k by rw [ha,Nat.mul_add,Nat.mul_one,Nat.add_comm],List.drop_append]
  simp only [List.getElem_cons_succ]
  rw [List.drop_of_length_le (show a.length≤a.length+n*k by omega),List.nil_append,Nat.add_sub_cancel_left]
  exact flat_ix n r k (by simpa using h) (fun l hl'=>hl l (by simp [hl']))
theorem dataF_8 (es:List (List UInt8))(L j:Nat):(dataF es (L:Int) j).length=8:=by
 unfold dataF
 rw [if_neg (by omega)]
 exact rootF_length _ _
theorem tile_hash (es:List (List UInt8))(L j w:Nat)(h:j % 4 < w):((fileD es (L:Int) (j / 4) w).drop (8*(j % 4))).take 8=dataF es (L:Int) j:=by
 unfold fileD
 rw [flat_ix 8 _ (j % 4) (by simpa using h) (fun l hl=>by
  obtain⟨k,-,rfl⟩:=List.mem_map.1 hl
  exact dataF_8 es L k)]
 rw [List.getElem_map,List.getElem_range']
 congr 1
 omega
theorem tile_len (es:List (List UInt8))(L j w:Nat):(fileD es (L:Int) j w).length=8*w:=by
 have key:∀ ls:List (List UInt8),(∀ l∈ls,l.length=8)→ls.flatten.length=8*ls.length:=by
  intro ls
  induction ls with
  | nil=>simp
  | cons a r ih =>
   intro h
   rw [List.flatten_cons,List.length_append,h a (by simp),ih (fun l hl=>h l (by simp [hl])),List.length_cons]
   omega
 unfold fileD
 rw [key _ (fun l hl=>by
  obtain⟨k,-,rfl⟩:=List.mem_map.1 hl
  exact dataF_8 es L k)]
 simp
end
section
abbrev Pl:=Int×Int×Int
structure Pc where
 there:Bool
 fits:Bool
 hash:List UInt8
 entry:List UInt8
def none8:List UInt8:=[0,0,0,0,0,0,0,0]
def Pc.no:Pc:=⟨false,false,none8,[]⟩
abbrev Fl:=List Pc
def Fl.no:Fl:=[.no,.no,.no,.no]
abbrev Mm:=List (Pl×Fl)
def Mm.get (m:Mm)(k:Pl):Option Fl:=match m.find? (fun x=>decide (x.1=k)) with
 | some x=>some x.2
 | none=>none
def Mm.drop (m:Mm)(k:Pl):Mm:=m.filter fun x=>!decide (x.1=k)
def Mm.put (room:Int)(m:Mm)(k:Pl)(f:Fl):Mm:=if room < ((m.drop k++[(k,f)]).length:Int) then (m.drop k++[(k,f)]).tail else m.drop k++[(k,f)]
def Mm.set (m:Mm)(k:Pl)(f:Fl):Mm:=m.map fun x=>if x.1=k then (k,f) else x
def Mm.ok (m:Mm):Prop:=(m.map (·.1)).Nodup
def lvl (n:Nat):Nat:=Lib.ctz 64 n / 2
def placeN (size:Nat)(l:Int)(j:Nat):Pl:=(l,((j / 4:Nat):Int),min ((cntL l size:Int) - ((j / 4:Nat):Int)*4) 4)
def tileFl (w:Nat)(d:List UInt8):Fl:=(List.range 4).map fun k=>if k < w then ⟨true,false,(d.drop (8*k)).take 8,[]⟩ else .no
def bunFl (es:List (List UInt8)):Fl:=(List.range 4).map fun k=>if k < es.length then ⟨true,false,leafH (es.getD k []),es.getD k []⟩ else .no
def readF (l w:Int)(d:List UInt8):Option Fl :=
 if l=-1 then (match unbF d with
  | some es=>if (es.length:Int)=w then some (bunFl es) else none
  | none=>none)
 else if (d.length:Int)=w*8 then some (tileFl w.toNat d) else none
def clipF (w:Int)(f:Fl):Fl:=f.take w.toNat++List.replicate (4 - w.toNat) .no
def fillF (f came:Fl):Fl:=List.zipWith (fun a b=>if a.fits then a else b) f came
def fitF (f:Fl):Fl:=f.map fun p=>if p.fits then p else .no
def rootP (f:Fl):Option (List UInt8):=match f with
 | [a,b,c,d]=>if a.fits&&b.fits&&c.fits&&d.fits then some (nodeH (nodeH a.hash b.hash) (nodeH c.hash d.hash)) else none
 | _=>none
def nameP (p:Pl):List UInt8:=nameF p.1 p.2.1 p.2.2
section
variable {σ : Type} (fe : σ → List UInt8 → (List UInt8 × Bool) × σ)
def placeM (s:σ)(p:Pl):Option Fl×σ:=(if (fe s (nameP p)).1.2 then readF p.1 p.2.2 (fe s (nameP p)).1.1 else none,(fe s (nameP p)).2)
def fileM (s:σ)(p:Pl):Option Fl×σ:=match placeM fe s p with
 | (some f,s1)=>(some f,s1)
 | (none,s1)=>if p.2.2=4 then (none,s1) else match placeM fe s1 (p.1,p.2.1,4) with
  | (some f,s2)=>(some (clipF p.2.2 f),s2)
  | (none,s2)=>(none,s2)
structure Ms (σ:Type) where
 net:σ
 needed:Mm
def knownM (proved needed:Mm)(p:Pl):Fl:=match needed.get p with
 | some f=>f
 | none=>match proved.get p with
  | some f=>f
  | none=> .no
def fitsAt (f:Fl)(k:Nat):Fl:=f.modify k fun p=>{ p with fits:=true }
def needM (proved:Mm)(size:Nat)(m:Ms σ)(l:Int)(j:Nat):Sum (List UInt8) Pc×Ms σ :=
 if ((knownM proved m.needed (placeN size l j)).getD (j % 4) .no).there then
  (.inr ((fitsAt (knownM proved m.needed (placeN size l j)) (j % 4)).getD (j % 4) .no),
   { m with needed:=m.needed.drop (placeN size l j)++[(placeN size l j,fitsAt (knownM proved m.needed (placeN size l j)) (j % 4))] })
 else match fileM fe m.net (placeN size l j) with
  | (none,s)=>(.inl (nameP (placeN size l j)),{ m with net:=s })
  | (some came,s)=>(.inr ((fitsAt (fillF (knownM proved m.needed (placeN size l j)) came) (j % 4)).getD (j % 4) .no),
   { net:=s,needed:=m.needed.drop (placeN size l j)++[(placeN size l j,fitsAt (fillF (knownM proved m.needed (placeN size l j)) came) (j % 4))] })
def rootM (proved:Mm)(size:Nat):Nat→Ms σ→Nat→Nat→Sum (List UInt8) (List UInt8)×Ms σ
 | 0,m,_,_=>(.inr none8,m)
 | f+1,m,a,n =>
  if n / 4 ^ lvl n=1 then (match needM fe proved size m (lvl n:Nat) (a / 4 ^ lvl n) with
   | (.inl e,m1)=>(.inl e,m1)
   | (.inr p,m1)=>(.inr p.hash,m1))
  else match rootM proved size f m a (kOf n) with
   | (.inl e,m1)=>(.inl e,m1)
   | (.inr x,m1)=>match rootM proved size f m1 (a+kOf n) (n - kOf n) with
    | (.inl e,m2)=>(.inl e,m2)
    | (.inr y,m2)=>(.inr (nodeH x y),m2)
def rootsM (proved:Mm)(size:Nat)(m:Ms σ):List (Nat×Nat)→Sum (List UInt8) (List (List UInt8))×Ms σ
 | []=>(.inr [],m)
 | s::r=>match rootM fe proved size 64 m s.1 s.2 with
  | (.inl e,m1)=>(.inl e,m1)
  | (.inr x,m1)=>match rootsM proved size m1 r with
   | (.inl e,m2)=>(.inl e,m2)
   | (.inr xs,m2)=>(.inr (x::xs),m2)
end
def settleM (size:Nat):Nat→Mm→Nat→Nat→List UInt8→Mm
 | 0,nd,_,_,_=>nd
 | f+1,nd,l,j,h=>match nd.get (placeN size l j) with
  | none=>nd
  | some fl=>match rootP (fl.set (j % 4) ⟨true,true,h,[]⟩) with
   | some up=>settleM size f (nd.set (placeN size l j) (fl.set (j % 4) ⟨true,true,h,[]⟩)) (l+1) (j / 4) up
   | none=>nd.set (placeN size l j) (fl.set (j % 4) ⟨true,true,h,[]⟩)
def besideF (b l:Fl):Fl:=List.zipWith (fun p q=>if p.there&&q.fits&&decide (p.hash=q.hash) then { p with fits:=true } else p) b l
def settleE (size:Nat)(nd:Mm)(i:Nat)(leaf:List UInt8):Mm :=
 match (settleM size 64 nd 0 i leaf).get (placeN size 0 i) with
 | none=>settleM size 64 nd 0 i leaf
 | some ls=>match (settleM size 64 nd 0 i leaf).get (placeN size (-1) i) with
  | none=>settleM size 64 nd 0 i leaf
  | some b=>(settleM size 64 nd 0 i leaf).set (placeN size (-1) i) (besideF b ls)
def settleO (size:Nat)(nd:Mm)(old:Nat)(root:List UInt8):Mm :=
 match nd.get (placeN size (lvl old:Nat) (old / 4 ^ lvl old - 1)) with
 | none=>nd
 | some fl =>
  if old / 4 ^ lvl old - 1=0 then settleM size 64 nd (lvl old) 0 root
  else if old / 4 ^ lvl old - 1=1 then
   (if nodeH (fl.getD 0 .no).hash (fl.getD 1 .no).hash=root then settleM size 64 (nd.set (placeN size (lvl old:Nat) 1) (fitsAt fl 0)) (lvl old) 1 (fl.getD 1 .no).hash else nd)
  else settleM size 64 nd (lvl old) (old / 4 ^ lvl old - 1) (fl.getD ((old / 4 ^ lvl old - 1) % 4) .no).hash
def rememberM (room:Int)(proved nd:Mm):Mm:=nd.foldl (fun pr x=>pr.put room x.1 (fitF x.2)) proved
end
section
open Go.RowKit Go.Maps Go.MapKept Go.ChangeMaps
set_option maxRecDepth 100000
def plV (p:Pl):Value:= .agg #[.int .i64 p.1,.int .i64 p.2.1,.int .i64 p.2.2]
def i64ok (x:Int):Prop:=-9223372036854775808≤x∧x≤9223372036854775807
def PlOk (p:Pl):Prop:=i64ok p.1∧i64ok p.2.1∧i64ok p.2.2
def ptrV (b:Nat):Value:= .pointer (some ⟨b,0,none⟩)
theorem laidOut:laidOutB Tryz.prog=true:=by kernel_rfl
theorem placeRow:(126:TypeId) < Tryz.prog.types.size:=of_decide_eq_true (by kernel_rfl)
theorem placeKeyT:Tryz.prog.keyType 126=true:=by kernel_rfl
theorem placeWide:(match Tryz.prog.underlying 126 with | some (.array _ _) | some (.struct _)=>true | _=>false)=true:=by rw [Tryz.underlying126]
theorem placeLaw:Keyed Tryz.prog 126:=Keyed.of_law (deep_law_laid laidOut (m:=2) (by omega) placeRow (by kernel_rfl) placeWide)
theorem placeCells:Tryz.prog.cellsOf 126=3:=by kernel_rfl
theorem intCells:Tryz.prog.cellsOf 3=1:=by kernel_rfl
theorem placeFormed (p:Pl):(plV p).formed Tryz.prog 126=true:=by simp [plV,Value.formed,Tryz.underlying126,placeCells]
theorem keyLits_i64 (d:Nat)(n:Int)(h:(Lit.int .i64 n).wf=true):Tryz.prog.keyLits (d+1) 3 [.int .i64 n]=some [.int .i64 n]:=by
 unfold Program.keyLits
 rw [Tryz.underlying3]
 simp [h]
theorem place_key (p:Pl)(h:PlOk p):∃ l,keyOf Tryz.prog 126 (plV p)=some l:=by
 obtain⟨h1,h2,h3⟩:=h
 have w1:(Lit.int .i64 p.1).wf=true:=WalkArith.wf_i64 h1
 have w2:(Lit.int .i64 p.2.1).wf=true:=WalkArith.wf_i64 h2
 have w3:(Lit.int .i64 p.2.2).wf=true:=WalkArith.wf_i64 h3
 obtain⟨m,hm⟩:∃ m,Tryz.prog.types.size=m+1:=⟨_,(Nat.succ_pred_eq_of_pos (Nat.lt_of_le_of_lt (Nat.zero_le _) placeRow)).symm⟩
 unfold keyOf
 rw [Tryz.underlying126]
 simp only [placeKeyT,placeFormed,Bool.and_self,if_true]
 rw [hm]
 unfold Program.keyLits
 rw [Tryz.underlying126]
 simp [plV,Value.cells,placeCells,intCells,keyLits_i64 m _ w1,keyLits_i64 m _ w2,keyLits_i64 m _ w3]
def klIn (P:Program)(p:Pl):Lit:=(keyOf P 126 (plV p)).getD (.bool false)
theorem kl_key {p:Pl}(h:PlOk p):keyOf Tryz.prog 126 (plV p)=some (klIn Tryz.prog p):=by
 obtain⟨l,hl⟩:=place_key p h
 unfold klIn;rw [hl];rfl
theorem kl_inj {p q:Pl}(h:PlOk p)(h':PlOk q)(e:klIn Tryz.prog p=klIn Tryz.prog q):p=q:=by
 have h1:=kl_key h
 have h2:=kl_key h'
 rw [← e] at h2
 have:=placeLaw.inj h1 h2
 obtain⟨a,b,c⟩:=p
 obtain⟨a',b',c'⟩:=q
 simp only [plV,Value.agg.injEq,Array.mk.injEq,List.cons.injEq,Value.int.injEq,true_and,and_true] at this
 obtain⟨rfl,rfl,rfl⟩:=this
 rfl
def heldR (v:Value):Option (DataW Value×List MemPlace):=some (.held v,[])
abbrev Ks:=List (Pl×Nat)
def Ks.get (l:Ks)(p:Pl):Option Nat:=match l.find? (fun x=>decide (x.1=p)) with
 | some x=>some x.2
 | none=>none
def optV:Option Nat→Value
 | some b=>ptrV b
 | none=> .pointer none
def MapIs (w:World)(hb:Nat)(l:Ks):Prop :=
 ∃ D:DataW Value,w.ownsMap Tryz.prog 126 heldR hb l.length D∧Maps.size D=l.length∧(l.map (·.1)).Nodup ∧
  ∀ p,PlOk p→Maps.has D (klIn Tryz.prog p)=(l.get p).isSome∧D.atKey (klIn Tryz.prog p) (.held (.pointer none))= .held (optV (l.get p))
theorem MapIs.lt {w:World}{hb:Nat}{l:Ks}(h:MapIs w hb l):hb < w.heap.size:=by
 obtain⟨D,h,-⟩:=h
 exact h.lt
theorem MapIs.isMap {w:World}{hb:Nat}{l:Ks}(h:MapIs w hb l):∃ es c,w.heap[hb]?=some (.map es c):=by
 obtain⟨D,⟨es,c,e,-⟩,-⟩:=h
 exact⟨es,c,e⟩
theorem MapIs.same {w w':World}{hb:Nat}{l:Ks}(h:MapIs w hb l)(e:w'.heap[hb]?=w.heap[hb]?):MapIs w' hb l:=by
 obtain⟨D,⟨es,c,e1,r1⟩,r2⟩:=h
 exact⟨D,⟨es,c,e.trans e1,r1⟩,r2⟩
theorem owns_tight {w:World}{b n:Nat}{D:DataW Value}(h:w.ownsMap Tryz.prog 126 heldR b n D):w.ownsMap Tryz.prog 126 heldR b (Maps.size D) D:=by
 obtain⟨es,c,hb,F,hs,rfl⟩:=h
 refine⟨es,c,hb,F,?_,rfl⟩
 show es.size≤((es.toList.map _).foldr DataW.insert []).length
 rw [length_sorted];simp
theorem ks_get_append {l:Ks}{p q:Pl}{b:Nat}(h:l.get p=none):Ks.get (l++[(p,b)]) q=if q=p then some b else l.get q:=by
 unfold Ks.get at *
 rw [List.find?_append]
 by_cases e:q=p
 ·subst e
  cases hf:l.find? (fun x=>decide (x.1=q)) with
  | some x=>rw [hf] at h;simp at h
  | none=>simp
 ·rw [if_neg e]
  cases hf:l.find? (fun x=>decide (x.1=q)) with
  | some x=>simp
  | none =>
   have:¬ p=q:=fun h=>e h.symm
   simp [this]
def Ks.drop (l:Ks)(p:Pl):Ks:=l.filter fun x=>!decide (x.1=p)
theorem ks_get_drop {l:Ks}{p q:Pl}:Ks.get (l.drop p) q=if q=p then none else l.get q:=by
 unfold Ks.get Ks.drop
 rw [List.find?_filter]
 by_cases e:q=p
 ·subst e
  rw [if_pos rfl]
  have:l.find? (fun a=>decide ((!decide (a.1=q))=true∧decide (a.1=q)=true))=none:=by
   rw [List.find?_eq_none];intro x _;simp
  rw [this]
 ·rw [if_neg e]
  have:(fun a:Pl×Nat=>decide ((!decide (a.1=p))=true∧decide (a.1=q)=true))=fun a=>decide (a.1=q):=by
   funext a
   by_cases h:a.1=q
   ·have:¬ a.1=p:=fun h'=>e (h▸h')
    simp [h,e]
   ·simp [h]
  rw [this]
theorem ks_none {l:Ks}{p:Pl}(h:l.get p=none):∀ x∈l,x.1≠p:=by
 unfold Ks.get at h
 cases e:l.find? (fun x=>decide (x.1=p)) with
 | some x=>rw [e] at h;simp at h
 | none =>
  intro x hx
  simpa using List.find?_eq_none.1 e x hx
theorem ks_split {l:Ks}{p:Pl}{b:Nat}(hn:(l.map (·.1)).Nodup)(h:l.get p=some b):∃ l1 l2,l=l1++(p,b)::l2∧l.drop p=l1++l2:=by
 unfold Ks.get at h
 cases e:l.find? (fun x=>decide (x.1=p)) with
 | none=>rw [e] at h;simp at h
 | some x =>
  rw [e] at h
  simp only [Option.some.injEq] at h
  have h1:=List.find?_some e
  simp only [decide_eq_true_eq] at h1
  obtain⟨l1,l2,rfl⟩:=List.append_of_mem (List.mem_of_find?_eq_some e)
  obtain⟨k,v⟩:=x
  simp only at h h1
  subst h;subst h1
  refine⟨l1,l2,rfl,?_⟩
  rw [List.map_append,List.nodup_append] at hn
  obtain⟨-,hn2,hn3⟩:=hn
  rw [List.map_cons,List.nodup_cons] at hn2
  unfold Ks.drop
  rw [List.filter_append,List.filter_cons]
  have a1:l1.filter (fun y=>!decide (y.1=k))=l1:=by
   rw [List.filter_eq_self]
   intro y hy
   simpa using hn3 y.1 (List.mem_map.2 ⟨y,hy,rfl⟩) k (by simp)
  have a2:l2.filter (fun y=>!decide (y.1=k))=l2:=by
   rw [List.filter_eq_self]
   intro y hy
   have:y.1≠k:=fun e'=>hn2.1 (e'▸List.mem_map.2 ⟨y,hy,rfl⟩)
   simpa using this
  rw [a1,a2];simp
theorem MapIs.look {w:World}{hb:Nat}{l:Ks}(h:MapIs w hb l){t e:TypeId}(ht:Tryz.prog.underlying t=some (.map 126 e))(hz:∀ w,(zeroValue e).run Tryz.prog w= .ok (.pointer none) w){p:Pl}(hp:PlOk p):
  (Instr.lookup t (.map (some hb)) (plV p) true).run Tryz.prog w= .ok (.tuple #[optV (l.get p),.bool (l.get p).isSome]) w:=by
 obtain⟨D,h1,-,-,h4⟩:=h
 obtain⟨a,b⟩:=h4 p hp
 obtain⟨v,ps,hrun,hv⟩:=h1.look_ok placeLaw ht (hz w) (zd:= .held (.pointer none)) (zp:=[]) rfl (kl_key hp)
 rw [b] at hv
 simp only [heldR,Option.some.injEq,Prod.mk.injEq,DataW.held.injEq] at hv
 rw [hrun,a,hv.1]
theorem MapIs.put {w:World}{hb:Nat}{l:Ks}(h:MapIs w hb l){t e:TypeId}(ht:Tryz.prog.underlying t=some (.map 126 e)){p:Pl}(hp:PlOk p)(hn:l.length < maxLen)(hno:l.get p=none)(b:Nat):
  ∃ w',(Instr.mapUpdate t (.map (some hb)) (plV p) (ptrV b)).run Tryz.prog w= .ok () w'∧MapIs w' hb (l++[(p,b)])∧w.grownBy w' (some hb):=by
 obtain⟨D,h1,h2,h3,h4⟩:=h
 obtain⟨w',hrun,ho,hg⟩:=h1.update placeLaw ht hn (kl_key hp) (show heldR (ptrV b)=some (.held (ptrV b),[]) from rfl)
 have hl:WideAt.IsKeyLit (klIn Tryz.prog p):=placeLaw.key (kl_key hp)
 have hnot:Maps.has D (klIn Tryz.prog p)=false:=by rw [(h4 p hp).1,hno];rfl
 have hsz:Maps.size (D.put (klIn Tryz.prog p) (.held (ptrV b)))=l.length+1:=by
  rw [Maps.size_put (h1.tidy placeLaw),hnot,h2];rfl
 refine⟨w',hrun,⟨D.put (klIn Tryz.prog p) (.held (ptrV b)),?_,?_,?_,?_⟩,hg⟩
 ·have:=owns_tight ho
  rw [hsz] at this
  simpa using this
 ·rw [hsz];simp
 ·rw [List.map_append,List.nodup_append]
  refine⟨h3,by simp,?_⟩
  intro a ha c hc
  simp only [List.map_cons,List.map_nil,List.mem_singleton] at hc
  subst hc
  obtain⟨x,hx,rfl⟩:=List.mem_map.1 ha
  exact ks_none hno x hx
 ·intro q hq
  rw [ks_get_append hno]
  by_cases eq:q=p
  ·subst eq
   rw [if_pos rfl,Maps.has_put_same h1.isMap hl,Maps.atKey_put_same h1.isMap hl]
   exact⟨rfl,rfl⟩
  ·have:klIn Tryz.prog q≠klIn Tryz.prog p:=fun e=>eq (kl_inj hq hp e)
   rw [if_neg eq,Maps.has_put_other this,Maps.atKey_put_other this]
   exact h4 q hq
theorem MapIs.del {w:World}{hb:Nat}{l:Ks}(h:MapIs w hb l){t e:TypeId}(ht:Tryz.prog.underlying t=some (.map 126 e)){p:Pl}(hp:PlOk p){b:Nat}(hin:l.get p=some b)(ty:TypeId):
  ∃ w',(Builtin.delete_ #[t,126] ty #[.map (some hb),plV p]).run Tryz.prog w= .ok (.tuple #[]) w'∧MapIs w' hb (l.drop p)∧w.grownBy w' (some hb):=by
 obtain⟨D,h1,h2,h3,h4⟩:=h
 obtain⟨w',hrun,ho,hg⟩:=h1.drop placeLaw ht (kl_key hp) ty
 have hyes:Maps.has D (klIn Tryz.prog p)=true:=by rw [(h4 p hp).1,hin];rfl
 have hlen:(l.drop p).length+1=l.length:=by
  obtain⟨l1,l2,e1,e2⟩:=ks_split h3 hin
  rw [e2,e1];simp;omega
 have hsz:Maps.size (D.del (klIn Tryz.prog p))=(l.drop p).length:=by
  have:=Maps.size_del (k:=klIn Tryz.prog p) (h1.tidy placeLaw)
  rw [hyes,h2] at this
  simp at this
  omega
 refine⟨w',hrun,⟨D.del (klIn Tryz.prog p),?_,hsz,?_,?_⟩,hg.grown⟩
 ·have:=owns_tight ho
  rw [hsz] at this
  exact this
 ·unfold Ks.drop
  exact(List.filter_sublist.map _).nodup h3
 ·intro q hq
  rw [ks_get_drop]
  by_cases eq:q=p
  ·subst eq
   rw [if_pos rfl,Maps.has_del_same,Maps.atKey_del_same]
   exact⟨rfl,rfl⟩
  ·have:klIn Tryz.prog q≠klIn Tryz.prog p:=fun e=>eq (kl_inj hq hp e)
   rw [if_neg eq,Maps.has_del_other this,Maps.atKey_del_other this]
   exact h4 q hq
theorem MapIs.len {w:World}{hb:Nat}{l:Ks}(h:MapIs w hb l){t e:TypeId}(ht:Tryz.prog.underlying t=some (.map 126 e))(ty:TypeId):
  (Builtin.len_ #[t] ty #[.map (some hb)]).run Tryz.prog w= .ok (.int .i64 (l.length:Int)) w:=by
 obtain⟨D,h1,h2,-⟩:=h
 rw [h1.len ht ty,h2]
theorem mapIs_empty {w:World}{hb:Nat}{c:Nat}(h:w.heap[hb]?=some (.map #[] c)):MapIs w hb []:=by
 refine⟨.map [],⟨#[],c,h,⟨by simp,stamped_empty c,by simp⟩,Nat.le_refl _,rfl⟩,rfl,by simp,fun p _=>⟨rfl,rfl⟩⟩
theorem MapIs.clear {w:World}{hb:Nat}{l:Ks}(h:MapIs w hb l){t e:TypeId}(ht:Tryz.prog.underlying t=some (.map 126 e))(ty:TypeId):
  ∃ w',(Builtin.clear_ #[t] ty #[.map (some hb)]).run Tryz.prog w= .ok (.tuple #[]) w'∧MapIs w' hb []∧w.grownBy w' (some hb):=by
 obtain⟨es,c,hm⟩:=h.isMap
 refine⟨setBlock w hb (.map #[] c),?_,mapIs_empty (c:=c) (heap_setBlock_same hm _),⟨rfl,rfl,rfl,by simp [setBlock],fun i _ hi=>heap_setBlock_other hm _ (fun e=>hi (by rw [e]))⟩⟩
 simp [Builtin.clear_,run_underlying ht,MapKept.run_getObj_map hm,MapKept.run_setObj_map _ hm,Result.andThen,setBlock]
end
end Go.Proofs.YtinhekmmdlhfkaaGreatDoor
