import Derived.Test.YtndkblnpbjffhaaGreatDoorG10
import Derived.Lib.TrailingZeros
import Derived.DeepKeys4
set_option maxHeartbeats 4000000
set_option maxRecDepth 100000
open Go.RowKit Go.Maps Go.MapKept Go.ChangeMaps
namespace Go.Proofs.YtndkblnpbjffhaaGreatDoor
section
abbrev Pl:=Int×Int×Int
structure Pc where
 there:Bool
 fits:Bool
 hash:List UInt8
 entry:List UInt8
def xf:List UInt8:=[0,0,0,0,0,0,0,0]
def Pc.no:Pc:=⟨false,false,xf,[]⟩
abbrev Fl:=List Pc
def Fl.no:Fl:=[.no,.no,.no,.no]
abbrev Mm:=List (Pl×Fl)
def Mm.get (m:Mm)(k:Pl):Option Fl:=match m.find? (fun x=>decide (x.1=k)) with
 | some x=>some x.2
 | none=>none
def Mm.drop (m:Mm)(k:Pl):Mm:=m.filter fun x=>!decide (x.1=k)
def Mm.put (room:Int)(m:Mm)(k:Pl)(f:Fl):Mm:=if room < ((m.drop k++[(k,f)]).length:Int) then (m.drop k++[(k,f)]).tail else m.drop k++[(k,f)]
def Mm.set (m:Mm)(k:Pl)(f:Fl):Mm:=m.map fun x=>if x.1=k then (k,f) else x
def Mm.ok (m:Mm):Prop:=(m.map (·.1)).Nodup
def lvl (n:Nat):Nat:=Lib.ctz 64 n / 2
def zj (size:Nat)(l:Int)(j:Nat):Pl:=(l,((j / 4:Nat):Int),min ((yd l size:Int) - ((j / 4:Nat):Int)*4) 4)
def zf9 (w:Nat)(d:List UInt8):Fl:=(List.range 4).map fun k=>if k < w then ⟨true,false,(d.drop (8*k)).take 8,[]⟩ else .no
def zie (es:List (List UInt8)):Fl:=(List.range 4).map fun k=>if k < es.length then ⟨true,false,jc (es.getD k []),es.getD k []⟩ else .no
def zck (l w:Int)(d:List UInt8):Option Fl :=
 if l=-1 then (match zfb d with
  | some es=>if (es.length:Int)=w then some (zie es) else none
  | none=>none)
 else if (d.length:Int)=w*8 then some (zf9 w.toNat d) else none
def zg1 (w:Int)(f:Fl):Fl:=f.take w.toNat++List.replicate (4 - w.toNat) .no
def zda (f h:Fl):Fl:=List.zipWith (fun a b=>if a.fits then a else b) f h
def zdx (f:Fl):Fl:=f.map fun p=>if p.fits then p else .no
def zib (f:Fl):Option (List UInt8):=match f with
 | [a,b,c,d]=>if a.fits&&b.fits&&c.fits&&d.fits then some (yz (yz a.hash b.hash) (yz c.hash d.hash)) else none
 | _=>none
def zee (p:Pl):List UInt8:=qi p.1 p.2.1 p.2.2
section
variable {σ : Type} (fe : σ → List UInt8 → (List UInt8 × Bool) × σ)
def xm (s:σ)(p:Pl):Option Fl×σ:=(if (fe s (zee p)).1.2 then zck p.1 p.2.2 (fe s (zee p)).1.1 else none,(fe s (zee p)).2)
def jw (s:σ)(p:Pl):Option Fl×σ:=match xm fe s p with
 | (some f,s1)=>(some f,s1)
 | (none,s1)=>if p.2.2=4 then (none,s1) else match xm fe s1 (p.1,p.2.1,4) with
  | (some f,s2)=>(some (zg1 p.2.2 f),s2)
  | (none,s2)=>(none,s2)
structure Ms (σ:Type) where
 net:σ
 needed:Mm
def yu (proved needed:Mm)(p:Pl):Fl:=match needed.get p with
 | some f=>f
 | none=>match proved.get p with
  | some f=>f
  | none=> .no
def jl (f:Fl)(k:Nat):Fl:=f.modify k fun p=>{ p with fits:=true }
def qu (proved:Mm)(size:Nat)(m:Ms σ)(l:Int)(j:Nat):Sum (List UInt8) Pc×Ms σ :=
 if ((yu proved m.needed (zj size l j)).getD (j % 4) .no).there then
  (.inr ((jl (yu proved m.needed (zj size l j)) (j % 4)).getD (j % 4) .no),
   { m with needed:=m.needed.drop (zj size l j)++[(zj size l j,jl (yu proved m.needed (zj size l j)) (j % 4))] })
 else match jw fe m.net (zj size l j) with
  | (none,s)=>(.inl (zee (zj size l j)),{ m with net:=s })
  | (some came,s)=>(.inr ((jl (zda (yu proved m.needed (zj size l j)) came) (j % 4)).getD (j % 4) .no),
   { net:=s,needed:=m.needed.drop (zj size l j)++[(zj size l j,jl (zda (yu proved m.needed (zj size l j)) came) (j % 4))] })
def xn (proved:Mm)(size:Nat):Nat→Ms σ→Nat→Nat→Sum (List UInt8) (List UInt8)×Ms σ
 | 0,m,_,_=>(.inr xf,m)
 | f+1,m,a,n =>
  if n / 4 ^ lvl n=1 then (match qu fe proved size m (lvl n:Nat) (a / 4 ^ lvl n) with
   | (.inl e,m1)=>(.inl e,m1)
   | (.inr p,m1)=>(.inr p.hash,m1))
  else match xn proved size f m a (kOf n) with
   | (.inl e,m1)=>(.inl e,m1)
   | (.inr x,m1)=>match xn proved size f m1 (a+kOf n) (n - kOf n) with
    | (.inl e,m2)=>(.inl e,m2)
    | (.inr y,m2)=>(.inr (yz x y),m2)
def yh (proved:Mm)(size:Nat)(m:Ms σ):List (Nat×Nat)→Sum (List UInt8) (List (List UInt8))×Ms σ
 | []=>(.inr [],m)
 | s::r=>match xn fe proved size 64 m s.1 s.2 with
  | (.inl e,m1)=>(.inl e,m1)
  | (.inr x,m1)=>match yh proved size m1 r with
   | (.inl e,m2)=>(.inl e,m2)
   | (.inr xs,m2)=>(.inr (x::xs),m2)
end
def xg (size:Nat):Nat→Mm→Nat→Nat→List UInt8→Mm
 | 0,nd,_,_,_=>nd
 | f+1,nd,l,j,h=>match nd.get (zj size l j) with
  | none=>nd
  | some fl=>match zib (fl.set (j % 4) ⟨true,true,h,[]⟩) with
   | some up=>xg size f (nd.set (zj size l j) (fl.set (j % 4) ⟨true,true,h,[]⟩)) (l+1) (j / 4) up
   | none=>nd.set (zj size l j) (fl.set (j % 4) ⟨true,true,h,[]⟩)
def zdu (b l:Fl):Fl:=List.zipWith (fun p q=>if p.there&&q.fits&&decide (p.hash=q.hash) then { p with fits:=true } else p) b l
def xt (size:Nat)(r:Mm)(i:Nat)(h:List UInt8):Mm :=
 match (xg size 64 r 0 i h).get (zj size 0 i) with
 | none=>xg size 64 r 0 i h
 | some ls=>match (xg size 64 r 0 i h).get (zj size (-1) i) with
  | none=>xg size 64 r 0 i h
  | some b=>(xg size 64 r 0 i h).set (zj size (-1) i) (zdu b ls)
def zb8 (size:Nat)(h:Mm)(old:Nat)(root:List UInt8):Mm :=
 match h.get (zj size (lvl old:Nat) (old / 4 ^ lvl old - 1)) with
 | none=>h
 | some fl =>
  if old / 4 ^ lvl old - 1=0 then xg size 64 h (lvl old) 0 root
  else if old / 4 ^ lvl old - 1=1 then
   (if yz (fl.getD 0 .no).hash (fl.getD 1 .no).hash=root then xg size 64 (h.set (zj size (lvl old:Nat) 1) (jl fl 0)) (lvl old) 1 (fl.getD 1 .no).hash else h)
  else xg size 64 h (lvl old) (old / 4 ^ lvl old - 1) (fl.getD ((old / 4 ^ lvl old - 1) % 4) .no).hash
def zx (room:Int)(proved h:Mm):Mm:=h.foldl (fun r x=>r.put room x.1 (zdx x.2)) proved
end
def plV (p:Pl):Value:= .agg #[.int .i64 p.1,.int .i64 p.2.1,.int .i64 p.2.2]
def z4f (x:Int):Prop:=-9223372036854775808≤x∧x≤9223372036854775807
def zct (p:Pl):Prop:=z4f p.1∧z4f p.2.1∧z4f p.2.2
def zo (b:Nat):Value:= .pointer (some ⟨b,0,none⟩)
theorem z7k:laidOutB Tryz.prog=true:=by kernel_rfl
theorem zuq:(99:TypeId) < Tryz.prog.types.size:=of_decide_eq_true (by kernel_rfl)
theorem z2e:Tryz.prog.keyType 99=true:=by kernel_rfl
theorem zz8:(match Tryz.prog.underlying 99 with | some (.array _ _) | some (.struct _)=>true | _=>false)=true:=by rw [Tryz.underlying99]
theorem zea:Keyed Tryz.prog 99:=Keyed.of_law (deep_law_laid z7k (m:=2) (by omega) zuq (by kernel_rfl) zz8)
theorem znv:Tryz.prog.cellsOf 99=3:=by kernel_rfl
theorem z5z:Tryz.prog.cellsOf 3=1:=by kernel_rfl
theorem zsv (p:Pl):(plV p).formed Tryz.prog 99=true:=by simp [plV,Value.formed,Tryz.underlying99,znv]
theorem zhn (d:Nat)(n:Int)(h:(Lit.int .i64 n).wf=true):Tryz.prog.keyLits (d+1) 3 [.int .i64 n]=some [.int .i64 n]:=by
 unfold Program.keyLits;rw [Tryz.underlying3];simp [h]
theorem z0d (p:Pl)(h:zct p):∃ l,keyOf Tryz.prog 99 (plV p)=some l:=by
 obtain⟨h1,h2,r⟩:=h;have A:(Lit.int .i64 p.1).wf=true:=WalkArith.wf_i64 h1;have D:(Lit.int .i64 p.2.1).wf=true:=WalkArith.wf_i64 h2;have E:(Lit.int .i64 p.2.2).wf=true:=WalkArith.wf_i64 r;obtain⟨m,hm⟩:∃ m,Tryz.prog.types.size=m+1:=⟨_,(Nat.succ_pred_eq_of_pos (Nat.lt_of_le_of_lt (Nat.zero_le _) zuq)).symm⟩
 unfold keyOf;rw [Tryz.underlying99];simp only [z2e,zsv,Bool.and_self,if_true];rw [hm];unfold Program.keyLits;rw [Tryz.underlying99];simp [plV,Value.cells,znv,z5z,zhn m _ A,zhn m _ D,zhn m _ E]
def zgm (P:Program)(p:Pl):Lit:=(keyOf P 99 (plV p)).getD (.bool false)
theorem zkp {p:Pl}(h:zct p):keyOf Tryz.prog 99 (plV p)=some (zgm Tryz.prog p):=by
 obtain⟨l,r⟩:=z0d p h;unfold zgm;rw [r];rfl
theorem z49 {p q:Pl}(h:zct p)(r:zct q)(e:zgm Tryz.prog p=zgm Tryz.prog q):p=q:=by
 have h1:=zkp h;have h2:=zkp r;rw [← e] at h2;have:=zea.inj h1 h2;obtain⟨a,b,c⟩:=p;obtain⟨A,D,c'⟩:=q;simp only [plV,Value.agg.injEq,Array.mk.injEq,List.cons.injEq,Value.int.injEq,true_and,and_true] at this;obtain⟨rfl,rfl,rfl⟩:=this;rfl
def zu3 (v:Value):Option (DataW Value×List MemPlace):=some (.held v,[])
abbrev Ks:=List (Pl×Nat)
def Ks.get (l:Ks)(p:Pl):Option Nat:=match l.find? (fun x=>decide (x.1=p)) with
 | some x=>some x.2
 | none=>none
def zom:Option Nat→Value
 | some b=>zo b
 | none=> .pointer none
def jq (w:World)(h:Nat)(l:Ks):Prop :=
 ∃ D:DataW Value,w.ownsMap Tryz.prog 99 zu3 h l.length D∧Maps.size D=l.length∧(l.map (·.1)).Nodup ∧
  ∀ p,zct p→Maps.has D (zgm Tryz.prog p)=(l.get p).isSome∧D.atKey (zgm Tryz.prog p) (.held (.pointer none))= .held (zom (l.get p))
theorem jq.lt {w:World}{r:Nat}{l:Ks}(h:jq w r l):r < w.heap.size:=by
 obtain⟨D,h,-⟩:=h;exact h.lt
theorem jq.isMap {w:World}{r:Nat}{l:Ks}(h:jq w r l):∃ es c,w.heap[r]?=some (.map es c):=by
 obtain⟨D,⟨es,c,e,-⟩,-⟩:=h;exact⟨es,c,e⟩
theorem jq.same {w w':World}{r:Nat}{l:Ks}(h:jq w r l)(e:w'.heap[r]?=w.heap[r]?):jq w' r l:=by
 obtain⟨D,⟨es,c,A,E⟩,H⟩:=h;exact⟨D,⟨es,c,e.trans A,E⟩,H⟩
theorem zmn {w:World}{b n:Nat}{D:DataW Value}(h:w.ownsMap Tryz.prog 99 zu3 b n D):w.ownsMap Tryz.prog 99 zu3 b (Maps.size D) D:=by
 obtain⟨es,c,r,F,A,rfl⟩:=h;refine⟨es,c,r,F,?_,rfl⟩;show es.size≤((es.toList.map _).foldr DataW.insert []).length;rw [length_sorted];simp
theorem zob {l:Ks}{p q:Pl}{b:Nat}(h:l.get p=none):Ks.get (l++[(p,b)]) q=if q=p then some b else l.get q:=by
 unfold Ks.get at *
 rw [List.find?_append];by_cases e:q=p
 ·subst e;cases hf:l.find? (fun x=>decide (x.1=q)) with
  | some x=>rw [hf] at h;simp at h
  | none=>simp
 ·rw [if_neg e];cases hf:l.find? (fun x=>decide (x.1=q)) with
  | some x=>simp
  | none =>
   have:¬ p=q:=fun h=>e h.symm;simp [this]
def Ks.drop (l:Ks)(p:Pl):Ks:=l.filter fun x=>!decide (x.1=p)
theorem zsh {l:Ks}{p q:Pl}:Ks.get (l.drop p) q=if q=p then none else l.get q:=by
 unfold Ks.get Ks.drop;rw [List.find?_filter];by_cases e:q=p
 ·subst e;rw [if_pos rfl];have:l.find? (fun a=>decide ((!decide (a.1=q))=true∧decide (a.1=q)=true))=none:=by
   rw [List.find?_eq_none];intro x _;simp
  rw [this]
 ·rw [if_neg e];have:(fun a:Pl×Nat=>decide ((!decide (a.1=p))=true∧decide (a.1=q)=true))=fun a=>decide (a.1=q):=by
   funext a
   by_cases h:a.1=q
   ·have:¬ a.1=p:=fun r=>e (h▸r);simp [h,e]
   ·simp [h]
  rw [this]
theorem z8i {l:Ks}{p:Pl}(h:l.get p=none):∀ x∈l,x.1≠p:=by
 unfold Ks.get at h;cases e:l.find? (fun x=>decide (x.1=p)) with
 | some x=>rw [e] at h;simp at h
 | none =>
  intro x r;simpa using List.find?_eq_none.1 e x r
theorem z4i {l:Ks}{p:Pl}{b:Nat}(I:(l.map (·.1)).Nodup)(h:l.get p=some b):∃ r A,l=r++(p,b)::A∧l.drop p=r++A:=by
 unfold Ks.get at h;cases e:l.find? (fun x=>decide (x.1=p)) with
 | none=>rw [e] at h;simp at h
 | some x =>
  rw [e] at h;simp only [Option.some.injEq] at h;have h1:=List.find?_some e;simp only [decide_eq_true_eq] at h1;obtain⟨r,A,rfl⟩:=List.append_of_mem (List.mem_of_find?_eq_some e);obtain⟨k,v⟩:=x;simp only at h h1;subst h;subst h1;refine⟨r,A,rfl,?_⟩;rw [List.map_append,List.nodup_append] at I;obtain⟨-,D,E⟩:=I;rw [List.map_cons,List.nodup_cons] at D;unfold Ks.drop;rw [List.filter_append,List.filter_cons];have J:r.filter (fun y=>!decide (y.1=k))=r:=by
   rw [List.filter_eq_self];intro y H;simpa using E y.1 (List.mem_map.2 ⟨y,H,rfl⟩) k (by simp)
  have K:A.filter (fun y=>!decide (y.1=k))=A:=by
   rw [List.filter_eq_self];intro y H;have:y.1≠k:=fun L=>D.1 (L▸List.mem_map.2 ⟨y,H,rfl⟩);simpa using this
  rw [J,K];simp
theorem jq.look {w:World}{A:Nat}{l:Ks}(h:jq w A l){t e:TypeId}(I:Tryz.prog.underlying t=some (.map 99 e))(J:∀ w,(zeroValue e).run Tryz.prog w= .ok (.pointer none) w){p:Pl}(E:zct p):
  (Instr.lookup t (.map (some A)) (plV p) true).run Tryz.prog w= .ok (.tuple #[zom (l.get p),.bool (l.get p).isSome]) w:=by
 obtain⟨D,h1,-,-,H⟩:=h;obtain⟨a,b⟩:=H p E;obtain⟨v,K,r,hv⟩:=h1.look_ok zea I (J w) (zd:= .held (.pointer none)) (zp:=[]) rfl (zkp E);rw [b] at hv;simp only [zu3,Option.some.injEq,Prod.mk.injEq,DataW.held.injEq] at hv;rw [r,a,hv.1]
theorem jq.put {w:World}{E:Nat}{l:Ks}(h:jq w E l){t e:TypeId}(Z:Tryz.prog.underlying t=some (.map 99 e)){p:Pl}(H:zct p)(X:l.length < maxLen)(r:l.get p=none)(b:Nat):
  ∃ w',(Instr.mapUpdate t (.map (some E)) (plV p) (zo b)).run Tryz.prog w= .ok () w'∧jq w' E (l++[(p,b)])∧w.grownBy w' (some E):=by
 obtain⟨D,h1,h2,U,L⟩:=h;obtain⟨w',K,Y,W⟩:=h1.update zea Z X (zkp H) (show zu3 (zo b)=some (.held (zo b),[]) from rfl);have R:WideAt.IsKeyLit (zgm Tryz.prog p):=zea.key (zkp H);have J:Maps.has D (zgm Tryz.prog p)=false:=by rw [(L p H).1,r];rfl
 have A:Maps.size (D.put (zgm Tryz.prog p) (.held (zo b)))=l.length+1:=by
  rw [Maps.size_put (h1.tidy zea),J,h2];rfl
 refine⟨w',K,⟨D.put (zgm Tryz.prog p) (.held (zo b)),?_,?_,?_,?_⟩,W⟩
 ·have:=zmn Y;rw [A] at this;simpa using this
 ·rw [A];simp
 ·rw [List.map_append,List.nodup_append];refine⟨U,by simp,?_⟩;intro a V c Q;simp only [List.map_cons,List.map_nil,List.mem_singleton] at Q;subst Q;obtain⟨x,hx,rfl⟩:=List.mem_map.1 V;exact z8i r x hx
 ·intro q S;rw [zob r];by_cases I:q=p
  ·subst I;rw [if_pos rfl,Maps.has_put_same h1.isMap R,Maps.atKey_put_same h1.isMap R];exact⟨rfl,rfl⟩
  ·have:zgm Tryz.prog q≠zgm Tryz.prog p:=fun e=>I (z49 S H e);rw [if_neg I,Maps.has_put_other this,Maps.atKey_put_other this];exact L q S
theorem jq.del {w:World}{E:Nat}{l:Ks}(h:jq w E l){t e:TypeId}(Z:Tryz.prog.underlying t=some (.map 99 e)){p:Pl}(I:zct p){b:Nat}(r:l.get p=some b)(S:TypeId):
  ∃ w',(Builtin.delete_ #[t,99] S #[.map (some E),plV p]).run Tryz.prog w= .ok (.tuple #[]) w'∧jq w' E (l.drop p)∧w.grownBy w' (some E):=by
 obtain⟨D,h1,h2,L,Q⟩:=h;obtain⟨w',J,Y,W⟩:=h1.drop zea Z (zkp I) S;have K:Maps.has D (zgm Tryz.prog p)=true:=by rw [(Q p I).1,r];rfl
 have X:(l.drop p).length+1=l.length:=by
  obtain⟨l1,l2,U,V⟩:=z4i L r;rw [V,U];simp;omega
 have A:Maps.size (D.del (zgm Tryz.prog p))=(l.drop p).length:=by
  have:=Maps.size_del (k:=zgm Tryz.prog p) (h1.tidy zea);rw [K,h2] at this;simp at this;omega
 refine⟨w',J,⟨D.del (zgm Tryz.prog p),?_,A,?_,?_⟩,W.grown⟩
 ·have:=zmn Y;rw [A] at this;exact this
 ·unfold Ks.drop;exact(List.filter_sublist.map _).nodup L
 ·intro q R;rw [zsh];by_cases H:q=p
  ·subst H;rw [if_pos rfl,Maps.has_del_same,Maps.atKey_del_same];exact⟨rfl,rfl⟩
  ·have:zgm Tryz.prog q≠zgm Tryz.prog p:=fun e=>H (z49 R I e);rw [if_neg H,Maps.has_del_other this,Maps.atKey_del_other this];exact Q q R
theorem jq.len {w:World}{r:Nat}{l:Ks}(h:jq w r l){t e:TypeId}(E:Tryz.prog.underlying t=some (.map 99 e))(A:TypeId):
  (Builtin.len_ #[t] A #[.map (some r)]).run Tryz.prog w= .ok (.int .i64 (l.length:Int)) w:=by
 obtain⟨D,h1,h2,-⟩:=h;rw [h1.len E A,h2]
theorem zhp {w:World}{r:Nat}{c:Nat}(h:w.heap[r]?=some (.map #[] c)):jq w r []:=by
 refine⟨.map [],⟨#[],c,h,⟨by simp,stamped_empty c,by simp⟩,Nat.le_refl _,rfl⟩,rfl,by simp,fun p _=>⟨rfl,rfl⟩⟩
theorem jq.clear {w:World}{r:Nat}{l:Ks}(h:jq w r l){t e:TypeId}(D:Tryz.prog.underlying t=some (.map 99 e))(E:TypeId):
  ∃ w',(Builtin.clear_ #[t] E #[.map (some r)]).run Tryz.prog w= .ok (.tuple #[]) w'∧jq w' r []∧w.grownBy w' (some r):=by
 obtain⟨es,c,hm⟩:=h.isMap;refine⟨setBlock w r (.map #[] c),?_,zhp (c:=c) (heap_setBlock_same hm _),⟨rfl,rfl,rfl,by simp [setBlock],fun i _ A=>heap_setBlock_other hm _ (fun e=>A (by rw [e]))⟩⟩;simp [Builtin.clear_,run_underlying D,MapKept.run_getObj_map hm,MapKept.run_setObj_map _ hm,Result.andThen,setBlock]
theorem zlg (p q:Addr)(w:World):
  CallsD Tryz.prog 88 #[.pointer (some p),.pointer (some q)] .returning w fun e h w'=>e= .returned (.tuple #[])∧h= .returning∧w'=w:=by
 refine callsD_of_wpS Tryz.func88 rfl fun c₀ cs hu=>?_;apply wpS_seq;apply wpS_region;simp [wpOpsS,go_sem,recoverD,hu,Tryz.ntmps88,Exit.thenS];refine wpS_cond (t:=false) (by simp [Act.eval,Array.replicate]) ?_;simp only [Bool.false_eq_true,if_false];refine wpS_of_wp (wp_skip ?_);cases c₀
 simp_all [bodyPostS,results,Tryz.results88]
theorem zxo (n:Nat)(v:Value)(w:World):(Go.method (n+1) 34 v "Fetch").run Tryz.prog w= .ok (258,v) w:=by kernel_rfl
theorem zgo.turn {w w':World}{O:Nat→Prop}{T:List Nat}{v:Value}{x:Option (List UInt8)}(h:zgo w v x)(D:zg O T w w')(r:5∉T):zgo w' v x:=by
 rcases h with ⟨d,rfl,A⟩ | ⟨rfl,rfl⟩
 ·exact .inl ⟨d,rfl,A.turn D r⟩
 ·exact .inr ⟨rfl,rfl⟩
theorem zp4 {h:World}{s:Nat}{v u:Value}{b:Bool}(r:h.heap[s]?=some (.cells #[u] 100 (0,0)))(E:h.heap[s+1]?=some (.cells #[.bool false] 4 (0,0))):
  ((h.setCell ⟨s,0,none⟩ v).setCell ⟨s,0,none⟩ v).cell? ⟨s,0,none⟩=some v∧(((h.setCell ⟨s,0,none⟩ v).setCell ⟨s,0,none⟩ v).setCell ⟨s+1,0,none⟩ (.bool b)).drew.cell? ⟨s+1,0,none⟩=some (.bool b) ∧
  zg (fun _=>True) [100,4] h (((h.setCell ⟨s,0,none⟩ v).setCell ⟨s,0,none⟩ v).setCell ⟨s+1,0,none⟩ (.bool b)).drew:=by
 have A:(h.setCell ⟨s,0,none⟩ v).heap[s]?=some (.cells #[v] 100 (0,0)):=by rw [qo r];rfl
 have I:((h.setCell ⟨s,0,none⟩ v).setCell ⟨s,0,none⟩ v).heap[s]?=some (.cells #[v] 100 (0,0)):=by rw [qo A];rfl
 have H:(h.setCell ⟨s,0,none⟩ v).heap[s+1]?=some (.cells #[.bool false] 4 (0,0)):=by rw [heap_setCell_other _ _ _ _ (show s+1≠s by omega)];exact E
 have D:((h.setCell ⟨s,0,none⟩ v).setCell ⟨s,0,none⟩ v).heap[s+1]?=some (.cells #[.bool false] 4 (0,0)):=by rw [heap_setCell_other _ _ _ _ (show s+1≠s by omega)];exact H
 have J:(((h.setCell ⟨s,0,none⟩ v).setCell ⟨s,0,none⟩ v).setCell ⟨s+1,0,none⟩ (.bool b)).heap[s+1]?=some (.cells #[.bool b] 4 (0,0)):=by rw [qo D];rfl
 exact⟨(zf I 0 _ rfl).1,(zf J 0 _ rfl).1,((((zg.refl _ _ h).set (.inl trivial) r (by simp) _).set (.inl trivial) A (by simp) _).set (.inl trivial) D (by simp) _).drew⟩
def znj (h:Nat):Value:= .iface 34 (.pointer (some ⟨h,0,none⟩))
theorem zn5 (O:Nat→Prop)(Q X cb:Nat)(n:Nt)(d:Dk)(p:List UInt8)(w:World)(hn:d.fs.length≤1000000000)(hl:∀ f∈d.fs,f.2.length≤1000000000)
  (hy:∀ l∈n.lies,l.data.length≤1000000000) (ad:n.lies.length≤0) (hf:0≤n.fetches∧n.fetches < 4611686018427387904) (L:∀ t∈n.told,0≤t∧t < 4611686018427387904)
  (hD:zq w O X d) (hN:vi w O Q X n) (hc:w.cell? ⟨cb,2,none⟩=some (znj Q)) :
  Calls Tryz.prog 50 #[zo cb,txv p] w fun r w'=>∃ v x,r= .returned (.tuple #[v,.bool (zu d.fs n p).1.2])∧zg O nT w w'∧vi w' O Q X (zu d.fs n p).2∧zgo w' v x∧x.getD []=(zu d.fs n p).1.1:=by
 have ah:∀(fn:Fn) (first D:Array Value) (w:World),(Instr.makeFunc fn first D).run Tryz.prog w= .ok (.func fn first D) w:=fun _ _ _ _=>rfl;have K:=zk hc;have hm:=zxo;have eg:∀ args w,(callFunc 258 args).run Tryz.prog w= .ok (.enter 258 args) w:=enters_of Tryz.func258 (by kernel_rfl) rfl;have aa:∀ o o',((w.alloc o).alloc o').cell? ⟨cb,2,none⟩=some (znj Q):=fun o o'=>by
  rw [zl _ _ ⟨_,2,none⟩ (Nat.lt_of_lt_of_le K (by simp)),zl _ _ ⟨_,2,none⟩ K];exact hc
 have HC:=za (zv3 O Q X n d p ((w.alloc (.cells #[.slice none 0 0] 100)).alloc (.cells #[.bool false] 4)) hn hl hy ad hf L (hD.stay (O1:=fun _=>False) (T:=[]) (.of_below (zz _ _ _)) (by simp) (by simp)) (hN.below (zz _ _ _)));have H0:Hid (((w.alloc (.cells #[.slice none 0 0] 100)).alloc (.cells #[.bool false] 4)).heap[w.heap.size]?=some (.cells #[.slice none 0 0] 100 (0,0))∧((w.alloc (.cells #[.slice none 0 0] 100)).alloc (.cells #[.bool false] 4)).heap[w.heap.size+1]?=some (.cells #[.bool false] 4 (0,0))∧zg O nT w ((w.alloc (.cells #[.slice none 0 0] 100)).alloc (.cells #[.bool false] 4))):=by
  refine⟨zc (heap_alloc_last _ _),?_,.of_below (zz _ _ _)⟩;rw [show w.heap.size+1=(w.alloc (.cells #[.slice none 0 0] 100)).heap.size by simp];exact heap_alloc_last _ _
 clear hD hN hl hy L hc;unfold znj at aa;unfold zo txv;unfold txv at HC;generalize zu d.fs n p=N at *
 obtain⟨⟨ag,ok⟩,n'⟩:=N;simp only at *
 go_enter_defers Tryz.func50,Tryz.ntmps50;go_wp2_with fail;refine HC.o.mono ?_;rintro r Z ⟨v,e,x,rfl,Y,J,hg,hx,he⟩;obtain⟨S,V,U,rfl⟩:∃ a l c,v= .slice a l c:=by
  rcases hg with ⟨d',-,g,D,C,fr,e',-⟩ | ⟨-,e'⟩
  ·exact⟨_,_,_,e'⟩
  ·exact⟨_,_,_,e'⟩
 have W:Z.heap[w.heap.size]?=some (.cells #[.slice none 0 0] 100 (0,0)):=Y.keep H0.o.1 (by decide);have b2:Z.heap[w.heap.size+1]?=some (.cells #[.bool false] 4 (0,0)):=Y.keep H0.o.2.1 (by decide);have c2:(Z.setCell ⟨w.heap.size,0,none⟩ (.slice S V U)).heap[w.heap.size]?=some (.cells #[.slice S V U] 100 (0,0)):=by rw [qo W];rfl
 have c3:(Z.setCell ⟨w.heap.size,0,none⟩ (.slice S V U)).heap[w.heap.size+1]?=some (.cells #[.bool false] 4 (0,0)):=by rw [heap_setCell_other _ _ _ _ (show w.heap.size+1≠w.heap.size by omega)];exact b2
 obtain⟨k0,z0⟩:=zf W 0 _ rfl;obtain⟨k1,z1⟩:=zf c2 0 _ rfl;obtain⟨k2,z2⟩:=zf c3 0 _ rfl;have n1:w.heap.size≠w.heap.size+1:=by omega
 have I:=za (H0.o.2.2.trans (Y.mono (fun _ h=> .inl h) (fun _ h=>h)));have H:=za J;have E:=za hg;have HX:=za hx;have HE:=za he;have A:=za (And.intro W b2);have af:=za (And.intro c2 c3);have ac:e= .nilIface∧ok=true∨ok=false∧∃ g,e=zb5 g:=by
  rcases he with ⟨h1,h2⟩ | ⟨h1,h2⟩
  ·exact .inl ⟨h2,h1⟩
  ·exact .inr ⟨h1,h2⟩
 clear Y J hg hx he W b2 c2 c3 HC;rcases ac with ⟨rfl,rfl⟩ | ⟨rfl,g',rfl⟩
 ·go_wp2_with fail;go_region;all_goals go_wp2_with fail
  all_goals refine leaves_cons (f:=88) (args:=#[.pointer (some ⟨w.heap.size,0,none⟩),.pointer (some ⟨w.heap.size+1,0,none⟩)]) (by simp) (by simp [go_sem]) ?_
  all_goals refine(zlg ⟨w.heap.size,0,none⟩ ⟨w.heap.size+1,0,none⟩ _).mono ?_
  all_goals rintro e u' ae ⟨rfl,rfl,rfl⟩
  all_goals simp [Leaves,settle,results,Tryz.results50,go_sem]
  obtain⟨q1,q2,R⟩:=zp4 (v:= .slice S V U) (b:=true) A.o.1 A.o.2;rw [q1];simp only [Result.andThen_ok];rw [q2];exact⟨_,rfl,_,rfl,(((I.o.setNew (Nat.le_refl _) _ _).setNew (Nat.le_refl _) _ _).setNew (Nat.le_succ _) _ _).drew,H.o.turn R (by decide) (by decide) (by decide),x,E.o.turn R (by decide),HX.o⟩
 ·unfold zb5;go_wp2_with fail;go_region;all_goals go_wp2_with fail
  all_goals refine leaves_cons (f:=88) (args:=#[.pointer (some ⟨w.heap.size,0,none⟩),.pointer (some ⟨w.heap.size+1,0,none⟩)]) (by simp) (by simp [go_sem]) ?_
  all_goals refine(zlg ⟨w.heap.size,0,none⟩ ⟨w.heap.size+1,0,none⟩ _).mono ?_
  all_goals rintro e u' ae ⟨rfl,rfl,rfl⟩
  all_goals simp [Leaves,settle,results,Tryz.results50,go_sem]
  obtain⟨q1,q2,R⟩:=zp4 (v:= .slice S V U) (b:=false) A.o.1 A.o.2;rw [q1];simp only [Result.andThen_ok];rw [q2];exact⟨_,rfl,_,rfl,(((I.o.setNew (Nat.le_refl _) _ _).setNew (Nat.le_refl _) _ _).setNew (Nat.le_succ _) _ _).drew,H.o.turn R (by decide) (by decide) (by decide),x,E.o.turn R (by decide),HX.o⟩
end Go.Proofs.YtndkblnpbjffhaaGreatDoor
