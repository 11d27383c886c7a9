import Derived.Test.YtndkblnpbjffhaaGreatDoorG23
set_option maxRecDepth 100000
open Go.RowKit
namespace Go.Proofs.YtndkblnpbjffhaaGreatDoor
section
attribute [local go_sem ↓] yv yl yy yo yj ym yx yk
theorem zii {σ:Type}{fe:σ→List UInt8→(List UInt8×Bool)×σ}{s:σ}{p:Pl}{f:Fl}(h:(xm fe s p).1=some f):jw fe s p=(some f,(xm fe s p).2):=by
 unfold jw
 split
 ·rename_i A r e;rw [e] at h ⊢;exact Prod.ext h rfl
 ·rename_i r e;rw [e] at h;simp at h
theorem zhh {σ:Type}{fe:σ→List UInt8→(List UInt8×Bool)×σ}{s:σ}{p:Pl}(h:(xm fe s p).1=none)(r:p.2.2=4):jw fe s p=(none,(xm fe s p).2):=by
 unfold jw
 split
 ·rename_i D A e;rw [e] at h;simp at h
 ·rename_i A e;rw [e,if_pos r]
theorem zih {σ:Type}{fe:σ→List UInt8→(List UInt8×Bool)×σ}{s:σ}{p:Pl}(h:(xm fe s p).1=none)(A:p.2.2≠4):
  jw fe s p=(((xm fe (xm fe s p).2 (p.1,p.2.1,4)).1).map (zg1 p.2.2),(xm fe (xm fe s p).2 (p.1,p.2.1,4)).2):=by
 unfold jw
 split
 ·rename_i E D e;rw [e] at h;simp at h
 ·rename_i D e;rw [e,if_neg A];simp only
  split
  ·rename_i r;rw [r];rfl
  ·rename_i r;rw [r];rfl
theorem z70 {w:World}{xs:List Px}{f:Fl}(h:j9 w xs f){k:Nat}(I:k≤4):j9 w (xs.take k++List.replicate (4 - k) .no) (zg1 k f):=by
 obtain⟨J,E,A⟩:=h;obtain⟨a,b,c,d,rfl⟩:=zfk J;obtain⟨K,L,c',Q,rfl⟩:=zfk E;have h0:=A 0 (by omega);have h1:=A 1 (by omega);have h2:=A 2 (by omega);have D:=A 3 (by omega);have r:=zdd.none w;refine⟨by simp;omega,by simp [zg1];omega,fun j H=>?_⟩
 match k,I,j,H with
 | 0,_,0,_ | 0,_,1,_ | 0,_,2,_ | 0,_,3,_=>exact r
 | 1,_,0,_=>exact h0
 | 1,_,1,_ | 1,_,2,_ | 1,_,3,_=>exact r
 | 2,_,0,_=>exact h0
 | 2,_,1,_=>exact h1
 | 2,_,2,_ | 2,_,3,_=>exact r
 | 3,_,0,_=>exact h0
 | 3,_,1,_=>exact h1
 | 3,_,2,_=>exact h2
 | 3,_,3,_=>exact r
 | 4,_,0,_=>exact h0
 | 4,_,1,_=>exact h1
 | 4,_,2,_=>exact h2
 | 4,_,3,_=>exact D
end
section
theorem zik (f:Fl)(k:Nat):(jl f k).length=f.length:=by simp [jl]
theorem zbt (f:Fl)(k i:Nat):(jl f k).getD i .no=if i=k∧k < f.length then { f.getD i .no with fits:=true } else f.getD i .no:=by
 unfold jl;simp only [List.getD_eq_getElem?_getD,List.getElem?_modify];by_cases h:k=i
 ·subst h;by_cases r:k < f.length
  ·simp [r]
  ·simp [r]
 ·have:¬ i=k:=fun e=>h e.symm;simp [h,this]
theorem z17 (f c:Fl)(h:f.length=c.length):(zda f c).length=f.length:=by simp [zda,h]
theorem zc4 (f c:Fl)(h:f.length=c.length)(i:Nat)(A:i < f.length):(zda f c).getD i .no=if (f.getD i .no).fits then f.getD i .no else c.getD i .no:=by
 have r:i < c.length:=by omega
 unfold zda;simp only [List.getD_eq_getElem?_getD,List.getElem?_zipWith,List.getElem?_eq_getElem A,List.getElem?_eq_getElem r,Option.getD_some]
theorem zus (f:Fl)(i:Nat):(zdx f).getD i .no=if (f.getD i .no).fits then f.getD i .no else .no:=by
 unfold zdx;simp only [List.getD_eq_getElem?_getD,List.getElem?_map];by_cases h:i < f.length
 ·simp [List.getElem?_eq_getElem h]
 ·simp [List.getElem?_eq_none (Nat.not_lt.1 h),Pc.no]
theorem zqo (f:Fl)(k i:Nat)(p:Pc):(f.set k p).getD i .no=if i=k∧k < f.length then p else f.getD i .no:=by
 simp only [List.getD_eq_getElem?_getD,List.getElem?_set];by_cases h:k=i
 ·subst h;by_cases r:k < f.length
  ·simp [r]
  ·simp [r]
 ·have:¬ i=k:=fun e=>h e.symm;simp [h,this]
theorem zny (w:Nat)(d:List UInt8):(zf9 w d).length=4:=by simp [zf9]
theorem zph (es:List (List UInt8)):(zie es).length=4:=by simp [zie]
theorem ziu (w:Nat)(d:List UInt8)(k:Nat)(h:k < 4):(zf9 w d).getD k .no=if k < w then ⟨true,false,(d.drop (8*k)).take 8,[]⟩ else .no:=by
 simp [zf9,List.getD_eq_getElem?_getD,h]
theorem zkk (es:List (List UInt8))(k:Nat)(h:k < 4):(zie es).getD k .no=if k < es.length then ⟨true,false,jc (es.getD k []),es.getD k []⟩ else .no:=by
 simp [zie,List.getD_eq_getElem?_getD,h]
theorem zos (w:Int)(f:Fl)(k:Nat):(zg1 w f).getD k .no=if k < w.toNat then f.getD k .no else .no:=by
 unfold zg1;simp only [List.getD_eq_getElem?_getD,List.getElem?_append,List.length_take,List.getElem?_take,List.getElem?_replicate];by_cases h:k < w.toNat
 ·by_cases r:k < f.length
  ·rw [if_pos (by omega)];simp [h]
  ·rw [if_neg (by omega)];rw [List.getElem?_eq_none (Nat.not_lt.1 r)]
   split<;>simp
 ·rw [if_neg (by omega)]
  split<;>simp
theorem z2d (w:Int)(f:Fl)(h:f.length=4)(r:w≤4):(zg1 w f).length=4:=by
 unfold zg1;simp [h];omega
structure z06 (w:Int)(f:Fl):Prop where
 len:f.length=4
 fits:∀ k,(f.getD k .no).fits=false
 there:∀ k,k < 4→(f.getD k .no).there=decide ((k:Int) < w)
theorem zmu {l w:Int}{d:List UInt8}{f:Fl}(h:zck l w d=some f):z06 w f:=by
 unfold zck at h;by_cases E:l=-1
 ·rw [if_pos E] at h;cases hu:zfb d with
  | none=>rw [hu] at h;simp at h
  | some es =>
   rw [hu] at h;by_cases D:(es.length:Int)=w
   ·simp only [D,if_true,Option.some.injEq] at h;subst h;refine⟨zph _,fun k=>?_,fun k A=>?_⟩
    ·by_cases A:k < 4
     ·rw [zkk _ _ A];split<;>rfl
     ·rw [List.getD_eq_getElem?_getD,List.getElem?_eq_none (by rw [zph];omega)];rfl
    ·rw [zkk _ _ A];by_cases r:k < es.length
     ·rw [if_pos r];simp;omega
     ·rw [if_neg r];simp [Pc.no];omega
   ·simp [D] at h
 ·rw [if_neg E] at h;by_cases D:(d.length:Int)=w*8
  ·rw [if_pos D] at h;simp only [Option.some.injEq] at h;subst h;refine⟨zny _ _,fun k=>?_,fun k A=>?_⟩
   ·by_cases A:k < 4
    ·rw [ziu _ _ _ A];split<;>rfl
    ·rw [List.getD_eq_getElem?_getD,List.getElem?_eq_none (by rw [zny];omega)];rfl
   ·rw [ziu _ _ _ A];by_cases r:k < w.toNat
    ·rw [if_pos r];simp;omega
    ·rw [if_neg r];simp [Pc.no];omega
  ·rw [if_neg D] at h;simp at h
theorem zwf {w:Int}{f:Fl}(h:z06 4 f)(D:w≤4):z06 w (zg1 w f):=by
 refine⟨z2d w f h.len D,fun k=>?_,fun k A=>?_⟩
 ·rw [zos]
  split
  ·exact h.fits k
  ·rfl
 ·rw [zos];by_cases r:k < w.toNat
  ·rw [if_pos r,h.there k A];simp;omega
  ·rw [if_neg r];simp [Pc.no];omega
section
variable {σ : Type} {fe : σ → List UInt8 → (List UInt8 × Bool) × σ}
theorem zlf {s r:σ}{p:Pl}{f:Fl}(h:xm fe s p=(some f,r)):z06 p.2.2 f:=by
 unfold xm at h;simp only [Prod.mk.injEq] at h;obtain⟨h,-⟩:=h
 split at h
 ·exact zmu h
 ·simp at h
theorem znc {s D:σ}{p:Pl}{f:Fl}(A:p.2.2≤4)(h:jw fe s p=(some f,D)):z06 p.2.2 f:=by
 unfold jw at h;cases h1:xm fe s p with
 | mk o s1 =>
  rw [h1] at h;cases o with
  | some g =>
   simp only [Prod.mk.injEq,Option.some.injEq] at h;obtain⟨rfl,-⟩:=h;exact zlf h1
  | none =>
   by_cases r:p.2.2=4
   ·simp [r] at h
   ·simp only [r,if_false] at h;cases h2:xm fe s1 (p.1,p.2.1,4) with
    | mk o2 s2 =>
     rw [h2] at h;cases o2 with
     | none=>simp at h
     | some g =>
      simp only [Prod.mk.injEq,Option.some.injEq] at h;obtain⟨rfl,-⟩:=h;exact zwf (zlf h2) A
theorem Mm.get_mem {m:Mm}{k:Pl}{f:Fl}(h:m.get k=some f):(k,f)∈m:=by
 unfold Mm.get at h;cases e:m.find? (fun x=>decide (x.1=k)) with
 | none=>rw [e] at h;simp at h
 | some x =>
  rw [e] at h;simp only [Option.some.injEq] at h;have h1:=List.find?_some e;have h2:=List.mem_of_find?_eq_some e;simp only [decide_eq_true_eq] at h1;obtain⟨a,b⟩:=x;simp only at h h1;subst h;subst h1;exact h2
theorem Mm.get_none {m:Mm}{k:Pl}(h:m.get k=none):∀ x∈m,x.1≠k:=by
 unfold Mm.get at h;cases e:m.find? (fun x=>decide (x.1=k)) with
 | some x=>rw [e] at h;simp at h
 | none =>
  intro x r;have:=List.find?_eq_none.1 e x r;simpa using this
theorem Mm.get_of_mem {m:Mm}(L:m.ok){k:Pl}{f:Fl}(h:(k,f)∈m):m.get k=some f:=by
 cases e:m.get k with
 | none=>exact absurd rfl (Mm.get_none e _ h)
 | some g =>
  have R:=Mm.get_mem e;unfold Mm.ok at L;obtain⟨i,J,A⟩:=List.getElem_of_mem h;obtain⟨j,K,r⟩:=List.getElem_of_mem R;have H:i=j:=by
   have Q:=List.pairwise_iff_getElem.1 L;rcases Nat.lt_trichotomy i j with I | D | E
   ·exact absurd (by rw [List.getElem_map,List.getElem_map,A,r]) (Q i j (by simpa using J) (by simpa using K) I)
   ·exact D
   ·exact absurd (by rw [List.getElem_map,List.getElem_map,A,r]) (Q j i (by simpa using K) (by simpa using J) E)
  subst H;rw [A] at r;simp only [Prod.mk.injEq,true_and] at r;rw [r]
theorem Mm.drop_mem {m:Mm}{k:Pl}{x:Pl×Fl}:x∈m.drop k↔x∈m∧x.1≠k:=by
 unfold Mm.drop;rw [List.mem_filter];simp
theorem Mm.drop_ok {m:Mm}(h:m.ok)(k:Pl):(m.drop k).ok:=by
 unfold Mm.ok Mm.drop at *
 exact(List.filter_sublist.map _).nodup h
theorem Mm.snoc_ok {m:Mm}(h:m.ok)(k:Pl)(f:Fl):(m.drop k++[(k,f)]:Mm).ok:=by
 have D:=Mm.drop_ok h k;unfold Mm.ok at *
 rw [List.map_append,List.nodup_append];refine⟨D,by simp,?_⟩;intro a A b r;simp only [List.map_cons,List.map_nil,List.mem_singleton] at r;subst r;obtain⟨x,E,rfl⟩:=List.mem_map.1 A;exact(Mm.drop_mem.1 E).2
theorem Mm.put_mem {room:Int}{m:Mm}{k:Pl}{f:Fl}{x:Pl×Fl}(h:x∈m.put room k f):x=(k,f)∨(x∈m∧x.1≠k):=by
 have h1:x∈m.drop k++[(k,f)]:=by
  unfold Mm.put at h
  split at h
  ·exact List.mem_of_mem_tail h
  ·exact h
 rcases List.mem_append.1 h1 with h | h
 ·exact .inr (Mm.drop_mem.1 h)
 ·exact .inl (by simpa using h)
theorem Mm.put_ok {room:Int}{m:Mm}(h:m.ok)(k:Pl)(f:Fl):(m.put room k f).ok:=by
 have:=Mm.snoc_ok h k f;unfold Mm.put
 split
 ·unfold Mm.ok at *
  rw [List.map_tail];exact(List.tail_sublist _).nodup this
 ·exact this
theorem Mm.set_keys (m:Mm)(k:Pl)(f:Fl):(m.set k f).map (·.1)=m.map (·.1):=by
 unfold Mm.set;rw [List.map_map];apply List.map_congr_left;intro x _;simp only [Function.comp_apply]
 split
 ·rename_i h;exact h.symm
 ·rfl
theorem Mm.set_ok {m:Mm}(h:m.ok)(k:Pl)(f:Fl):(m.set k f).ok:=by
 unfold Mm.ok at *
 rw [Mm.set_keys];exact h
theorem Mm.set_mem {m:Mm}{k:Pl}{f:Fl}{x:Pl×Fl}(h:x∈m.set k f):x=(k,f)∨(x∈m∧x.1≠k):=by
 unfold Mm.set at h;obtain⟨y,A,e⟩:=List.mem_map.1 h;by_cases r:y.1=k
 ·rw [if_pos r] at e;exact .inl e.symm
 ·rw [if_neg r] at e;subst e;exact .inr ⟨A,r⟩
def Gd (V:Pl→Nat→Pc→Prop)(p:Pl)(k:Nat)(c:Pc):Prop:=(c.fits=true→c.there=true)∧(c.there=true→V p k c)
def GdF (V:Pl→Nat→Pc→Prop)(p:Pl)(f:Fl):Prop:=f.length=4∧∀ k,k < 4→Gd V p k (f.getD k .no)
def GdM (V:Pl→Nat→Pc→Prop)(m:Mm):Prop:=m.ok∧∀ x∈m,GdF V x.1 x.2
theorem zr2 (V:Pl→Nat→Pc→Prop)(p:Pl)(k:Nat):Gd V p k .no:=⟨by simp [Pc.no],by simp [Pc.no]⟩
theorem z9u (V:Pl→Nat→Pc→Prop)(p:Pl):GdF V p .no:=⟨rfl,fun k h=>by
 match k,h with
 | 0,_=>exact zr2 _ _ _
 | 1,_=>exact zr2 _ _ _
 | 2,_=>exact zr2 _ _ _
 | 3,_=>exact zr2 _ _ _⟩
theorem GdM.get {V:Pl→Nat→Pc→Prop}{m:Mm}(h:GdM V m){k:Pl}{f:Fl}(e:m.get k=some f):GdF V k f:=h.2 _ (Mm.get_mem e)
theorem GdM.known {V:Pl→Nat→Pc→Prop}{A r:Mm}(h:GdM V A)(D:GdM V r)(p:Pl):GdF V p (yu A r p):=by
 unfold yu;cases e:r.get p with
 | some f=>exact D.get e
 | none =>
  cases e2:A.get p with
  | some f=>exact h.get e2
  | none=>exact z9u V p
theorem GdM.snoc {V:Pl→Nat→Pc→Prop}{m:Mm}(h:GdM V m){k:Pl}{f:Fl}(r:GdF V k f):GdM V (m.drop k++[(k,f)]):=by
 refine⟨Mm.snoc_ok h.1 k f,fun x A=>?_⟩;rcases List.mem_append.1 A with h1 | h1
 ·exact h.2 x (Mm.drop_mem.1 h1).1
 ·obtain rfl:x=(k,f):=by simpa using h1
  exact r
theorem GdM.put {V:Pl→Nat→Pc→Prop}{m:Mm}(h:GdM V m){k:Pl}{f:Fl}(r:GdF V k f)(room:Int):GdM V (m.put room k f):=by
 refine⟨Mm.put_ok h.1 k f,fun x A=>?_⟩;rcases Mm.put_mem A with rfl | ⟨h1,-⟩
 ·exact r
 ·exact h.2 x h1
theorem GdM.set {V:Pl→Nat→Pc→Prop}{m:Mm}(h:GdM V m){k:Pl}{f:Fl}(r:GdF V k f):GdM V (m.set k f):=by
 refine⟨Mm.set_ok h.1 k f,fun x A=>?_⟩;rcases Mm.set_mem A with rfl | ⟨h1,-⟩
 ·exact r
 ·exact h.2 x h1
theorem zbo (V:Pl→Nat→Pc→Prop):GdM V []:=⟨by simp [Mm.ok],fun x h=>by simp at h⟩
theorem GdF.fitsAt {V:Pl→Nat→Pc→Prop}(D:∀ p k c b,V p k c→V p k { c with fits:=b }){p:Pl}{f:Fl}(h:GdF V p f){k:Nat}(H:(f.getD k .no).there=true):GdF V p (jl f k):=by
 refine⟨by rw [zik];exact h.1,fun i A=>?_⟩;rw [zbt];by_cases r:i=k∧k < f.length
 ·rw [if_pos r];obtain⟨rfl,-⟩:=r;exact⟨fun _=>H,fun E=>D _ _ _ _ ((h.2 i A).2 E)⟩
 ·rw [if_neg r];exact h.2 i A
theorem GdF.fill {V:Pl→Nat→Pc→Prop}{p:Pl}{f c:Fl}(h:GdF V p f)(A:GdF V p c):GdF V p (zda f c):=by
 have e:f.length=c.length:=by rw [h.1,A.1]
 refine⟨by rw [z17 f c e];exact h.1,fun i r=>?_⟩;rw [zc4 f c e i (by rw [h.1];exact r)]
 split
 ·exact h.2 i r
 ·exact A.2 i r
theorem GdF.fit {V:Pl→Nat→Pc→Prop}{p:Pl}{f:Fl}(h:GdF V p f):GdF V p (zdx f):=by
 refine⟨by simp [zdx,h.1],fun i r=>?_⟩;rw [zus]
 split
 ·exact h.2 i r
 ·exact zr2 _ _ _
theorem zez {V:Pl→Nat→Pc→Prop}(room:Int):∀(r A:Mm),GdM V A→(∀ x∈r,GdF V x.1 x.2)→GdM V (zx room A r)
 | [],A,h,_=>h
 | x::r,A,h,hn=>by
  show GdM V (zx room (A.put room x.1 (zdx x.2)) r);exact zez room r _ (h.put (hn x (by simp)).fit room) (fun y D=>hn y (by simp [D]))
structure z9h (fe:σ→List UInt8→(List UInt8×Bool)×σ)(I:σ→Prop)(T:Pl→Option Fl):Prop where
 file:∀ s p,I s→(jw fe s p).1=T p
 keep:∀ s p,I s→I (jw fe s p).2
theorem zko {I:σ→Prop}{T:Pl→Option Fl}{V:Pl→Nat→Pc→Prop}(X:z9h fe I T)(Y:∀ p k c b,V p k c→V p k { c with fits:=b })
  {proved:Mm} {size:Nat} {m:Ms σ} {l:Int} {j:Nat} (hT:∀ h,T (zj size l j)=some h→GdF V (zj size l j) h)
  (hp:GdM V proved) (hm:GdM V m.needed) (hI:I m.net) (hj:j < yd l size) :
  (∃ c A,qu fe proved size m l j=(.inr c,A)∧c.there=true∧V (zj size l j) (j % 4) c∧GdM V A.needed∧I A.net) ∨
  (∃ A,qu fe proved size m l j=(.inl (zee (zj size l j)),A)∧T (zj size l j)=none∧A.needed=m.needed∧I A.net):=by
 have H:GdF V (zj size l j) (yu proved m.needed (zj size l j)):=hp.known hm _;have hw:(zj size l j).2.2≤4:=by unfold zj;simp;omega
 have U:((j % 4:Nat):Int) < (zj size l j).2.2:=by unfold zj;simp;omega
 unfold qu;generalize zj size l j=p at *
 by_cases D:((yu proved m.needed p).getD (j % 4) .no).there=true
 ·rw [if_pos D];have Q:=H.fitsAt Y D;have r:((jl (yu proved m.needed p) (j % 4)).getD (j % 4) .no).there=true:=by
   rw [zbt];split
   ·exact D
   ·exact D
  exact .inl ⟨_,_,rfl,r,(Q.2 (j % 4) (by omega)).2 r,hm.snoc Q,hI⟩
 ·rw [if_neg D];have K:=X.file m.net p hI;have L:=X.keep m.net p hI;cases hf:jw fe m.net p with
  | mk o s =>
   rw [hf] at K L;simp only at K L;cases o with
   | none=>exact .inr ⟨_,rfl,K.symm,rfl,L⟩
   | some h =>
    have Z:=hT h K.symm;have R:=znc hw hf;have Q:=H.fill Z;have r:((zda (yu proved m.needed p) h).getD (j % 4) .no).there=true:=by
     rw [zc4 _ _ (by rw [H.1,Z.1]) _ (by rw [H.1];omega)];have W:((yu proved m.needed p).getD (j % 4) .no).fits≠true:=fun S=>D ((H.2 (j % 4) (by omega)).1 S);rw [if_neg W,R.there _ (by omega)];simpa using U
    have E:=Q.fitsAt Y r;have J:((jl (zda (yu proved m.needed p) h) (j % 4)).getD (j % 4) .no).there=true:=by
     rw [zbt];split
     ·exact r
     ·exact r
    exact .inl ⟨_,_,rfl,J,(E.2 (j % 4) (by omega)).2 J,hm.snoc E,L⟩
end
end
theorem zfg:∀(f a n i:Nat),n≤2 ^ f→∀ s∈xy f a n i,a≤s.1∧s.1+s.2≤a+n∧1≤s.2:=by
 intro f
 induction f with
 | zero=>intro a n i h s r;simp [xy] at r
 | succ f ih =>
  intro a n i h s r;by_cases h1:n≤1
  ·rw [zd4 _ _ _ _ h1] at r;simp at r
  obtain⟨D,E,H,I,J,K⟩:=jm n f (by omega) h;by_cases A:i < a+kOf n
  ·rw [zbq f a n i (by omega) A] at r;rcases List.mem_append.1 r with r | r
   ·have:=ih a (kOf n) i D s r;omega
   ·obtain rfl:s=_:=List.mem_singleton.1 r;simp only;omega
  ·rw [za5 f a n i (by omega) A] at r;rcases List.mem_append.1 r with r | r
   ·have:=ih (a+kOf n) (n - kOf n) i E s r;omega
   ·obtain rfl:s=_:=List.mem_singleton.1 r;simp only;omega
theorem zja:∀(f m a n:Nat) (whole:Bool),n≤2 ^ f→1≤n→a < m→m≤a+n→∀ s∈qd f m a n whole,a≤s.1∧s.1+s.2≤a+n∧1≤s.2:=by
 intro f
 induction f with
 | zero =>
  intro m a n whole h H A E s r;unfold qd at r
  split at r
  ·split at r
   ·simp at r
   ·obtain rfl:s=_:=List.mem_singleton.1 r;simp only;omega
  ·simp at r
 | succ f ih =>
  intro m a n whole h H A E s r;by_cases hm:m=a+n
  ·rw [zaq _ _ _ _ _ hm] at r
   split at r
   ·simp at r
   ·obtain rfl:s=_:=List.mem_singleton.1 r;simp only;omega
  obtain⟨I,J,K,L,Q,R⟩:=jm n f (by omega) h;by_cases D:m≤a+kOf n
  ·rw [zbr f m a n whole hm D] at r;rcases List.mem_append.1 r with r | r
   ·have:=ih m a (kOf n) whole I K A D s r;omega
   ·obtain rfl:s=_:=List.mem_singleton.1 r;simp only;omega
  ·rw [zbx f m a n whole hm D] at r;rcases List.mem_append.1 r with r | r
   ·have:=ih m (a+kOf n) (n - kOf n) false J L (by omega) (by omega) s r;omega
   ·obtain rfl:s=_:=List.mem_singleton.1 r;simp only;omega
section
theorem zmf (n:Nat)(h0:0 < n)(h:n < 2 ^ 64):∃ m,n=2 ^ Lib.ctz 64 n*(2*m+1)∧Lib.ctz 64 n < 64:=by
 unfold Lib.ctz;rw [if_neg (by omega)];exact Lib.ctzFrom_spec 64 n h0 h
theorem qg (l:Nat):4 ^ l=2 ^ (2*l):=by rw [Nat.pow_mul]
theorem zcg (n:Nat)(h0:0 < n)(h:n < 2 ^ 64):4 ^ lvl n ∣ n∧lvl n < 32∧(n / 4 ^ lvl n=1↔n=4 ^ lvl n):=by
 obtain⟨m,hm,E⟩:=zmf n h0 h;unfold lvl;generalize Lib.ctz 64 n=c at *
 have r:4 ^ (c / 2) ∣ n:=by
  rw [qg];refine Nat.dvd_trans (Nat.pow_dvd_pow 2 (show 2*(c / 2)≤c by omega)) ?_;rw [hm];exact Nat.dvd_mul_right _ _
 refine⟨r,by omega,?_⟩;obtain⟨q,D⟩:=r;have A:0 < 4 ^ (c / 2):=Nat.pow_pos (by omega);rw [D,Nat.mul_div_cancel_left _ A];constructor
 ·intro e;rw [e,Nat.mul_one]
 ·intro e;exact Nat.eq_of_mul_eq_mul_left A (by rw [e,Nat.mul_one])
theorem zyn (L:Nat)(h:L < 32):lvl (4 ^ L)=L:=by
 have A:0 < 4 ^ L:=Nat.pow_pos (by omega);have r:4 ^ L < 2 ^ 64:=by rw [qg];exact Nat.pow_lt_pow_right (by omega) (by omega)
 obtain⟨m,hm,E⟩:=zmf (4 ^ L) A r;unfold lvl;generalize Lib.ctz 64 (4 ^ L)=c at *
 have key:2 ^ (2*L)=2 ^ c*(2*m+1):=by rw [← qg];exact hm
 have h1:c≤2*L:=by
  have:2 ^ c≤2 ^ (2*L):=by rw [key];exact Nat.le_mul_of_pos_right _ (by omega)
  exact(Nat.pow_le_pow_iff_right (by omega:1 < 2)).1 this
 have h2:2 ^ (2*L - c)=2*m+1:=by
  have:2 ^ c*2 ^ (2*L - c)=2 ^ c*(2*m+1):=by rw [← Nat.pow_add,← key];congr 1;omega
  exact Nat.eq_of_mul_eq_mul_left (Nat.pow_pos (by omega)) this
 have D:2*L - c=0:=by
  cases e:2*L - c with
  | zero=>rfl
  | succ x=>rw [e,Nat.pow_succ] at h2;omega
 omega
section
variable {σ : Type} {fe : σ → List UInt8 → (List UInt8 × Bool) × σ}
def zgg (H:Pl→Nat→List UInt8)(size:Nat):Nat→Nat→Nat→List UInt8
 | 0,_,_=>xf
 | f+1,a,n=>if n / 4 ^ lvl n=1 then H (zj size (lvl n:Nat) (a / 4 ^ lvl n)) (a / 4 ^ lvl n % 4)
  else yz (zgg H size f a (kOf n)) (zgg H size f (a+kOf n) (n - kOf n))
def yf (size:Nat):Nat→Nat→Nat→List (Pl×Nat)
 | 0,_,_=>[]
 | f+1,a,n=>if n / 4 ^ lvl n=1 then [(zj size (lvl n:Nat) (a / 4 ^ lvl n),a / 4 ^ lvl n % 4)]
  else yf size f a (kOf n)++yf size f (a+kOf n) (n - kOf n)
def Has (h:Mm)(r:List (Pl×Nat)):Prop:=∀ x∈r,∃ f,h.get x.1=some f∧f.length=4∧(f.getD x.2 .no).there=true∧(f.getD x.2 .no).fits=true
structure Ctx (fe:σ→List UInt8→(List UInt8×Bool)×σ)(I:σ→Prop)(T:Pl→Option Fl)(V:Pl→Nat→Pc→Prop)(H:Pl→Nat→List UInt8)(proved:Mm)(size:Nat):Prop where
 says:z9h fe I T
 bare:∀ p k c b,V p k c→V p k { c with fits:=b }
 told:∀ l j came,-1≤l→j < yd l size→T (zj size l j)=some came→GdF V (zj size l j) came
 hash:∀(l j:Nat) c,j < yd (l:Int) size→V (zj size (l:Int) j) (j % 4) c→c.hash=H (zj size (l:Int) j) (j % 4)
 proved:GdM V proved
theorem zlv (a n l size:Nat)(h:a+n≤size)(A:n=4 ^ l):a / 4 ^ l < yd (l:Int) size:=by
 unfold yd;rw [Int.toNat_natCast];have r:0 < 4 ^ l:=Nat.pow_pos (by omega);have h1:a / 4 ^ l+1≤size / 4 ^ l:=by
  rw [Nat.le_div_iff_mul_le r,Nat.add_mul,Nat.one_mul];have:=Nat.div_mul_le_self a (4 ^ l);omega
 omega
theorem zky {proved:Mm}{size f a n:Nat}{m r:Ms σ}{c:Pc}(A:n / 4 ^ lvl n=1)(h:qu fe proved size m (lvl n:Nat) (a / 4 ^ lvl n)=(.inr c,r)):xn fe proved size (f+1) m a n=(.inr c.hash,r):=by
 rw [xn,if_pos A,h]
theorem zin {proved:Mm}{size f a n:Nat}{m r:Ms σ}{e:List UInt8}(A:n / 4 ^ lvl n=1)(h:qu fe proved size m (lvl n:Nat) (a / 4 ^ lvl n)=(.inl e,r)):xn fe proved size (f+1) m a n=(.inl e,r):=by
 rw [xn,if_pos A,h]
theorem zkt {proved:Mm}{size f a n:Nat}{m h r:Ms σ}{x y:List UInt8}(A:¬ n / 4 ^ lvl n=1)(h1:xn fe proved size f m a (kOf n)=(.inr x,h))(h2:xn fe proved size f h (a+kOf n) (n - kOf n)=(.inr y,r)):xn fe proved size (f+1) m a n=(.inr (yz x y),r):=by
 rw [xn,if_neg A,h1];simp only [h2]
theorem zim {proved:Mm}{size f a n:Nat}{m h:Ms σ}{e:List UInt8}(r:¬ n / 4 ^ lvl n=1)(h1:xn fe proved size f m a (kOf n)=(.inl e,h)):xn fe proved size (f+1) m a n=(.inl e,h):=by
 rw [xn,if_neg r,h1]
theorem zg7 {proved:Mm}{size f a n:Nat}{m h r:Ms σ}{x e:List UInt8}(A:¬ n / 4 ^ lvl n=1)(h1:xn fe proved size f m a (kOf n)=(.inr x,h))(h2:xn fe proved size f h (a+kOf n) (n - kOf n)=(.inl e,r)):xn fe proved size (f+1) m a n=(.inl e,r):=by
 rw [xn,if_neg A,h1];simp only [h2]
theorem zlc {proved:Mm}{size:Nat}{m h A:Ms σ}{s:Nat×Nat}{r:List (Nat×Nat)}{x:List UInt8}{xs:List (List UInt8)}(h1:xn fe proved size 64 m s.1 s.2=(.inr x,h))(h2:yh fe proved size h r=(.inr xs,A)):yh fe proved size m (s::r)=(.inr (x::xs),A):=by
 rw [yh,h1];simp only [h2]
theorem zk6 {proved:Mm}{size:Nat}{m h:Ms σ}{s:Nat×Nat}{r:List (Nat×Nat)}{e:List UInt8}(h1:xn fe proved size 64 m s.1 s.2=(.inl e,h)):yh fe proved size m (s::r)=(.inl e,h):=by
 rw [yh,h1]
theorem zle {proved:Mm}{size:Nat}{m h A:Ms σ}{s:Nat×Nat}{r:List (Nat×Nat)}{x e:List UInt8}(h1:xn fe proved size 64 m s.1 s.2=(.inr x,h))(h2:yh fe proved size h r=(.inl e,A)):yh fe proved size m (s::r)=(.inl e,A):=by
 rw [yh,h1];simp only [h2]
theorem z1g {I:σ→Prop}{T:Pl→Option Fl}{V:Pl→Nat→Pc→Prop}{H:Pl→Nat→List UInt8}{proved:Mm}{size:Nat}(E:Ctx fe I T V H proved size)(hs:size < 2 ^ 63):
  ∀(f:Nat) (m:Ms σ) (a n:Nat),GdM V m.needed→I m.net→a+n≤size→1≤n→n≤2 ^ f →
   ∃ A,GdM V A.needed∧I A.net∧(xn fe proved size (f+1) m a n=(.inr (zgg H size (f+1) a n),A)∨∃ p,xn fe proved size (f+1) m a n=(.inl (zee p.1),A)∧p∈yf size (f+1) a n∧T p.1=none):=by
 have base:∀(f:Nat) (m:Ms σ) (a n:Nat),GdM V m.needed→I m.net→a+n≤size→1≤n→n / 4 ^ lvl n=1 →
   ∃ A,GdM V A.needed∧I A.net∧(xn fe proved size (f+1) m a n=(.inr (zgg H size (f+1) a n),A)∨∃ p,xn fe proved size (f+1) m a n=(.inl (zee p.1),A)∧p∈yf size (f+1) a n∧T p.1=none):=by
  intro f m a n hm hI J h1 r;obtain⟨-,-,X⟩:=zcg n h1 (by omega);have Y:=zlv a n (lvl n) size J (X.1 r);rw [zgg,yf,if_pos r,if_pos r];rcases zko (proved:=proved) (m:=m) E.says E.bare (fun K h=>E.told _ _ K (by omega) Y h) E.proved hm hI Y with ⟨c,D,Q,-,R,S,U⟩ | ⟨D,Q,R,S,U⟩
  ·exact⟨D,S,U,.inl (by rw [zky r Q,E.hash _ _ c Y R])⟩
  ·exact⟨D,by rw [S];exact hm,U,.inr ⟨_,zin r Q,List.mem_singleton.2 rfl,R⟩⟩
 intro f
 induction f with
 | zero =>
  intro m a n hm hI J h1 h2;obtain rfl:n=1:=by omega
  exact base 0 m a 1 hm hI J (by omega) (by decide)
 | succ f ih =>
  intro m a n hm hI J h1 h2;by_cases r:n / 4 ^ lvl n=1
  ·exact base (f+1) m a n hm hI J h1 r
  ·have Z:2≤n:=by
    rcases Nat.lt_or_ge n 2 with h | h
    ·exact absurd (by obtain rfl:n=1:=by omega
                      decide) r
    ·exact h
   obtain⟨k1,k2,k3,k4,k5,k6⟩:=jm n f Z h2;rw [zgg,yf,if_neg r,if_neg r];obtain⟨D,g1,g2,e | ⟨p,e,hp,W⟩⟩:=ih m a (kOf n) hm hI (by omega) k3 k1
   ·obtain⟨m2,q1,q2,L | ⟨p,L,hp,W⟩⟩:=ih D (a+kOf n) (n - kOf n) g1 g2 (by omega) k4 k2
    ·exact⟨m2,q1,q2,.inl (zkt r e L)⟩
    ·exact⟨m2,q1,q2,.inr ⟨p,zg7 r e L,List.mem_append.2 (.inr hp),W⟩⟩
   ·exact⟨D,g1,g2,.inr ⟨p,zim r e,List.mem_append.2 (.inl hp),W⟩⟩
theorem zxu {I:σ→Prop}{T:Pl→Option Fl}{V:Pl→Nat→Pc→Prop}{H:Pl→Nat→List UInt8}{proved:Mm}{size:Nat}(Y:Ctx fe I T V H proved size)(Z:size < 2 ^ 63):
  ∀(h:List (Nat×Nat)) (m:Ms σ),GdM V m.needed→I m.net→(∀ s∈h,s.1+s.2≤size∧1≤s.2) →
   ∃ A,GdM V A.needed∧I A.net∧(yh fe proved size m h=(.inr (h.map fun s=>zgg H size 64 s.1 s.2),A)∨∃ s∈h,∃ p,yh fe proved size m h=(.inl (zee p.1),A)∧p∈yf size 64 s.1 s.2∧T p.1=none):=by
 intro h
 induction h with
 | nil=>intro m hm hI _;exact⟨m,hm,hI,.inl rfl⟩
 | cons s h ih =>
  intro m hm hI R;obtain⟨h1,h2⟩:=R s (by simp);obtain⟨S,L,Q,e | ⟨p,e,J,E⟩⟩:=z1g Y Z 63 m s.1 s.2 hm hI h1 h2 (by omega)
  ·obtain⟨U,W,X,D | ⟨K,r,p,D,J,E⟩⟩:=ih S L Q (fun K r=>R K (by simp [r]))
   ·exact⟨U,W,X,.inl (zlc e D)⟩
   ·exact⟨U,W,X,.inr ⟨K,by simp [r],p,zle e D,J,E⟩⟩
  ·exact⟨S,L,Q,.inr ⟨s,by simp,p,zk6 e,J,E⟩⟩
end
end
end Go.Proofs.YtndkblnpbjffhaaGreatDoor
