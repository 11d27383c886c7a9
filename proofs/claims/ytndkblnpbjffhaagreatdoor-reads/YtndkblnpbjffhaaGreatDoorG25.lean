import Derived.Test.YtndkblnpbjffhaaGreatDoorG24
namespace Go.Proofs.YtndkblnpbjffhaaGreatDoor
section
abbrev Say:=List UInt8→Option (List UInt8)
def znu (h:Say)(p:Pl):Option Fl:=match h (zee p) with
 | some d=>zck p.1 p.2.2 d
 | none=>none
def zmr (h:Say)(p:Pl):Option Fl:=match znu h p with
 | some f=>some f
 | none=>if p.2.2=4 then none else match znu h (p.1,p.2.1,4) with
  | some f=>some (zg1 p.2.2 f)
  | none=>none
section
variable {σ : Type} {fe : σ → List UInt8 → (List UInt8 × Bool) × σ}
structure zpf (fe:σ→List UInt8→(List UInt8×Bool)×σ)(I:σ→Prop)(say:Say):Prop where
 says:∀ s q,I s→say q=if (fe s q).1.2 then some (fe s q).1.1 else none
 keep:∀ s q,I s→I (fe s q).2
theorem zpf.place {I:σ→Prop}{r:Say}(h:zpf fe I r){s:σ}(hI:I s)(p:Pl):(xm fe s p).1=znu r p∧I (xm fe s p).2:=by
 refine⟨?_,h.keep s _ hI⟩;unfold xm znu;rw [h.says s (zee p) hI];cases (fe s (zee p)).1.2<;>rfl
theorem zpf.says_file {I:σ→Prop}{r:Say}(h:zpf fe I r):z9h fe I (zmr r):=by
 have key:∀ s p,I s→(jw fe s p).1=zmr r p∧I (jw fe s p).2:=by
  intro s p hI;obtain⟨E,A⟩:=h.place hI p;unfold jw zmr;cases h1:xm fe s p with
  | mk o s1 =>
   rw [h1] at E A;simp only at E A;rw [← E];cases o with
   | some f=>exact⟨rfl,A⟩
   | none =>
    by_cases J:p.2.2=4
    ·simp only [J,if_true];exact⟨trivial,A⟩
    ·simp only [J,if_false];obtain⟨H,D⟩:=h.place A (p.1,p.2.1,4);cases h2:xm fe s1 (p.1,p.2.1,4) with
     | mk o2 s2 =>
      rw [h2] at H D;simp only at H D;rw [← H];cases o2 with
      | some f=>exact⟨rfl,D⟩
      | none=>exact⟨rfl,D⟩
 exact⟨fun s p hI=>(key s p hI).1,fun s p hI=>(key s p hI).2⟩
end
def zdm (p:Pl)(k:Nat):Nat:=4*p.2.1.toNat+k
def z23 (es:List (List UInt8))(p:Pl)(k:Nat)(c:Pc):Prop :=
 (p.1=-1→c.hash=jc (es.getD (zdm p k) [])∧c.entry=es.getD (zdm p k) [])∧(p.1≠-1→c.hash=xo es p.1 (zdm p k))
def zp5 (es:List (List UInt8))(p:Pl)(k:Nat):List UInt8:=xo es p.1 (zdm p k)
theorem zb3 (size:Nat)(l:Int)(j:Nat):zdm (zj size l j) (j % 4)=j:=by
 unfold zdm zj;simp only [Int.toNat_natCast];omega
theorem zvv (es:List (List UInt8))(size:Nat)(l j:Nat)(c:Pc)(h:z23 es (zj size (l:Int) j) (j % 4) c):c.hash=zp5 es (zj size (l:Int) j) (j % 4) :=
 h.2 (by show(l:Int)≠-1;omega)
def Al (a n:Nat):Prop:=∃ e,n≤2 ^ e∧2 ^ e ∣ a
theorem zl1 (n:Nat):Al 0 n:=⟨n,Nat.le_of_lt Nat.lt_two_pow_self,Nat.dvd_zero _⟩
theorem zhw (n:Nat):∃ q,kOf n=2 ^ q:=⟨_,rfl⟩
theorem Al.left {a n:Nat}(h:Al a n)(h2:2≤n):Al a (kOf n):=by
 obtain⟨e,h1,r⟩:=h;obtain⟨A,D,E⟩:=jg n h2;exact⟨e,by omega,r⟩
theorem Al.right {a n:Nat}(h:Al a n)(h2:2≤n):Al (a+kOf n) (n - kOf n):=by
 obtain⟨e,h1,D⟩:=h;obtain⟨E,H,I⟩:=jg n h2;obtain⟨q,A⟩:=zhw n;refine⟨q,by omega,?_⟩;have r:q≤e:=by
  have:2 ^ q≤2 ^ e:=by rw [← A];omega
  exact(Nat.pow_le_pow_iff_right (by omega:1 < 2)).1 this
 rw [A];exact Nat.dvd_add (Nat.dvd_trans (Nat.pow_dvd_pow 2 r) D) (Nat.dvd_refl _)
theorem Al.four {a l:Nat}(h:Al a (4 ^ l)):a / 4 ^ l*4 ^ l=a:=by
 obtain⟨e,h1,r⟩:=h;rw [qg] at *
 have:2*l≤e:=(Nat.pow_le_pow_iff_right (by omega:1 < 2)).1 h1;exact Nat.div_mul_cancel (Nat.dvd_trans (Nat.pow_dvd_pow 2 this) r)
theorem z43:∀(f a n i:Nat),n≤2 ^ f→Al a n→∀ s∈xy f a n i,Al s.1 s.2:=by
 intro f
 induction f with
 | zero=>intro a n i h A s r;simp [xy] at r
 | succ f ih =>
  intro a n i h A s r;by_cases h1:n≤1
  ·rw [zd4 _ _ _ _ h1] at r;simp at r
  obtain⟨E,H,I,J,K,L⟩:=jm n f (by omega) h;by_cases D:i < a+kOf n
  ·rw [zbq f a n i (by omega) D] at r;rcases List.mem_append.1 r with r | r
   ·exact ih a (kOf n) i E (A.left (by omega)) s r
   ·obtain rfl:s=_:=List.mem_singleton.1 r;exact A.right (by omega)
  ·rw [za5 f a n i (by omega) D] at r;rcases List.mem_append.1 r with r | r
   ·exact ih (a+kOf n) (n - kOf n) i H (A.right (by omega)) s r
   ·obtain rfl:s=_:=List.mem_singleton.1 r;exact A.left (by omega)
theorem z4h:∀(f m a n:Nat) (whole:Bool),n≤2 ^ f→a < m→m≤a+n→Al a n→∀ s∈qd f m a n whole,Al s.1 s.2:=by
 intro f
 induction f with
 | zero =>
  intro m a n whole h D H A s r;unfold qd at r
  split at r
  ·split at r
   ·simp at r
   ·obtain rfl:s=_:=List.mem_singleton.1 r;exact A
  ·simp at r
 | succ f ih =>
  intro m a n whole h D H A s r;by_cases hm:m=a+n
  ·rw [zaq _ _ _ _ _ hm] at r
   split at r
   ·simp at r
   ·obtain rfl:s=_:=List.mem_singleton.1 r;exact A
  obtain⟨I,J,K,L,Q,R⟩:=jm n f (by omega) h;by_cases E:m≤a+kOf n
  ·rw [zbr f m a n whole hm E] at r;rcases List.mem_append.1 r with r | r
   ·exact ih m a (kOf n) whole I D E (A.left (by omega)) s r
   ·obtain rfl:s=_:=List.mem_singleton.1 r;exact A.right (by omega)
  ·rw [zbx f m a n whole hm E] at r;rcases List.mem_append.1 r with r | r
   ·exact ih m (a+kOf n) (n - kOf n) false J (by omega) (by omega) (A.right (by omega)) s r
   ·obtain rfl:s=_:=List.mem_singleton.1 r;exact A.left (by omega)
theorem zva (es:List (List UInt8))(size:Nat)(S:size≤es.length)(J:size < 2 ^ 63):∀(f a n:Nat),a+n≤size→1≤n→n≤2 ^ f→Al a n→zgg (zp5 es) size (f+1) a n=ye (run es (a,n)):=by
 have base:∀(f a n:Nat),a+n≤size→1≤n→Al a n→n / 4 ^ lvl n=1→zgg (zp5 es) size (f+1) a n=ye (run es (a,n)):=by
  intro f a n E h1 r D;obtain⟨-,-,H⟩:=zcg n h1 (by omega);have I:=H.1 D;rw [zgg,if_pos D];unfold zp5;rw [zb3];show xo es ((lvl n:Nat):Int) _=_;unfold xo;rw [if_neg (by omega),Int.toNat_natCast];unfold run;rw [Al.four (l:=lvl n) (I▸r)];exact congrArg (fun x=>ye ((es.drop a).take x)) I.symm
 intro f
 induction f with
 | zero =>
  intro a n E h1 h2 r;obtain rfl:n=1:=by omega
  exact base 0 a 1 E (by omega) r (by decide)
 | succ f ih =>
  intro a n E h1 h2 r;by_cases D:n / 4 ^ lvl n=1
  ·exact base (f+1) a n E h1 r D
  ·have A:2≤n:=by
    rcases Nat.lt_or_ge n 2 with h | h
    ·exact absurd (by obtain rfl:n=1:=by omega
                      decide) D
    ·exact h
   obtain⟨K,L,Q,R,U,V⟩:=jm n f A h2;rw [zgg,if_neg D,ih a (kOf n) (by omega) Q K (r.left A),ih (a+kOf n) (n - kOf n) (by omega) R L (r.right A)];have hr:=zc5 es a n (by omega);rw [zk3 (run es (a,n)) (by omega),hr,zfq es a n _ (by omega),zfr]
theorem z1c:∀(r:List (List UInt8) ),(∀ l∈r,l.length≤20)→unb (za3 r)=some r:=by
 intro r
 induction r with
 | nil=>intro _;rfl
 | cons l r ih =>
  intro h;have E:=h l (by simp);have e:za3 (l::r)=UInt8.ofNat l.length::(l++za3 r):=by simp [za3,zj4]
  have A:(UInt8.ofNat l.length).toNat=l.length:=by rw [UInt8.toNat_ofNat'];omega
  rw [e,zrn _ _ (by rw [A];simp),A];simp only [List.drop_left,List.take_left];rw [ih (fun x D=>h x (by simp [D]))];rfl
theorem zzn (r:List (List UInt8))(h:okB r=true):zfb (za3 r)=some r:=by
 have A:∀ l∈r,l.length≤20:=by
  intro l A;unfold okB at h;simp only [Bool.and_eq_true,List.all_eq_true,decide_eq_true_eq] at h;exact h.2.2 l A
 unfold zfb;rw [z1c r A];simp [h]
theorem zz7 (es:List (List UInt8))(j w:Nat)(h:4*j+w≤es.length):zcj es (-1) j w=za3 ((es.drop (4*j)).take w):=by
 unfold zcj za3;congr 1;apply List.ext_getElem
 ·simp;omega
 ·intro i h1 h2;simp only [List.length_map,List.length_range'] at h1;simp only [List.getElem_map,List.getElem_range',List.getElem_take,List.getElem_drop];unfold xo;rw [if_pos rfl,List.getD_eq_getElem?_getD,List.getElem?_eq_getElem (by omega)];simp
theorem zzi (es:List (List UInt8))(h20:∀ e∈es,e.length≤20)(l:Int)(U:-1≤l)(j w:Nat)(Q:1≤w)(R:w≤4)(I:4*j+w≤yd l es.length):
  ∃ f,zck l w (zcj es l j w)=some f∧∀ k,k < 4→(f.getD k .no).there=true→z23 es (l,(j:Int),(w:Int)) k (f.getD k .no):=by
 unfold zck;by_cases h:l=-1
 ·subst h;have K:yd (-1) es.length=es.length:=by unfold yd;simp
  rw [K] at I;rw [if_pos rfl,zz7 es j w I];have E:((es.drop (4*j)).take w).length=w:=by simp;omega
  have H:okB ((es.drop (4*j)).take w)=true:=by
   unfold okB;simp only [Bool.and_eq_true,List.all_eq_true,decide_eq_true_eq];refine⟨by omega,by omega,fun x S=>h20 x (List.mem_of_mem_drop (List.mem_of_mem_take S))⟩
  rw [zzn _ H];simp only [E,if_true];refine⟨_,rfl,fun k D A=>?_⟩;rw [zkk _ _ D] at A ⊢;by_cases r:k < ((es.drop (4*j)).take w).length
  ·rw [if_pos r];have e:((es.drop (4*j)).take w).getD k []=es.getD (zdm (-1,(j:Int),(w:Int)) k) []:=by
    unfold zdm;simp only [Int.toNat_natCast,List.getD_eq_getElem?_getD,List.getElem?_take,List.getElem?_drop];rw [if_pos (by omega)]
   rw [e];exact⟨fun _=>⟨rfl,rfl⟩,fun h=>absurd rfl h⟩
  ·rw [if_neg r] at A;simp [Pc.no] at A
 ·rw [if_neg h];obtain⟨L,rfl⟩:∃ L:Nat,l=(L:Int):=⟨l.toNat,by omega⟩
  rw [z6l,if_pos (by omega)];refine⟨_,rfl,fun k D A=>?_⟩;rw [ziu _ _ _ D] at A ⊢;by_cases r:k < (w:Int).toNat
  ·rw [if_pos r];refine⟨fun J=>absurd J h,fun _=>?_⟩;have:=z15 es L (4*j+k) w (by omega);rw [show(4*j+k) / 4=j by omega,show(4*j+k) % 4=k by omega] at this;unfold zdm;simpa using this
  ·rw [if_neg r] at A;simp [Pc.no] at A
theorem zlb (es:List (List UInt8))(n:Nat)(l:Int)(k:Nat)(h:k < yd l n)(_:n≤es.length):xo (es.take n) l k=xo es l k:=by
 unfold xo yd at *
 by_cases r:l=-1
 ·rw [if_pos r,if_pos r];subst r;have h:k < n:=by simpa using h
  simp [List.getD_eq_getElem?_getD,h]
 ·rw [if_neg r,if_neg r];have A:0 < 4 ^ l.toNat:=Nat.pow_pos (by omega);have:(k+1)*4 ^ l.toNat≤n:=(Nat.le_div_iff_mul_le A).1 h;rw [Nat.add_mul,Nat.one_mul] at this;congr 1;rw [List.drop_take,List.take_take];congr 1;omega
theorem zkz (es:List (List UInt8))(n:Nat)(l:Int)(j w:Nat)(h:4*j+w≤yd l n)(A:n≤es.length):zcj (es.take n) l j w=zcj es l j w:=by
 unfold zcj;congr 1;apply List.map_congr_left;intro k r;rw [List.mem_range'_1] at r;exact zlb es n l k (by omega) A
end
section
abbrev WfF (p:Pl)(f:Fl):Prop:=GdF (fun _ _ _=>True) p f
abbrev WfM (m:Mm):Prop:=GdM (fun _ _ _=>True) m
theorem GdF.wf {V:Pl→Nat→Pc→Prop}{p:Pl}{f:Fl}(h:GdF V p f):WfF p f:=⟨h.1,fun k r=>⟨(h.2 k r).1,fun _=>trivial⟩⟩
theorem GdM.wf {V:Pl→Nat→Pc→Prop}{m:Mm}(h:GdM V m):WfM m:=⟨h.1,fun x r=>(h.2 x r).wf⟩
theorem Mm.get_snoc (m:Mm)(p q:Pl)(g:Fl):Mm.get (m.drop p++[(p,g)]) q=if q=p then some g else m.get q:=by
 unfold Mm.get;rw [List.find?_append];by_cases h:q=p
 ·subst h;have:(m.drop q).find? (fun x=>decide (x.1=q))=none:=by
   rw [List.find?_eq_none];intro x r;have:=(Mm.drop_mem.1 r).2;simpa using this
  rw [this];simp
 ·have h2:¬ p=q:=fun e=>h e.symm;have:(m.drop p).find? (fun x=>decide (x.1=q))=m.find? (fun x=>decide (x.1=q)):=by
   unfold Mm.drop;rw [List.find?_filter];congr 1
   funext x
   by_cases r:x.1=q
   ·simp [r,h]
   ·simp [r]
  rw [this,if_neg h];cases m.find? (fun x=>decide (x.1=q)) with
  | none=>simp [h2]
  | some x=>simp
theorem Mm.get_set (m:Mm)(p q:Pl)(g:Fl):(m.set p g).get q=if q=p then (m.get p).map (fun _=>g) else m.get q:=by
 unfold Mm.get Mm.set;rw [List.find?_map];have e:((fun x:Pl×Fl=>decide (x.1=q))∘fun x:Pl×Fl=>if x.1=p then (p,g) else x)=fun x=>decide (x.1=q):=by
  funext x
  simp only [Function.comp_apply];by_cases r:x.1=p
  ·simp [r]
  ·simp [r]
 rw [e];by_cases h:q=p
 ·subst h;rw [if_pos rfl];cases hf:m.find? (fun x=>decide (x.1=q)) with
  | none=>rfl
  | some x =>
   have:=List.find?_some hf;simp only [decide_eq_true_eq] at this;simp [this]
 ·rw [if_neg h];cases hf:m.find? (fun x=>decide (x.1=q)) with
  | none=>rfl
  | some x =>
   have:=List.find?_some hf;simp only [decide_eq_true_eq] at this;have r:¬ x.1=p:=by rw [this];exact h
   simp [r]
section
variable {σ : Type} {fe : σ → List UInt8 → (List UInt8 × Bool) × σ}
theorem zcs {proved:Mm}{size:Nat}{m H:Ms σ}{l:Int}{j:Nat}{c:Pc}(h:qu fe proved size m l j=(.inr c,H))(Q:WfM proved)(hm:WfM m.needed)(S:j < yd l size):
  ∃ f,WfF (zj size l j) f∧H.needed=m.needed.drop (zj size l j)++[(zj size l j,jl f (j % 4))]∧(f.getD (j % 4) .no).there=true∧c=(jl f (j % 4)).getD (j % 4) .no ∧
   ((f=yu proved m.needed (zj size l j)∧H.net=m.net)∨(∃ r,z06 (zj size l j).2.2 r∧f=zda (yu proved m.needed (zj size l j)) r∧jw fe m.net (zj size l j)=(some r,H.net)∧((yu proved m.needed (zj size l j)).getD (j % 4) .no).there=false)):=by
 have R:(zj size l j).2.2≤4:=by unfold zj;simp;omega
 have K:((j % 4:Nat):Int) < (zj size l j).2.2:=by unfold zj;simp;omega
 have D:=Q.known hm (zj size l j);unfold qu at h;generalize zj size l j=p at *
 by_cases E:((yu proved m.needed p).getD (j % 4) .no).there=true
 ·rw [if_pos E] at h;simp only [Prod.mk.injEq,Sum.inr.injEq] at h;obtain⟨rfl,rfl⟩:=h;exact⟨_,D,rfl,E,rfl,.inl ⟨rfl,rfl⟩⟩
 ·rw [if_neg E] at h;cases hf:jw fe m.net p with
  | mk o s =>
   rw [hf] at h;cases o with
   | none=>simp at h
   | some r =>
    simp only [Prod.mk.injEq,Sum.inr.injEq] at h;obtain⟨rfl,rfl⟩:=h;have A:=znc R hf;have e:(yu proved m.needed p).length=r.length:=by rw [D.1,A.len]
    have I:WfF p r:=⟨A.len,fun k _=>⟨fun L=>by rw [A.fits k] at L;simp at L,fun _=>trivial⟩⟩
    refine⟨_,D.fill I,rfl,?_,rfl,.inr ⟨r,A,rfl,rfl,by simpa using E⟩⟩;rw [zc4 _ _ e _ (by rw [D.1];omega)]
    split
    ·rename_i J;exact absurd ((D.2 (j % 4) (by omega)).1 J) E
    ·rw [A.there _ (by omega)];simpa using K
def jk (fe:σ→List UInt8→(List UInt8×Bool)×σ)(proved:Mm)(size:Nat):Ms σ→List (Pl×Nat)→Ms σ→Prop
 | m,[],m'=>m'=m
 | m,x::r,m2=>∃(l:Int) (j:Nat) (c:Pc) (h:Ms σ),x=(zj size l j,j % 4)∧j < yd l size∧qu fe proved size m l j=(.inr c,h)∧jk fe proved size h r m2
theorem jk.nil {proved:Mm}{size:Nat}(m:Ms σ):jk fe proved size m [] m:=rfl
theorem jk.cons {proved:Mm}{size:Nat}{m A D:Ms σ}{l:Int}{j:Nat}{c:Pc}{r:List (Pl×Nat)}(E:j < yd l size)(e:qu fe proved size m l j=(.inr c,A))(h:jk fe proved size A r D):jk fe proved size m ((zj size l j,j % 4)::r) D:=⟨l,j,c,A,rfl,E,e,h⟩
theorem jk.ind {proved:Mm}{size:Nat}{A:(m:Ms σ)→(E:List (Pl×Nat))→(D:Ms σ)→jk fe proved size m E D→Prop}(nil:∀ m,A m [] m (jk.nil m))(cons:∀ {m I K:Ms σ} {l:Int} {j:Nat} {c:Pc} {r:List (Pl×Nat)} (J:j < yd l size) (e:qu fe proved size m l j=(.inr c,I)) (h:jk fe proved size I r K),A I r K h→A m ((zj size l j,j % 4)::r) K (jk.cons J e h)):∀ {m:Ms σ} {E:List (Pl×Nat)} {D:Ms σ} (h:jk fe proved size m E D),A m E D h:=by
 intro m E
 induction E generalizing m with
 | nil =>
  intro D h;have e:D=m:=h;subst e;exact nil D
 | cons x r ih =>
  intro D h;obtain⟨l,j,c,I,rfl,J,e,h⟩:=h;exact cons J e h (ih h)
theorem jk.append {proved:Mm}{size:Nat}{m A D:Ms σ}{a b:List (Pl×Nat)}(h:jk fe proved size m a A)(r:jk fe proved size A b D):jk fe proved size m (a++b) D:=by
 induction h using jk.ind with
 | nil m=>exact r
 | cons hj e _ ih=>exact .cons hj e (ih r)
theorem zzp {proved:Mm}{size:Nat}(R:size < 2 ^ 63):∀(f:Nat) (m A:Ms σ) (a n:Nat) (x:List UInt8),a+n≤size→1≤n→n≤2 ^ f→xn fe proved size (f+1) m a n=(.inr x,A)→jk fe proved size m (yf size (f+1) a n) A:=by
 have base:∀(f:Nat) (m A:Ms σ) (a n:Nat) (x:List UInt8),a+n≤size→1≤n→n / 4 ^ lvl n=1→xn fe proved size (f+1) m a n=(.inr x,A)→jk fe proved size m (yf size (f+1) a n) A:=by
  intro f m A a n x D h1 r h;obtain⟨-,-,E⟩:=zcg n h1 (by omega);have I:=zlv a n (lvl n) size D (E.1 r);rw [yf,if_pos r];cases hn:qu fe proved size m (lvl n:Nat) (a / 4 ^ lvl n) with
  | mk o m1 =>
   cases o with
   | inl e=>rw [zin r hn] at h;simp at h
   | inr c =>
    rw [zky r hn] at h;simp only [Prod.mk.injEq] at h;obtain⟨-,rfl⟩:=h;exact .cons I hn (.nil _)
 intro f
 induction f with
 | zero =>
  intro m A a n x D h1 h2 h;obtain rfl:n=1:=by omega
  exact base 0 m A a 1 x D (by omega) (by decide) h
 | succ f ih =>
  intro m A a n x D h1 h2 h;by_cases r:n / 4 ^ lvl n=1
  ·exact base (f+1) m A a n x D h1 r h
  ·have H:2≤n:=by
    rcases Nat.lt_or_ge n 2 with h | h
    ·exact absurd (by obtain rfl:n=1:=by omega
                      decide) r
    ·exact h
   obtain⟨J,K,L,Q,S,U⟩:=jm n f H h2;rw [yf,if_neg r];cases e1:xn fe proved size (f+1) m a (kOf n) with
   | mk o m1 =>
    cases o with
    | inl e=>rw [zim r e1] at h;simp at h
    | inr x1 =>
     cases e2:xn fe proved size (f+1) m1 (a+kOf n) (n - kOf n) with
     | mk o m2 =>
      cases o with
      | inl e=>rw [zg7 r e1 e2] at h;simp at h
      | inr x2 =>
       rw [zkt r e1 e2] at h;simp only [Prod.mk.injEq] at h;obtain⟨-,rfl⟩:=h;exact(ih _ _ _ _ _ (by omega) L J e1).append (ih _ _ _ _ _ (by omega) Q K e2)
theorem zil {proved:Mm}{size:Nat}(I:size < 2 ^ 63):∀(A:List (Nat×Nat)) (m D:Ms σ) (xs:List (List UInt8)),(∀ s∈A,s.1+s.2≤size∧1≤s.2)→yh fe proved size m A=(.inr xs,D)→jk fe proved size m (A.flatMap fun s=>yf size 64 s.1 s.2) D:=by
 intro A
 induction A with
 | nil =>
  intro m D xs _ h;simp only [yh,Prod.mk.injEq] at h;obtain⟨-,rfl⟩:=h;exact .nil _
 | cons s r ih =>
  intro m D xs H h;obtain⟨h1,h2⟩:=H s (by simp);cases e1:xn fe proved size 64 m s.1 s.2 with
  | mk o m1 =>
   cases o with
   | inl e=>rw [zk6 e1] at h;simp at h
   | inr x1 =>
    cases e2:yh fe proved size m1 r with
    | mk o m2 =>
     cases o with
     | inl e=>rw [zle e1 e2] at h;simp at h
     | inr x2 =>
      rw [zlc e1 e2] at h;simp only [Prod.mk.injEq] at h;obtain⟨-,rfl⟩:=h;rw [List.flatMap_cons];exact(zzp I 63 _ _ _ _ _ h1 h2 (by omega) e1).append (ih _ _ _ (fun J E=>H J (by simp [E])) e2)
theorem zds (f:Fl)(k i:Nat):((jl f k).getD i .no).there=(f.getD i .no).there:=by
 rw [zbt];split<;>rfl
theorem zd2 {p:Pl}{f:Fl}(h:WfF p f){k:Nat}(r:(f.getD k .no).there=true):WfF p (jl f k):=GdF.fitsAt (fun _ _ _ _ _=>trivial) h r
theorem jk.wf {proved:Mm}{size:Nat}{m r:Ms σ}{I:List (Pl×Nat)}(h:jk fe proved size m I r)(E:WfM proved)(hm:WfM m.needed):WfM r.needed:=by
 induction h using jk.ind with
 | nil m=>exact hm
 | cons hj e _ ih =>
  obtain⟨f,D,A,H,-,-⟩:=zcs e E hm hj;exact ih (by rw [A];exact hm.snoc (zd2 D H))
theorem jk.keys {proved:Mm}{size:Nat}{m H:Ms σ}{I:List (Pl×Nat)}(h:jk fe proved size m I H)(L:WfM proved)(hm:WfM m.needed):∀ x∈H.needed,(∃ y∈m.needed,y.1=x.1)∨∃ q∈I,q.1=x.1:=by
 induction h using jk.ind with
 | nil m=>exact fun x A=> .inl ⟨x,A,rfl⟩
 | cons hj e _ ih =>
  obtain⟨f,K,D,R,-,-⟩:=zcs e L hm hj;intro x A;rcases ih (by rw [D];exact hm.snoc (zd2 K R)) x A with ⟨y,r,E⟩ | ⟨q,Q,J⟩
  ·rw [D] at r;rcases List.mem_append.1 r with r | r
   ·exact .inl ⟨y,(Mm.drop_mem.1 r).1,E⟩
   ·obtain rfl:=List.mem_singleton.1 r;exact .inr ⟨_,List.mem_cons_self,E⟩
  ·exact .inr ⟨q,by simp [Q],J⟩
theorem jk.has {proved:Mm}{size:Nat}{m W:Ms σ}{ps:List (Pl×Nat)}(h:jk fe proved size m ps W)(hp:WfM proved)(hm:WfM m.needed):Has W.needed ps∧∀ A,Has m.needed A→Has W.needed A:=by
 induction h using jk.ind with
 | nil m=>exact⟨fun x D=>by simp at D,fun A K=>K⟩
 | cons hj e _ ih =>
  rename_i m X m2 l j c r _;obtain⟨f,S,L,ht,-,hc⟩:=zcs e hp hm hj;have hw:WfM X.needed:=by rw [L];exact hm.snoc (zd2 S ht)
  obtain⟨i1,i2⟩:=ih hw;have hg:(jl f (j % 4)).length=4:=by rw [zik];exact S.1
  have V:Has X.needed [(zj size l j,j % 4)]:=by
   intro x D;obtain rfl:=List.mem_singleton.1 D;refine⟨jl f (j % 4),by rw [L,Mm.get_snoc,if_pos rfl],hg,by rw [zds];exact ht,?_⟩;rw [zbt,if_pos ⟨rfl,by rw [S.1];omega⟩]
  have U:∀ A,Has m.needed A→Has X.needed A:=by
   intro A K x D;obtain⟨g,Y,Z,H,Q⟩:=K x D;by_cases E:x.1=zj size l j
   ·refine⟨jl f (j % 4),by rw [L,Mm.get_snoc,if_pos E],hg,?_⟩;have J:yu proved m.needed (zj size l j)=g:=by unfold yu;rw [← E,Y]
    have ac:x.2 < 4:=by
     rcases Nat.lt_or_ge x.2 4 with h | h
     ·exact h
     ·rw [List.getD_eq_getElem?_getD,List.getElem?_eq_none (by omega)] at H;simp [Pc.no] at H
    have I:(f.getD x.2 .no).there=true∧(f.getD x.2 .no).fits=true:=by
     rcases hc with ⟨rfl,-⟩ | ⟨aa,R,rfl,-,-⟩
     ·rw [J];exact⟨H,Q⟩
     ·rw [J] at *
      rw [zc4 _ _ (by rw [Z,R.len]) _ (by omega),if_pos Q];exact⟨H,Q⟩
    refine⟨by rw [zds];exact I.1,?_⟩;rw [zbt];split
    ·rfl
    ·exact I.2
   ·exact⟨g,by rw [L,Mm.get_snoc,if_neg E];exact Y,Z,H,Q⟩
  refine⟨?_,fun A K=>i2 A (U A K)⟩;intro x D;rcases List.mem_cons.1 D with rfl | D
  ·exact i2 _ V _ (by simp)
  ·exact i1 x D
def Wh (proved:Mm)(x:Pl×Fl):Prop:=proved.get x.1=none→∀ k:Nat,k < 4→(k:Int) < x.1.2.2→(x.2.getD k .no).there=true
theorem jk.whole {proved:Mm}{size:Nat}{m W:Ms σ}{ps:List (Pl×Nat)}(h:jk fe proved size m ps W)(Z:WfM proved)(hm:WfM m.needed)(S:∀ x∈m.needed,Wh proved x):∀ x∈W.needed,Wh proved x:=by
 induction h using jk.ind with
 | nil m=>exact S
 | cons hj e _ ih =>
  rename_i m m1 m2 l j c r _;obtain⟨f,X,U,R,-,V⟩:=zcs e Z hm hj;refine ih (by rw [U];exact hm.snoc (zd2 X R)) (fun x K=>?_);rw [U] at K;rcases List.mem_append.1 K with K | K
  ·exact S x (Mm.drop_mem.1 K).1
  ·obtain rfl:=List.mem_singleton.1 K;intro J k D H;rw [zds];simp only at J H;generalize zj size l j=p at *
   cases hg:m.needed.get p with
   | some g =>
    have E:yu proved m.needed p=g:=by unfold yu;rw [hg]
    have I:=S _ (Mm.get_mem hg) J k D H;simp only at I;rcases V with ⟨rfl,-⟩ | ⟨L,A,rfl,-,-⟩
    ·rw [E];exact I
    ·have Q:=(hm.get hg).1;rw [E,zc4 _ _ (by rw [Q,A.len]) _ (by omega)]
     split
     ·exact I
     ·rw [A.there k D];simpa using H
   | none =>
    have E:yu proved m.needed p=Fl.no:=by unfold yu;rw [hg,J]
    rcases V with ⟨rfl,-⟩ | ⟨L,A,rfl,-,-⟩
    ·rw [E] at R;have:j % 4 < 4:=Nat.mod_lt _ (by omega);generalize j % 4=q at *
     match q,this with
     | 0,_ | 1,_ | 2,_ | 3,_=>simp [Fl.no,Pc.no] at R
    ·rw [E,zc4 _ _ (by rw [A.len];rfl) _ (by show k < 4;exact D)]
     split
     ·rename_i Y
      match k,D with
      | 0,_ | 1,_ | 2,_ | 3,_=>simp [Fl.no,Pc.no] at Y
     ·rw [A.there k D];simpa using H
theorem jk.last {proved:Mm}{size:Nat}{m E:Ms σ}{A:List (Pl×Nat)}(h:jk fe proved size m A E)(K:WfM proved)(hm:WfM m.needed):A=[]∨∃(a:Mm) (x:Pl×Fl),E.needed=a++[x]∧∃ q∈A,q.1=x.1:=by
 induction h using jk.ind with
 | nil m=>exact .inl rfl
 | cons hj e hr ih =>
  rename_i m S U l j c r;obtain⟨f,J,D,Q,-,R⟩:=zcs e K hm hj;rcases ih (by rw [D];exact hm.snoc (zd2 J Q)) with rfl | ⟨a,x,H,q,L,I⟩
  ·cases hr;exact .inr ⟨_,_,D,_,List.mem_cons_self,rfl⟩
  ·exact .inr ⟨a,x,H,q,by simp [L],I⟩
theorem jk.quiet {proved:Mm}{size:Nat}{m J:Ms σ}{L:List (Pl×Nat)}(h:jk fe proved size m L J)(W:WfM proved)(hm:WfM m.needed)(I:∀ q∈L,((yu proved m.needed q.1).getD q.2 .no).there=true):J.net=m.net:=by
 induction h using jk.ind with
 | nil m=>rfl
 | cons hj e _ ih =>
  rename_i m K Z l j c r _;obtain⟨f,U,H,Y,-,R⟩:=zcs e W hm hj;have h0:=I (zj size l j,j % 4) (by simp);simp only at h0;rcases R with ⟨rfl,V⟩ | ⟨Q,S,-,-,E⟩
  ·rw [ih (by rw [H];exact hm.snoc (zd2 U Y)) (fun q X=>?_),V];have D:=I q (by simp [X]);by_cases A:q.1=zj size l j
   ·have:yu proved K.needed q.1=jl (yu proved m.needed (zj size l j)) (j % 4):=by
     conv=>lhs;unfold yu
     rw [H,Mm.get_snoc,if_pos A]
    rw [this,zds,← A];exact D
   ·have:yu proved K.needed q.1=yu proved m.needed q.1:=by
     unfold yu;rw [H,Mm.get_snoc,if_neg A]
    rw [this];exact D
  ·rw [h0] at E;simp at E
end
end
end Go.Proofs.YtndkblnpbjffhaaGreatDoor
