import Derived.Test.YtinhekmmdlhfkaaGreatDoorG21
namespace Go.Proofs.YtinhekmmdlhfkaaGreatDoor
section
abbrev Say:=List UInt8→Option (List UInt8)
def placeS (say:Say)(p:Pl):Option Fl:=match say (nameP p) with
 | some d=>readF p.1 p.2.2 d
 | none=>none
def fileS (say:Say)(p:Pl):Option Fl:=match placeS say p with
 | some f=>some f
 | none=>if p.2.2=4 then none else match placeS say (p.1,p.2.1,4) with
  | some f=>some (clipF p.2.2 f)
  | none=>none
section
variable {σ : Type} {fe : σ → List UInt8 → (List UInt8 × Bool) × σ}
structure Tells (fe:σ→List UInt8→(List UInt8×Bool)×σ)(I:σ→Prop)(say:Say):Prop where
 says:∀ s q,I s→say q=if (fe s q).1.2 then some (fe s q).1.1 else none
 keep:∀ s q,I s→I (fe s q).2
theorem Tells.place {I:σ→Prop}{say:Say}(h:Tells fe I say){s:σ}(hI:I s)(p:Pl):(placeM fe s p).1=placeS say p∧I (placeM fe s p).2:=by
 refine⟨?_,h.keep s _ hI⟩
 unfold placeM placeS
 rw [h.says s (nameP p) hI]
 cases (fe s (nameP p)).1.2<;>rfl
theorem Tells.says_file {I:σ→Prop}{say:Say}(h:Tells fe I say):Says fe I (fileS say):=by
 have key:∀ s p,I s→(fileM fe s p).1=fileS say p∧I (fileM fe s p).2:=by
  intro s p hI
  obtain⟨e1,e2⟩:=h.place hI p
  unfold fileM fileS
  cases h1:placeM fe s p with
  | mk o s1 =>
   rw [h1] at e1 e2
   simp only at e1 e2
   rw [← e1]
   cases o with
   | some f=>exact⟨rfl,e2⟩
   | none =>
    by_cases h4:p.2.2=4
    ·simp only [h4,if_true];exact⟨trivial,e2⟩
    ·simp only [h4,if_false]
     obtain⟨g1,g2⟩:=h.place e2 (p.1,p.2.1,4)
     cases h2:placeM fe s1 (p.1,p.2.1,4) with
     | mk o2 s2 =>
      rw [h2] at g1 g2
      simp only at g1 g2
      rw [← g1]
      cases o2 with
      | some f=>exact⟨rfl,g2⟩
      | none=>exact⟨rfl,g2⟩
 exact⟨fun s p hI=>(key s p hI).1,fun s p hI=>(key s p hI).2⟩
end
def trueN (p:Pl)(k:Nat):Nat:=4*p.2.1.toNat+k
def TrueP (es:List (List UInt8))(p:Pl)(k:Nat)(c:Pc):Prop :=
 (p.1=-1→c.hash=leafH (es.getD (trueN p k) [])∧c.entry=es.getD (trueN p k) [])∧(p.1≠-1→c.hash=dataF es p.1 (trueN p k))
def trueH (es:List (List UInt8))(p:Pl)(k:Nat):List UInt8:=dataF es p.1 (trueN p k)
theorem trueN_place (size:Nat)(l:Int)(j:Nat):trueN (placeN size l j) (j % 4)=j:=by
 unfold trueN placeN
 simp only [Int.toNat_natCast]
 omega
theorem trueP_hash (es:List (List UInt8))(size:Nat)(l j:Nat)(c:Pc)(h:TrueP es (placeN size (l:Int) j) (j % 4) c):c.hash=trueH es (placeN size (l:Int) j) (j % 4) :=
 h.2 (by show(l:Int)≠-1;omega)
def Al (a n:Nat):Prop:=∃ e,n≤2 ^ e∧2 ^ e ∣ a
theorem al_zero (n:Nat):Al 0 n:=⟨n,Nat.le_of_lt Nat.lt_two_pow_self,Nat.dvd_zero _⟩
theorem kOf_two (n:Nat):∃ q,kOf n=2 ^ q:=⟨_,rfl⟩
theorem Al.left {a n:Nat}(h:Al a n)(h2:2≤n):Al a (kOf n):=by
 obtain⟨e,h1,hd⟩:=h
 obtain⟨k1,k2,k3⟩:=kOf_spec n h2
 exact⟨e,by omega,hd⟩
theorem Al.right {a n:Nat}(h:Al a n)(h2:2≤n):Al (a+kOf n) (n - kOf n):=by
 obtain⟨e,h1,hd⟩:=h
 obtain⟨k1,k2,k3⟩:=kOf_spec n h2
 obtain⟨q,hq⟩:=kOf_two n
 refine⟨q,by omega,?_⟩
 have hqe:q≤e:=by
  have:2 ^ q≤2 ^ e:=by rw [← hq];omega
  exact(Nat.pow_le_pow_iff_right (by omega:1 < 2)).1 this
 rw [hq]
 exact Nat.dvd_add (Nat.dvd_trans (Nat.pow_dvd_pow 2 hqe) hd) (Nat.dvd_refl _)
theorem Al.four {a l:Nat}(h:Al a (4 ^ l)):a / 4 ^ l*4 ^ l=a:=by
 obtain⟨e,h1,hd⟩:=h
 rw [four_pow] at *
 have:2*l≤e:=(Nat.pow_le_pow_iff_right (by omega:1 < 2)).1 h1
 exact Nat.div_mul_cancel (Nat.dvd_trans (Nat.pow_dvd_pow 2 this) hd)
theorem pathS_al:∀(f a n i:Nat),n≤2 ^ f→Al a n→∀ s∈pathS f a n i,Al s.1 s.2:=by
 intro f
 induction f with
 | zero=>intro a n i h ha s hs;simp [pathS] at hs
 | succ f ih =>
  intro a n i h ha s hs
  by_cases h1:n≤1
  ·rw [pathS_one _ _ _ _ h1] at hs;simp at hs
  obtain⟨k1,k2,k3,k4,k5,k6⟩:=kOf_half n f (by omega) h
  by_cases hi:i < a+kOf n
  ·rw [pathS_left f a n i (by omega) hi] at hs
   rcases List.mem_append.1 hs with hs | hs
   ·exact ih a (kOf n) i k1 (ha.left (by omega)) s hs
   ·obtain rfl:s=_:=List.mem_singleton.1 hs
    exact ha.right (by omega)
  ·rw [pathS_right f a n i (by omega) hi] at hs
   rcases List.mem_append.1 hs with hs | hs
   ·exact ih (a+kOf n) (n - kOf n) i k2 (ha.right (by omega)) s hs
   ·obtain rfl:s=_:=List.mem_singleton.1 hs
    exact ha.left (by omega)
theorem partS_al:∀(f m a n:Nat) (whole:Bool),n≤2 ^ f→a < m→m≤a+n→Al a n→∀ s∈partS f m a n whole,Al s.1 s.2:=by
 intro f
 induction f with
 | zero =>
  intro m a n whole h hm1 hm2 ha s hs
  unfold partS at hs
  split at hs
  ·split at hs
   ·simp at hs
   ·obtain rfl:s=_:=List.mem_singleton.1 hs
    exact ha
  ·simp at hs
 | succ f ih =>
  intro m a n whole h hm1 hm2 ha s hs
  by_cases hm:m=a+n
  ·rw [partS_end _ _ _ _ _ hm] at hs
   split at hs
   ·simp at hs
   ·obtain rfl:s=_:=List.mem_singleton.1 hs
    exact ha
  obtain⟨k1,k2,k3,k4,k5,k6⟩:=kOf_half n f (by omega) h
  by_cases hk:m≤a+kOf n
  ·rw [partS_left f m a n whole hm hk] at hs
   rcases List.mem_append.1 hs with hs | hs
   ·exact ih m a (kOf n) whole k1 hm1 hk (ha.left (by omega)) s hs
   ·obtain rfl:s=_:=List.mem_singleton.1 hs
    exact ha.right (by omega)
  ·rw [partS_right f m a n whole hm hk] at hs
   rcases List.mem_append.1 hs with hs | hs
   ·exact ih m (a+kOf n) (n - kOf n) false k2 (by omega) (by omega) (ha.right (by omega)) s hs
   ·obtain rfl:s=_:=List.mem_singleton.1 hs
    exact ha.left (by omega)
theorem rootH_true (es:List (List UInt8))(size:Nat)(hs:size≤es.length)(h63:size < 2 ^ 63):∀(f a n:Nat),a+n≤size→1≤n→n≤2 ^ f→Al a n→rootH (trueH es) size (f+1) a n=rootT (run es (a,n)):=by
 have base:∀(f a n:Nat),a+n≤size→1≤n→Al a n→n / 4 ^ lvl n=1→rootH (trueH es) size (f+1) a n=rootT (run es (a,n)):=by
  intro f a n hl h1 ha he
  obtain⟨-,-,hiff⟩:=lvl_spec n h1 (by omega)
  have hn:=hiff.1 he
  rw [rootH,if_pos he]
  unfold trueH
  rw [trueN_place]
  show dataF es ((lvl n:Nat):Int) _=_
  unfold dataF
  rw [if_neg (by omega),Int.toNat_natCast]
  unfold run
  rw [Al.four (l:=lvl n) (hn▸ha)]
  exact congrArg (fun x=>rootT ((es.drop a).take x)) hn.symm
 intro f
 induction f with
 | zero =>
  intro a n hl h1 h2 ha
  obtain rfl:n=1:=by omega
  exact base 0 a 1 hl (by omega) ha (by decide)
 | succ f ih =>
  intro a n hl h1 h2 ha
  by_cases he:n / 4 ^ lvl n=1
  ·exact base (f+1) a n hl h1 ha he
  ·have hn2:2≤n:=by
    rcases Nat.lt_or_ge n 2 with h | h
    ·exact absurd (by obtain rfl:n=1:=by omega
                      decide) he
    ·exact h
   obtain⟨k1,k2,k3,k4,k5,k6⟩:=kOf_half n f hn2 h2
   rw [rootH,if_neg he,ih a (kOf n) (by omega) k3 k1 (ha.left hn2),ih (a+kOf n) (n - kOf n) (by omega) k4 k2 (ha.right hn2)]
   have hr:=run_len es a n (by omega)
   rw [rootT_split (run es (a,n)) (by omega),hr,run_take es a n _ (by omega),run_drop]
theorem unbN_bunL:∀(ls:List (List UInt8) ),(∀ l∈ls,l.length≤20)→unb (bunL ls)=some ls:=by
 intro ls
 induction ls with
 | nil=>intro _;rfl
 | cons l ls ih =>
  intro h
  have hl:=h l (by simp)
  have e:bunL (l::ls)=UInt8.ofNat l.length::(l++bunL ls):=by simp [bunL,bun1]
  have hn:(UInt8.ofNat l.length).toNat=l.length:=by rw [UInt8.toNat_ofNat'];omega
  rw [e,unb_fit _ _ (by rw [hn];simp),hn]
  simp only [List.drop_left,List.take_left]
  rw [ih (fun x hx=>h x (by simp [hx]))]
  rfl
theorem unbF_bunL (ls:List (List UInt8))(h:okB ls=true):unbF (bunL ls)=some ls:=by
 have hl:∀ l∈ls,l.length≤20:=by
  intro l hl
  unfold okB at h
  simp only [Bool.and_eq_true,List.all_eq_true,decide_eq_true_eq] at h
  exact h.2.2 l hl
 unfold unbF
 rw [unbN_bunL ls hl]
 simp [h]
theorem fileD_bun (es:List (List UInt8))(j w:Nat)(h:4*j+w≤es.length):fileD es (-1) j w=bunL ((es.drop (4*j)).take w):=by
 unfold fileD bunL
 congr 1
 apply List.ext_getElem
 ·simp;omega
 ·intro i h1 h2
  simp only [List.length_map,List.length_range'] at h1
  simp only [List.getElem_map,List.getElem_range',List.getElem_take,List.getElem_drop]
  unfold dataF
  rw [if_pos rfl,List.getD_eq_getElem?_getD,List.getElem?_eq_getElem (by omega)]
  simp
theorem read_true (es:List (List UInt8))(h20:∀ e∈es,e.length≤20)(l:Int)(hl:-1≤l)(j w:Nat)(hw1:1≤w)(hw4:w≤4)(hj:4*j+w≤cntL l es.length):
  ∃ f,readF l w (fileD es l j w)=some f∧∀ k,k < 4→(f.getD k .no).there=true→TrueP es (l,(j:Int),(w:Int)) k (f.getD k .no):=by
 unfold readF
 by_cases h:l=-1
 ·subst h
  have hc:cntL (-1) es.length=es.length:=by unfold cntL;simp
  rw [hc] at hj
  rw [if_pos rfl,fileD_bun es j w hj]
  have hlen:((es.drop (4*j)).take w).length=w:=by simp;omega
  have hok:okB ((es.drop (4*j)).take w)=true:=by
   unfold okB
   simp only [Bool.and_eq_true,List.all_eq_true,decide_eq_true_eq]
   refine⟨by omega,by omega,fun x hx=>h20 x (List.mem_of_mem_drop (List.mem_of_mem_take hx))⟩
  rw [unbF_bunL _ hok]
  simp only [hlen,if_true]
  refine⟨_,rfl,fun k hk ht=>?_⟩
  rw [bunFl_get _ _ hk] at ht ⊢
  by_cases hkw:k < ((es.drop (4*j)).take w).length
  ·rw [if_pos hkw]
   have e:((es.drop (4*j)).take w).getD k []=es.getD (trueN (-1,(j:Int),(w:Int)) k) []:=by
    unfold trueN
    simp only [Int.toNat_natCast,List.getD_eq_getElem?_getD,List.getElem?_take,List.getElem?_drop]
    rw [if_pos (by omega)]
   rw [e]
   exact⟨fun _=>⟨rfl,rfl⟩,fun h=>absurd rfl h⟩
  ·rw [if_neg hkw] at ht;simp [Pc.no] at ht
 ·rw [if_neg h]
  obtain⟨L,rfl⟩:∃ L:Nat,l=(L:Int):=⟨l.toNat,by omega⟩
  rw [tile_len,if_pos (by omega)]
  refine⟨_,rfl,fun k hk ht=>?_⟩
  rw [tileFl_get _ _ _ hk] at ht ⊢
  by_cases hkw:k < (w:Int).toNat
  ·rw [if_pos hkw]
   refine⟨fun h'=>absurd h' h,fun _=>?_⟩
   have:=tile_hash es L (4*j+k) w (by omega)
   rw [show(4*j+k) / 4=j by omega,show(4*j+k) % 4=k by omega] at this
   unfold trueN
   simpa using this
  ·rw [if_neg hkw] at ht;simp [Pc.no] at ht
theorem dataF_first (es:List (List UInt8))(n:Nat)(l:Int)(k:Nat)(h:k < cntL l n)(_:n≤es.length):dataF (es.take n) l k=dataF es l k:=by
 unfold dataF cntL at *
 by_cases hl:l=-1
 ·rw [if_pos hl,if_pos hl]
  subst hl
  have h:k < n:=by simpa using h
  simp [List.getD_eq_getElem?_getD,h]
 ·rw [if_neg hl,if_neg hl]
  have hp:0 < 4 ^ l.toNat:=Nat.pow_pos (by omega)
  have:(k+1)*4 ^ l.toNat≤n:=(Nat.le_div_iff_mul_le hp).1 h
  rw [Nat.add_mul,Nat.one_mul] at this
  congr 1
  rw [List.drop_take,List.take_take]
  congr 1
  omega
theorem fileD_first (es:List (List UInt8))(n:Nat)(l:Int)(j w:Nat)(h:4*j+w≤cntL l n)(hn:n≤es.length):fileD (es.take n) l j w=fileD es l j w:=by
 unfold fileD
 congr 1
 apply List.map_congr_left
 intro k hk
 rw [List.mem_range'_1] at hk
 exact dataF_first es n l k (by omega) hn
end
section
abbrev WfF (p:Pl)(f:Fl):Prop:=GdF (fun _ _ _=>True) p f
abbrev WfM (m:Mm):Prop:=GdM (fun _ _ _=>True) m
theorem GdF.wf {V:Pl→Nat→Pc→Prop}{p:Pl}{f:Fl}(h:GdF V p f):WfF p f:=⟨h.1,fun k hk=>⟨(h.2 k hk).1,fun _=>trivial⟩⟩
theorem GdM.wf {V:Pl→Nat→Pc→Prop}{m:Mm}(h:GdM V m):WfM m:=⟨h.1,fun x hx=>(h.2 x hx).wf⟩
theorem Mm.get_snoc (m:Mm)(p q:Pl)(g:Fl):Mm.get (m.drop p++[(p,g)]) q=if q=p then some g else m.get q:=by
 unfold Mm.get
 rw [List.find?_append]
 by_cases h:q=p
 ·subst h
  have:(m.drop q).find? (fun x=>decide (x.1=q))=none:=by
   rw [List.find?_eq_none]
   intro x hx
   have:=(Mm.drop_mem.1 hx).2
   simpa using this
  rw [this]
  simp
 ·have h2:¬ p=q:=fun e=>h e.symm
  have:(m.drop p).find? (fun x=>decide (x.1=q))=m.find? (fun x=>decide (x.1=q)):=by
   unfold Mm.drop
   rw [List.find?_filter]
   congr 1
   funext x
   by_cases hx:x.1=q
   ·simp [hx,h]
   ·simp [hx]
  rw [this,if_neg h]
  cases m.find? (fun x=>decide (x.1=q)) with
  | none=>simp [h2]
  | some x=>simp
section
variable {σ : Type} {fe : σ → List UInt8 → (List UInt8 × Bool) × σ}
theorem needM_step {proved:Mm}{size:Nat}{m m1:Ms σ}{l:Int}{j:Nat}{c:Pc}(h:needM fe proved size m l j=(.inr c,m1))(hp:WfM proved)(hm:WfM m.needed)(hj:j < cntL l size):
  ∃ f,WfF (placeN size l j) f∧m1.needed=m.needed.drop (placeN size l j)++[(placeN size l j,fitsAt f (j % 4))]∧(f.getD (j % 4) .no).there=true∧c=(fitsAt f (j % 4)).getD (j % 4) .no ∧
   ((f=knownM proved m.needed (placeN size l j)∧m1.net=m.net)∨(∃ came,Came (placeN size l j).2.2 came∧f=fillF (knownM proved m.needed (placeN size l j)) came∧fileM fe m.net (placeN size l j)=(some came,m1.net)∧((knownM proved m.needed (placeN size l j)).getD (j % 4) .no).there=false)):=by
 have hw:(placeN size l j).2.2≤4:=by unfold placeN;simp;omega
 have hkw:((j % 4:Nat):Int) < (placeN size l j).2.2:=by unfold placeN;simp;omega
 have hk:=hp.known hm (placeN size l j)
 unfold needM at h
 generalize placeN size l j=p at *
 by_cases ht:((knownM proved m.needed p).getD (j % 4) .no).there=true
 ·rw [if_pos ht] at h
  simp only [Prod.mk.injEq,Sum.inr.injEq] at h
  obtain⟨rfl,rfl⟩:=h
  exact⟨_,hk,rfl,ht,rfl,.inl ⟨rfl,rfl⟩⟩
 ·rw [if_neg ht] at h
  cases hf:fileM fe m.net p with
  | mk o s =>
   rw [hf] at h
   cases o with
   | none=>simp at h
   | some came =>
    simp only [Prod.mk.injEq,Sum.inr.injEq] at h
    obtain⟨rfl,rfl⟩:=h
    have hc:=fileM_came hw hf
    have e:(knownM proved m.needed p).length=came.length:=by rw [hk.1,hc.len]
    have hcw:WfF p came:=⟨hc.len,fun k _=>⟨fun hh=>by rw [hc.fits k] at hh;simp at hh,fun _=>trivial⟩⟩
    refine⟨_,hk.fill hcw,rfl,?_,rfl,.inr ⟨came,hc,rfl,rfl,by simpa using ht⟩⟩
    rw [fillF_get _ _ e _ (by rw [hk.1];omega)]
    split
    ·rename_i hfit
     exact absurd ((hk.2 (j % 4) (by omega)).1 hfit) ht
    ·rw [hc.there _ (by omega)];simpa using hkw
def SeqN (fe:σ→List UInt8→(List UInt8×Bool)×σ)(proved:Mm)(size:Nat):Ms σ→List (Pl×Nat)→Ms σ→Prop
 | m,[],m'=>m'=m
 | m,x::r,m2=>∃(l:Int) (j:Nat) (c:Pc) (m1:Ms σ),x=(placeN size l j,j % 4)∧j < cntL l size∧needM fe proved size m l j=(.inr c,m1)∧SeqN fe proved size m1 r m2
theorem SeqN.nil {proved:Mm}{size:Nat}(m:Ms σ):SeqN fe proved size m [] m:=rfl
theorem SeqN.cons {proved:Mm}{size:Nat}{m m1 m2:Ms σ}{l:Int}{j:Nat}{c:Pc}{r:List (Pl×Nat)}(hj:j < cntL l size)(e:needM fe proved size m l j=(.inr c,m1))(h:SeqN fe proved size m1 r m2):SeqN fe proved size m ((placeN size l j,j % 4)::r) m2:=⟨l,j,c,m1,rfl,hj,e,h⟩
theorem SeqN.ind {proved:Mm}{size:Nat}{motive:(m:Ms σ)→(ps:List (Pl×Nat))→(m':Ms σ)→SeqN fe proved size m ps m'→Prop}(nil:∀ m,motive m [] m (SeqN.nil m))(cons:∀ {m m1 m2:Ms σ} {l:Int} {j:Nat} {c:Pc} {r:List (Pl×Nat)} (hj:j < cntL l size) (e:needM fe proved size m l j=(.inr c,m1)) (h:SeqN fe proved size m1 r m2),motive m1 r m2 h→motive m ((placeN size l j,j % 4)::r) m2 (SeqN.cons hj e h)):∀ {m:Ms σ} {ps:List (Pl×Nat)} {m':Ms σ} (h:SeqN fe proved size m ps m'),motive m ps m' h:=by
 intro m ps
 induction ps generalizing m with
 | nil =>
  intro m' h
  have e:m'=m:=h
  subst e
  exact nil m'
 | cons x r ih =>
  intro m' h
  obtain⟨l,j,c,m1,rfl,hj,e,h⟩:=h
  exact cons hj e h (ih h)
theorem SeqN.append {proved:Mm}{size:Nat}{m m1 m2:Ms σ}{a b:List (Pl×Nat)}(h:SeqN fe proved size m a m1)(h':SeqN fe proved size m1 b m2):SeqN fe proved size m (a++b) m2:=by
 induction h using SeqN.ind with
 | nil m=>exact h'
 | cons hj e _ ih=>exact .cons hj e (ih h')
theorem rootM_seq {proved:Mm}{size:Nat}(hs:size < 2 ^ 63):∀(f:Nat) (m m':Ms σ) (a n:Nat) (x:List UInt8),a+n≤size→1≤n→n≤2 ^ f→rootM fe proved size (f+1) m a n=(.inr x,m')→SeqN fe proved size m (rootPl size (f+1) a n) m':=by
 have base:∀(f:Nat) (m m':Ms σ) (a n:Nat) (x:List UInt8),a+n≤size→1≤n→n / 4 ^ lvl n=1→rootM fe proved size (f+1) m a n=(.inr x,m')→SeqN fe proved size m (rootPl size (f+1) a n) m':=by
  intro f m m' a n x hl h1 he h
  obtain⟨-,-,hiff⟩:=lvl_spec n h1 (by omega)
  have hj:=run_in' a n (lvl n) size hl (hiff.1 he)
  rw [rootPl,if_pos he]
  cases hn:needM fe proved size m (lvl n:Nat) (a / 4 ^ lvl n) with
  | mk o m1 =>
   cases o with
   | inl e=>rw [rootM_miss he hn] at h;simp at h
   | inr c =>
    rw [rootM_one he hn] at h
    simp only [Prod.mk.injEq] at h
    obtain⟨-,rfl⟩:=h
    exact .cons hj hn (.nil _)
 intro f
 induction f with
 | zero =>
  intro m m' a n x hl h1 h2 h
  obtain rfl:n=1:=by omega
  exact base 0 m m' a 1 x hl (by omega) (by decide) h
 | succ f ih =>
  intro m m' a n x hl h1 h2 h
  by_cases he:n / 4 ^ lvl n=1
  ·exact base (f+1) m m' a n x hl h1 he h
  ·have hn2:2≤n:=by
    rcases Nat.lt_or_ge n 2 with h | h
    ·exact absurd (by obtain rfl:n=1:=by omega
                      decide) he
    ·exact h
   obtain⟨k1,k2,k3,k4,k5,k6⟩:=kOf_half n f hn2 h2
   rw [rootPl,if_neg he]
   cases e1:rootM fe proved size (f+1) m a (kOf n) with
   | mk o m1 =>
    cases o with
    | inl e=>rw [rootM_left he e1] at h;simp at h
    | inr x1 =>
     cases e2:rootM fe proved size (f+1) m1 (a+kOf n) (n - kOf n) with
     | mk o m2 =>
      cases o with
      | inl e=>rw [rootM_right he e1 e2] at h;simp at h
      | inr x2 =>
       rw [rootM_two he e1 e2] at h
       simp only [Prod.mk.injEq] at h
       obtain⟨-,rfl⟩:=h
       exact(ih _ _ _ _ _ (by omega) k3 k1 e1).append (ih _ _ _ _ _ (by omega) k4 k2 e2)
theorem rootsM_seq {proved:Mm}{size:Nat}(hs:size < 2 ^ 63):∀(ss:List (Nat×Nat)) (m m':Ms σ) (xs:List (List UInt8)),(∀ s∈ss,s.1+s.2≤size∧1≤s.2)→rootsM fe proved size m ss=(.inr xs,m')→SeqN fe proved size m (ss.flatMap fun s=>rootPl size 64 s.1 s.2) m':=by
 intro ss
 induction ss with
 | nil =>
  intro m m' xs _ h
  simp only [rootsM,Prod.mk.injEq] at h
  obtain⟨-,rfl⟩:=h
  exact .nil _
 | cons s r ih =>
  intro m m' xs hl h
  obtain⟨h1,h2⟩:=hl s (by simp)
  cases e1:rootM fe proved size 64 m s.1 s.2 with
  | mk o m1 =>
   cases o with
   | inl e=>rw [rootsM_here e1] at h;simp at h
   | inr x1 =>
    cases e2:rootsM fe proved size m1 r with
    | mk o m2 =>
     cases o with
     | inl e=>rw [rootsM_then e1 e2] at h;simp at h
     | inr x2 =>
      rw [rootsM_more e1 e2] at h
      simp only [Prod.mk.injEq] at h
      obtain⟨-,rfl⟩:=h
      rw [List.flatMap_cons]
      exact(rootM_seq hs 63 _ _ _ _ _ h1 h2 (by omega) e1).append (ih _ _ _ (fun s' hs'=>hl s' (by simp [hs'])) e2)
theorem fitsAt_there (f:Fl)(k i:Nat):((fitsAt f k).getD i .no).there=(f.getD i .no).there:=by
 rw [fitsAt_get];split<;>rfl
theorem fitsAt_wf {p:Pl}{f:Fl}(h:WfF p f){k:Nat}(ht:(f.getD k .no).there=true):WfF p (fitsAt f k):=GdF.fitsAt (fun _ _ _ _ _=>trivial) h ht
theorem SeqN.keys {proved:Mm}{size:Nat}{m m':Ms σ}{ps:List (Pl×Nat)}(h:SeqN fe proved size m ps m')(hp:WfM proved)(hm:WfM m.needed):∀ x∈m'.needed,(∃ y∈m.needed,y.1=x.1)∨∃ q∈ps,q.1=x.1:=by
 induction h using SeqN.ind with
 | nil m=>exact fun x hx=> .inl ⟨x,hx,rfl⟩
 | cons hj e _ ih =>
  obtain⟨f,hf,e1,ht,-,-⟩:=needM_step e hp hm hj
  intro x hx
  rcases ih (by rw [e1];exact hm.snoc (fitsAt_wf hf ht)) x hx with ⟨y,hy,ey⟩ | ⟨q,hq,eq⟩
  ·rw [e1] at hy
   rcases List.mem_append.1 hy with hy | hy
   ·exact .inl ⟨y,(Mm.drop_mem.1 hy).1,ey⟩
   ·obtain rfl:=List.mem_singleton.1 hy
    exact .inr ⟨_,List.mem_cons_self,ey⟩
  ·exact .inr ⟨q,by simp [hq],eq⟩
theorem SeqN.has {proved:Mm}{size:Nat}{m m':Ms σ}{ps:List (Pl×Nat)}(h:SeqN fe proved size m ps m')(hp:WfM proved)(hm:WfM m.needed):Has m'.needed ps∧∀ qs,Has m.needed qs→Has m'.needed qs:=by
 induction h using SeqN.ind with
 | nil m=>exact⟨fun x hx=>by simp at hx,fun qs hq=>hq⟩
 | cons hj e _ ih =>
  rename_i m m1 m2 l j c r _
  obtain⟨f,hf,e1,ht,-,hc⟩:=needM_step e hp hm hj
  have hw:WfM m1.needed:=by rw [e1];exact hm.snoc (fitsAt_wf hf ht)
  obtain⟨i1,i2⟩:=ih hw
  have hg:(fitsAt f (j % 4)).length=4:=by rw [fitsAt_len];exact hf.1
  have hown:Has m1.needed [(placeN size l j,j % 4)]:=by
   intro x hx
   obtain rfl:=List.mem_singleton.1 hx
   refine⟨fitsAt f (j % 4),by rw [e1,Mm.get_snoc,if_pos rfl],hg,by rw [fitsAt_there];exact ht,?_⟩
   rw [fitsAt_get,if_pos ⟨rfl,by rw [hf.1];omega⟩]
  have hold:∀ qs,Has m.needed qs→Has m1.needed qs:=by
   intro qs hq x hx
   obtain⟨g,g1,g2,g3,g4⟩:=hq x hx
   by_cases hxp:x.1=placeN size l j
   ·refine⟨fitsAt f (j % 4),by rw [e1,Mm.get_snoc,if_pos hxp],hg,?_⟩
    have hkn:knownM proved m.needed (placeN size l j)=g:=by unfold knownM;rw [← hxp,g1]
    have hx4:x.2 < 4:=by
     rcases Nat.lt_or_ge x.2 4 with h | h
     ·exact h
     ·rw [List.getD_eq_getElem?_getD,List.getElem?_eq_none (by omega)] at g3;simp [Pc.no] at g3
    have hfx:(f.getD x.2 .no).there=true∧(f.getD x.2 .no).fits=true:=by
     rcases hc with ⟨rfl,-⟩ | ⟨came,hcm,rfl,-,-⟩
     ·rw [hkn];exact⟨g3,g4⟩
     ·rw [hkn] at *
      rw [fillF_get _ _ (by rw [g2,hcm.len]) _ (by omega),if_pos g4]
      exact⟨g3,g4⟩
    refine⟨by rw [fitsAt_there];exact hfx.1,?_⟩
    rw [fitsAt_get];split
    ·rfl
    ·exact hfx.2
   ·exact⟨g,by rw [e1,Mm.get_snoc,if_neg hxp];exact g1,g2,g3,g4⟩
  refine⟨?_,fun qs hq=>i2 qs (hold qs hq)⟩
  intro x hx
  rcases List.mem_cons.1 hx with rfl | hx
  ·exact i2 _ hown _ (by simp)
  ·exact i1 x hx
def Wh (proved:Mm)(x:Pl×Fl):Prop:=proved.get x.1=none→∀ k:Nat,k < 4→(k:Int) < x.1.2.2→(x.2.getD k .no).there=true
theorem SeqN.whole {proved:Mm}{size:Nat}{m m':Ms σ}{ps:List (Pl×Nat)}(h:SeqN fe proved size m ps m')(hp:WfM proved)(hm:WfM m.needed)(hw:∀ x∈m.needed,Wh proved x):∀ x∈m'.needed,Wh proved x:=by
 induction h using SeqN.ind with
 | nil m=>exact hw
 | cons hj e _ ih =>
  rename_i m m1 m2 l j c r _
  obtain⟨f,hf,e1,ht,-,hc⟩:=needM_step e hp hm hj
  refine ih (by rw [e1];exact hm.snoc (fitsAt_wf hf ht)) (fun x hx=>?_)
  rw [e1] at hx
  rcases List.mem_append.1 hx with hx | hx
  ·exact hw x (Mm.drop_mem.1 hx).1
  ·obtain rfl:=List.mem_singleton.1 hx
   intro hno k hk4 hkw
   rw [fitsAt_there]
   simp only at hno hkw
   generalize placeN size l j=p at *
   cases hg:m.needed.get p with
   | some g =>
    have hkn:knownM proved m.needed p=g:=by unfold knownM;rw [hg]
    have hgk:=hw _ (Mm.get_mem hg) hno k hk4 hkw
    simp only at hgk
    rcases hc with ⟨rfl,-⟩ | ⟨came,hcm,rfl,-,-⟩
    ·rw [hkn];exact hgk
    ·have hgl:=(hm.get hg).1
     rw [hkn,fillF_get _ _ (by rw [hgl,hcm.len]) _ (by omega)]
     split
     ·exact hgk
     ·rw [hcm.there k hk4];simpa using hkw
   | none =>
    have hkn:knownM proved m.needed p=Fl.no:=by unfold knownM;rw [hg,hno]
    rcases hc with ⟨rfl,-⟩ | ⟨came,hcm,rfl,-,-⟩
    ·rw [hkn] at ht
     have:j % 4 < 4:=Nat.mod_lt _ (by omega)
     generalize j % 4=q at *
     match q,this with
     | 0,_ | 1,_ | 2,_ | 3,_=>simp [Fl.no,Pc.no] at ht
    ·rw [hkn,fillF_get _ _ (by rw [hcm.len];rfl) _ (by show k < 4;exact hk4)]
     split
     ·rename_i hh
      match k,hk4 with
      | 0,_ | 1,_ | 2,_ | 3,_=>simp [Fl.no,Pc.no] at hh
     ·rw [hcm.there k hk4];simpa using hkw
end
end
section
def TrueQ (es:List (List UInt8))(p:Pl)(k:Nat)(c:Pc):Prop:=TrueP es p k c∧trueN p k < cntL p.1 es.length
theorem trueQ_bare (es:List (List UInt8))(p:Pl)(k:Nat)(c:Pc)(b:Bool)(h:TrueQ es p k c):TrueQ es p k { c with fits:=b }:=h
theorem cntL_mono (l:Int){a b:Nat}(h:a≤b):cntL l a≤cntL l b:=Nat.div_le_div_right h
theorem dataF_run (es:List (List UInt8))(l k:Nat):dataF es (l:Int) k=rootT (run es (k*4 ^ l,4 ^ l)):=by
 unfold dataF run
 rw [if_neg (by omega),Int.toNat_natCast]
theorem rootT_two (es:List (List UInt8))(a q:Nat)(h:a+2 ^ (q+1)≤es.length):rootT (run es (a,2 ^ (q+1)))=nodeH (rootT (run es (a,2 ^ q))) (rootT (run es (a+2 ^ q,2 ^ q))):=by
 have hr:=run_len es a (2 ^ (q+1)) h
 have h2:2 ^ (q+1)=2*2 ^ q:=by rw [Nat.pow_succ];omega
 have hp:0 < 2 ^ q:=Nat.pow_pos (by omega)
 rw [rootT_split _ (by omega),hr,kOf_pow,run_take es a _ _ (by omega),run_drop]
 congr 4
 omega
theorem dataF_up (es:List (List UInt8))(l k:Nat)(h:4*k+3 < cntL (l:Int) es.length):
  dataF es ((l+1:Nat):Int) k=nodeH (nodeH (dataF es (l:Int) (4*k)) (dataF es (l:Int) (4*k+1))) (nodeH (dataF es (l:Int) (4*k+2)) (dataF es (l:Int) (4*k+3))):=by
 simp only [dataF_run]
 have hp:0 < 4 ^ l:=Nat.pow_pos (by omega)
 have hl:(4*k+4)*4 ^ l≤es.length:=by
  unfold cntL at h
  rw [Int.toNat_natCast] at h
  exact(Nat.le_div_iff_mul_le hp).1 h
 have e0:4 ^ l=2 ^ (2*l):=four_pow l
 have e1:4 ^ (l+1)=2 ^ (2*l+1+1):=by rw [four_pow];congr 1
 have e2:2 ^ (2*l+1+1)=4*4 ^ l:=by rw [e0,Nat.pow_succ,Nat.pow_succ];omega
 have e3:2 ^ (2*l+1)=2*4 ^ l:=by rw [e0,Nat.pow_succ];omega
 have hk:k*4 ^ (l+1)=4*k*4 ^ l:=by rw [e1,e2,Nat.mul_comm 4 k,Nat.mul_assoc]
 rw [Nat.add_mul] at hl
 rw [hk,e1,rootT_two es _ _ (by rw [e2];exact hl),rootT_two es _ _ (by rw [e3];omega),rootT_two es _ _ (by rw [e3];omega),e3,← e0]
 congr 4
 ·congr 2;rw [Nat.add_mul];omega
 ·congr 2;rw [Nat.add_mul]
 ·congr 2;rw [Nat.add_mul];omega
theorem trueQ_new (es:List (List UInt8))(size l j:Nat)(h:List UInt8)(hj:j < cntL (l:Int) es.length)(hh:h=dataF es (l:Int) j):TrueQ es (placeN size (l:Int) j) (j % 4) ⟨true,true,h,[]⟩:=by
 refine⟨⟨fun e=>?_,fun _=>?_⟩,?_⟩
 ·have:((l:Nat):Int)=-1:=e
  omega
 ·rw [trueN_place];exact hh
 ·rw [trueN_place];exact hj
theorem GdF.set {V:Pl→Nat→Pc→Prop}{p:Pl}{f:Fl}(h:GdF V p f){k:Nat}{c:Pc}(hc:Gd V p k c):GdF V p (f.set k c):=by
 refine⟨by rw [List.length_set];exact h.1,fun i hi=>?_⟩
 rw [set_get]
 split
 ·rename_i hh
  obtain⟨rfl,-⟩:=hh
  exact hc
 ·exact h.2 i hi
theorem rootP_some {f:Fl}{u:List UInt8}(h:rootP f=some u):f.length=4∧(∀ k,k < 4→(f.getD k .no).fits=true)∧u=nodeH (nodeH (f.getD 0 .no).hash (f.getD 1 .no).hash) (nodeH (f.getD 2 .no).hash (f.getD 3 .no).hash):=by
 match f,h with
 | [a,b,c,d],h =>
  unfold rootP at h
  simp only at h
  split at h
  ·rename_i hf
   simp only [Bool.and_eq_true] at hf
   simp only [Option.some.injEq] at h
   refine⟨rfl,fun k hk=>?_,h.symm⟩
   match k,hk with
   | 0,_=>exact hf.1.1.1
   | 1,_=>exact hf.1.1.2
   | 2,_=>exact hf.1.2
   | 3,_=>exact hf.2
  ·simp at h
theorem settleM_gd (es:List (List UInt8))(size:Nat):∀(f:Nat) (nd:Mm) (l j:Nat) (h:List UInt8),GdM (TrueQ es) nd→j < cntL (l:Int) es.length→h=dataF es (l:Int) j→GdM (TrueQ es) (settleM size f nd l j h):=by
 intro f
 induction f with
 | zero=>intro nd l j h hn _ _;exact hn
 | succ f ih =>
  intro nd l j h hn hj hh
  rw [settleM]
  cases hg:nd.get (placeN size (l:Int) j) with
  | none=>exact hn
  | some fl =>
   simp only
   have hF:GdF (TrueQ es) (placeN size (l:Int) j) (fl.set (j % 4) ⟨true,true,h,[]⟩):=(hn.get hg).set ⟨fun _=>rfl,fun _=>trueQ_new es size l j h hj hh⟩
   have hS:=hn.set hF
   cases hr:rootP (fl.set (j % 4) ⟨true,true,h,[]⟩) with
   | none=>exact hS
   | some up =>
    simp only
    obtain⟨r1,r2,r3⟩:=rootP_some hr
    have hq:∀ k,k < 4→((fl.set (j % 4) ⟨true,true,h,[]⟩).getD k .no).hash=dataF es (l:Int) (4*(j / 4)+k)∧4*(j / 4)+k < cntL (l:Int) es.length:=by
     intro k hk
     obtain⟨g1,g2⟩:=hF.2 k hk
     obtain⟨⟨-,t1⟩,t2⟩:=g2 (g1 (r2 k hk))
     have e:trueN (placeN size (l:Int) j) k=4*(j / 4)+k:=by unfold trueN placeN;simp only [Int.toNat_natCast]
     rw [e] at t1 t2
     exact⟨t1 (by show((l:Nat):Int)≠-1;omega),t2⟩
    have q3:=(hq 3 (by omega)).2
    refine ih _ (l+1) (j / 4) up hS ?_ ?_
    ·unfold cntL at *
     rw [Int.toNat_natCast] at *
     rw [Nat.pow_succ,← Nat.div_div_eq_div_mul]
     omega
    ·rw [r3,(hq 0 (by omega)).1,(hq 1 (by omega)).1,(hq 2 (by omega)).1,(hq 3 (by omega)).1]
     exact(dataF_up es l (j / 4) q3).symm
theorem settleM_keys (size:Nat):∀(f:Nat) (nd:Mm) (l j:Nat) (h:List UInt8),(settleM size f nd l j h).map (·.1)=nd.map (·.1):=by
 intro f
 induction f with
 | zero=>intro nd l j h;rfl
 | succ f ih =>
  intro nd l j h
  rw [settleM]
  cases hg:nd.get (placeN size (l:Int) j) with
  | none=>rfl
  | some fl =>
   simp only
   cases hr:rootP (fl.set (j % 4) ⟨true,true,h,[]⟩) with
   | none=>exact Mm.set_keys _ _ _
   | some up=>rw [ih];exact Mm.set_keys _ _ _
theorem besideF_get (b l:Fl)(hb:b.length=4)(hl:l.length=4)(k:Nat)(hk:k < 4):(besideF b l).getD k .no=if ((b.getD k .no).there&&(l.getD k .no).fits&&decide ((b.getD k .no).hash=(l.getD k .no).hash))=true then { b.getD k .no with fits:=true } else b.getD k .no:=by
 have h1:k < b.length:=by omega
 have h2:k < l.length:=by omega
 unfold besideF
 simp only [List.getD_eq_getElem?_getD,List.getElem?_zipWith,List.getElem?_eq_getElem h1,List.getElem?_eq_getElem h2,Option.getD_some]
theorem besideF_len (b l:Fl)(hb:b.length=4)(hl:l.length=4):(besideF b l).length=4:=by simp [besideF,hb,hl]
theorem besideF_gd {V:Pl→Nat→Pc→Prop}(hV:∀ p k c b,V p k c→V p k { c with fits:=b }){p:Pl}{b l:Fl}(hb:GdF V p b)(hl:l.length=4):GdF V p (besideF b l):=by
 refine⟨besideF_len b l hb.1 hl,fun k hk=>?_⟩
 rw [besideF_get b l hb.1 hl k hk]
 split
 ·rename_i h
  simp only [Bool.and_eq_true] at h
  exact⟨fun _=>h.1.1,fun ht=>hV _ _ _ _ ((hb.2 k hk).2 ht)⟩
 ·exact hb.2 k hk
theorem settleE_any {V:Pl→Nat→Pc→Prop}(hV:∀ p k c b,V p k c→V p k { c with fits:=b })(size:Nat)(nd:Mm)(i:Nat)(leaf:List UInt8)(h:GdM V (settleM size 64 nd 0 i leaf)):GdM V (settleE size nd i leaf):=by
 unfold settleE
 cases h1:(settleM size 64 nd 0 i leaf).get (placeN size 0 i) with
 | none=>exact h
 | some ls =>
  simp only
  cases h2:(settleM size 64 nd 0 i leaf).get (placeN size (-1) i) with
  | none=>exact h
  | some b=>exact h.set (besideF_gd hV (h.get h2) (h.get h1).1)
theorem settleE_gd (es:List (List UInt8))(size:Nat)(nd:Mm)(i:Nat)(leaf:List UInt8)(h:GdM (TrueQ es) nd)(hi:i < es.length)(hl:leaf=leafH (es.getD i [])):GdM (TrueQ es) (settleE size nd i leaf):=by
 refine settleE_any (trueQ_bare es) size nd i leaf (settleM_gd es size 64 nd 0 i leaf h (by simpa [cntL] using hi) ?_)
 rw [hl,dataF_run]
 have:run es (i*4 ^ 0,4 ^ 0)=[es.getD i []]:=by
  unfold run
  simp only [Nat.pow_zero,Nat.mul_one]
  rw [List.drop_eq_getElem_cons hi,List.getD_eq_getElem?_getD,List.getElem?_eq_getElem hi]
  rfl
 rw [this,rootT_one]
theorem settleE_keys (size:Nat)(nd:Mm)(i:Nat)(leaf:List UInt8):(settleE size nd i leaf).map (·.1)=nd.map (·.1):=by
 unfold settleE
 cases h1:(settleM size 64 nd 0 i leaf).get (placeN size 0 i) with
 | none=>exact settleM_keys ..
 | some ls =>
  simp only
  cases h2:(settleM size 64 nd 0 i leaf).get (placeN size (-1) i) with
  | none=>exact settleM_keys ..
  | some b=>simp only;rw [Mm.set_keys];exact settleM_keys ..
end
end Go.Proofs.YtinhekmmdlhfkaaGreatDoor
