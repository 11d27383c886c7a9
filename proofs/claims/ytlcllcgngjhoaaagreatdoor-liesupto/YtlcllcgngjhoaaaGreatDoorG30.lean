import Derived.Test.YtlcllcgngjhoaaaGreatDoorG29
set_option maxHeartbeats 8000000
set_option maxRecDepth 100000
set_option linter.all false
namespace Go.Proofs.YtlcllcgngjhoaaaGreatDoor
open Go.RowKit Go.Proofs.Tryz
def zdz:=@List.getElem_toArray
variable {A A' O OP OP':Nat→Prop}{T:List Nat}{b nm pm:Nat}{v:Value}{w w':World}
def zbi {α β:Type}(R:α→β→Prop):List α→List β→Prop
 | [],[]=>True
 | a::l,b::m=>R a b∧zbi R l m
 | _,_=>False
theorem zbi.nil {α β:Type}{R:α→β→Prop}:zbi R [] []:=trivial
theorem zbi.cons {α β:Type}{R:α→β→Prop}{a:α}{b:β}{l:List α}{m:List β}(h:R a b)(t:zbi R l m):zbi R (a::l) (b::m):=⟨h,t⟩
theorem zbi.ind {α β:Type}{R:α→β→Prop}{c:(l:List α)→(m:List β)→zbi R l m→Prop}(nil:c [] [] zbi.nil)(cons:∀ {a:α} {b:β} {l:List α} {m:List β} (h:R a b) (t:zbi R l m),c l m t→c (a::l) (b::m) (zbi.cons h t)):∀ {l:List α} {m:List β} (h:zbi R l m),c l m h
 | [],[],_=>nil
 | _::_,_::_,h=>cons h.1 h.2 (zbi.ind nil cons h.2)
 | [],_::_,h=>False.elim h
 | _::_,[],h=>False.elim h
theorem zbi.empty {α β:Type}{R:α→β→Prop}{l:List α}(h:zbi R l ([]:List β)):l=[]:=by
 cases l with
 | nil=>rfl
 | cons a l=>exact False.elim h
theorem zbi.len {α β:Type}{R:α→β→Prop}{l:List α}{m:List β}(h:zbi R l m):l.length=m.length:=by
 induction h using zbi.ind with
 | nil=>rfl
 | cons _ _ a=>simp [a]
theorem zbi.mono {α β:Type}{R c:α→β→Prop}{l:List α}{m:List β}(h:zbi R l m)(d:∀ a∈l,∀ b,R a b→c a b):zbi c l m:=by
 induction h using zbi.ind with
 | nil=>exact .nil
 | cons e _ g=>exact .cons (d _ (by simp) _ e) (g fun a f b=>d a (by simp [f]) b)
theorem zbi.append {α β:Type}{R:α→β→Prop}{l a:List α}{m b:List β}(h:zbi R l m)(c:zbi R a b):zbi R (l++a) (m++b):=by
 induction h using zbi.ind with
 | nil=>exact c
 | cons d _ e=>exact .cons d e
theorem zbi.snoc {α β:Type}{R:α→β→Prop}{l:List α}{m:List β}(h:zbi R l m){a:α}{b:β}(c:R a b):zbi R (l++[a]) (m++[b]):=h.append (.cons c .nil)
theorem zbi.filter {α β:Type}{R:α→β→Prop}{l:List α}{m:List β}(h:zbi R l m)(p:α→Bool)(q:β→Bool)(d:∀ a b,R a b→p a=q b):zbi R (l.filter p) (m.filter q):=by
 induction h using zbi.ind with
 | nil=>exact .nil
 | cons f _ g =>
  rename_i a b l m _;have e:=d a b f;cases c:p a with
  | true=>rw [List.filter_cons_of_pos c,List.filter_cons_of_pos (by rw [← e];exact c)];exact .cons f g
  | false=>rw [List.filter_cons_of_neg (by simp [c]),List.filter_cons_of_neg (by rw [← e];simp [c])];exact g
theorem zbi.find {α β:Type}{R:α→β→Prop}{l:List α}{m:List β}(h:zbi R l m)(p:α→Bool)(q:β→Bool)(d:∀ a b,R a b→p a=q b):(l.find? p=none∧m.find? q=none)∨∃ a b,l.find? p=some a∧m.find? q=some b∧R a b∧a∈l∧b∈m:=by
 induction h using zbi.ind with
 | nil=>exact .inl ⟨rfl,rfl⟩
 | cons g _ f =>
  rename_i a b l m _;have e:=d a b g;cases c:p a with
  | true=>exact .inr ⟨a,b,List.find?_cons_of_pos c,List.find?_cons_of_pos (by rw [← e];exact c),g,by simp,by simp⟩
  | false =>
   rw [List.find?_cons_of_neg (by simp [c]),List.find?_cons_of_neg (by rw [← e];simp [c])];rcases f with f | ⟨i,j,k,n,o,r,s⟩
   ·exact .inl f
   ·exact .inr ⟨i,j,k,n,o,by simp [r],by simp [s]⟩
theorem zbi.mem {α β:Type}{R:α→β→Prop}{l:List α}{m:List β}(h:zbi R l m):∀ a∈l,∃ b∈m,R a b:=by
 induction h using zbi.ind with
 | nil=>simp
 | cons d _ g =>
  intro a c;rcases jr.1 c with rfl | c
  ·exact⟨_,by simp,d⟩
  ·obtain⟨b,e,f⟩:=g a c;exact⟨b,by simp [e],f⟩
theorem zbi.map {α β γ:Type}{R:α→β→Prop}{l:List α}{m:List β}(h:zbi R l m)(f:α→γ)(g:β→γ)(e:∀ a b,R a b→f a=g b):l.map f=m.map g:=by
 induction h using zbi.ind with
 | nil=>rfl
 | cons c _ d=>simp [d,e _ _ c]
theorem zbi.tail {α β:Type}{R:α→β→Prop}{l:List α}{m:List β}(h:zbi R l m):zbi R l.tail m.tail:=by
 induction h using zbi.ind with
 | nil=>exact .nil
 | cons _ h _=>exact h
abbrev zgx:Int:=9223372036854775807
def z13 (w:World)(A:Nat→Prop)(v:Value)(f:Fl):Prop:=∃ a b,v=yx a∧A a∧yu w a b∧FOk b∧zdj w b f
def NdR (w:World)(A:Nat→Prop)(x:Nat×Pl×Value)(y:Pl×Fl):Prop:=x.2.1=y.1∧z13 w A x.2.2 y.2
def zod (w:World)(A:Nat→Prop)(c:Nat)(b:Mm):Prop:=∃ a,zen w A c zgx a∧zbi (NdR w A) a b∧(a.map (·.2.2)).Nodup
def PrR (w:World)(x:Nat×Pl×List Value)(y:Pl×Fl):Prop:=x.2.1=y.1∧∃ a,x.2.2=vf a∧FOk a∧zdj w a y.2
def zof (w:World)(c:Nat→Prop)(d:Nat)(a:Int)(e:Mm):Prop:=∃ b,zjg w c d a b∧zbi (PrR w) b e
theorem z4r {a:Nat}(h:yx a=yx b):a=b:=by
 unfold yx at h;injection h with h;injection h with h;injection h
theorem zod.get {g:Mm}{c:LsN}(h:zbi (NdR w A) c g)(p:Pl):(c.get p=none∧g.get p=none)∨∃ b v f,c.get p=some (b,v)∧g.get p=some f∧z13 w A v f∧(b,p,v)∈c:=by
 rcases h.find (fun x=>decide (x.2.1=p)) (fun x=>decide (x.1=p)) (fun a b k=>by rw [k.1]) with ⟨d,e⟩ | ⟨a,b,d,e,i,j,l⟩
 ·exact .inl ⟨by unfold LsN.get;rw [d],by unfold Mm.get;rw [e]⟩
 ·have:=zju d;simp only [vj] at this;subst this;exact .inr ⟨a.1,a.2.2,b.2,by unfold LsN.get;rw [d],by unfold Mm.get;rw [e],i.2,j⟩
theorem zof.get {d:LsP}{j:Mm}(h:zbi (PrR w) d j)(p:Pl):(d.get p=none∧j.get p=none)∨∃ b c f,d.get p=some (b,vf c)∧j.get p=some f∧FOk c∧zdj w c f:=by
 rcases h.find (fun x=>decide (x.2.1=p)) (fun x=>decide (x.1=p)) (fun a b n=>by rw [n.1]) with ⟨g,i⟩ | ⟨a,b,g,i,k,o,q⟩
 ·exact .inl ⟨by unfold LsP.get;rw [g],by unfold Mm.get;rw [i]⟩
 ·obtain⟨k,c,e,l,m⟩:=k;exact .inr ⟨a.1,c,b.2,by unfold LsP.get;rw [g];show some (a.1,a.2.2)=_;rw [e],by unfold Mm.get;rw [i],l,m⟩
theorem z13.turn {f:Fl}(h:z13 w A v f)(a:zq O T w w')(c:xg∉T)(d:5∉T)(m:∀ k,A k→A' k):z13 w' A' v f:=by
 obtain⟨b,n,e,g,i,j,l⟩:=h;exact⟨b,n,e,m _ g,a.keep i c,j,l.turn a d⟩
theorem PrR.turn {x:Nat×Pl×List Value}{y:Pl×Fl}(h:PrR w x y)(f:zq O T w w')(b:5∉T):PrR w' x y:=by
 obtain⟨a,g,e,c,d⟩:=h;exact⟨a,g,e,c,d.turn f b⟩
theorem zof.stay {c:Int}{e:Mm}(h:zof w OP pm c e)(d:zq O T w w')(j:∀ k,OP k→¬ O k)(l:5∉T)(m:∀ k,OP k→OP' k):zof w' OP' pm c e:=by
 obtain⟨f,g,i⟩:=h;exact⟨f,g.stay d j m,i.mono fun a _ b n=>n.turn d l⟩
theorem zod.stay {f:Mm}(h:zod w A nm f)(e:zq O T w w')(m:∀ k,A k→¬ O k)(n:5∉T)(o:xg∉T)(c:∀ k,A k→A' k):zod w' A' nm f:=by
 obtain⟨g,i,j,l⟩:=h;exact⟨g,i.stay e m c,j.mono fun a _ b d=>⟨d.1,d.2.turn e o n c⟩,l⟩
structure CCs (C:Array Value)(nb pm nm:Nat):Prop where
 net:C[2]?=some (zwm nb)
 prv:C[13]?=some (yx pm)
 nee:C[14]?=some (yx nm)
structure CS (W0 w:World)(O A OP:Nat→Prop)(cb nb db pm nm:Nat)(C:Array Value)(d:Dk)(room:Int)(pr:Mm)(m:Ms Nt)(k:Nat):Prop where
 base:Below W0.heap.size W0 w
 own:∀ b,O b∨A b→W0.heap.size≤b
 apart:∀ b,O b→¬ A b
 lt:∀ b,O b∨A b∨OP b→b < w.heap.size
 disk:yw w O db d
 net:zdn w O nb db m.net
 st:NSt d m.net
 few:m.net.fetches+2*k < 4611686018427387904
 cli:w.heap[cb]?=some (.cells C zbx (0,0))
 cells:CCs C nb pm nm
 prv:zof w OP pm room pr
 away:∀ b,OP b→¬(O b∨A b)
 nee:zod w A nm m.needed
 short:m.needed.length+k≤1000000000
abbrev qT:List Nat:=[93,3,LkN,xg]
def ymr (a:Nat→Addr)(b:World)(o:Sum (zc) Pc)(r:Ending):Prop :=
 (∃ x c,o= .inr c∧x.ok∧zji b x c∧r= .returned (.tuple #[.agg x.cs.toArray,.nilIface])) ∨
 (∃ p g,o= .inl p∧b.heap[g]?=some (.cells #[qo p,zd2 a 5] 179 (0,0))∧r= .returned (.tuple #[.agg Px.no.cs.toArray,za7 g]))
variable {B cb db fb j k kk mb nb nbb pb:Nat}{C:Array Value}{O1:Nat→Prop}{V W0 X Y a w4 w8 wc:World}{d:Dk}{n':Nt}
section
attribute [local go_sem ↓] jy jn j4 jo ji jh j3 jm
abbrev zhr:Array Value:=#[.bool false,.bool false,.int .u8 0,.int .u8 0,.int .u8 0,.int .u8 0,.int .u8 0,.int .u8 0,.int .u8 0,.int .u8 0,.slice none 0 0]
def z0k (w e:World)(A:Nat→Prop)(d:LsN)(p:Pl)(f:Fl)(a:Nat):Prop:=∃ c,yu e a c∧FOk c∧zdj e c f∧((A a∧∃ b,d.get p=some (b,yx a))∨(d.get p=none∧w.heap.size+2≤a))
theorem ylg {c:LsN}{p:Pl}{f:Fl}{a:List Px}(i:c.get p=none)(l:w.heap.size+1≤pb∧pb < wc.heap.size)(d:Below w.heap.size w wc)(b:Below wc.heap.size wc w4)(h:yu (w4.alloc (.cells za6 xg)) w4.heap.size Fx.no)(e:FOk a)(j:zdj w a f):
  z0k w ((w4.alloc (.cells za6 xg)).setCells w4.heap.size 0 (vf a)) A c p f w4.heap.size:=by
 have k:=b.size;have g:Below w.heap.size w ((w4.alloc (.cells za6 xg)).setCells w4.heap.size 0 (vf a)):=d.trans ((xn (b.alloc b.size _) b.size _ _).mono d.size);exact⟨a,zap h Fx.no_ok e,e,j.below g,.inr ⟨i,by omega⟩⟩
theorem ylh {b:LsN}{p:Pl}{f:Fl}{a:List Px}(i:b.get p=none)(k:w.heap.size+1≤pb∧pb < wc.heap.size)(c:Below w.heap.size w wc)(e:Below (wc.alloc (.cells za6 xg)).heap.size (wc.alloc (.cells za6 xg)) w4)(h:yu w4 wc.heap.size Fx.no)(d:FOk a)(j:zdj w a f):
  z0k w (w4.setCells wc.heap.size 0 (vf a)) A b p f wc.heap.size:=by
 have g:Below w.heap.size w (w4.setCells wc.heap.size 0 (vf a)):=c.trans ((xn ((zk wc _).trans (e.mono (by simp))) (zm _) _ _).mono c.size);exact⟨a,zap h Fx.no_ok d,d,j.below g,.inr ⟨i,by omega⟩⟩
theorem CS.next {c:Int}{o:Mm}{m:Ms Nt}(h:CS W0 w O A OP cb nb db pm nm C d c o m k)(i:zq (fun b=>O b∨A b) qT w w')(f:Ms Nt)(n:Nat)
 (r:zdn w' O nb db f.net) (s:NSt d f.net) (q:f.net.fetches+2*n < 4611686018427387904) (j:zod w' (jz A w w') nm f.needed) (l:f.needed.length+n≤1000000000):CS W0 w' O (jz A w w') OP cb nb db pm nm C d c o f n:=by
 have e:=i.size;refine⟨h.base.trans (i.below h.own h.base.size),?_,?_,?_,h.disk.stay i (by decide) (by decide),r,s,q,i.keep h.cli (by decide),h.cells,h.prv.stay i h.away (by decide) (fun _ h=>h),?_,j,l⟩
 ·rintro b (a | a | a)
  ·exact h.own b (.inl a)
  ·exact h.own b (.inr a)
  ·exact zu h.base.size a.1
 ·rintro b a (g | g)
  ·exact h.apart b a g
  ·have:=h.lt b (.inl a);omega
 ·rintro b (a | (a | a) | a)
  ·exact zx (h.lt b (.inl a)) e
  ·exact zx (h.lt b (.inr (.inl a))) e
  ·exact a.2
  ·exact zx (h.lt b (.inr (.inr a))) e
 ·rintro b a (p | g | g)
  ·exact h.away b a (.inl p)
  ·exact h.away b a (.inr g)
  ·have:=h.lt b (.inr (.inr a));omega
theorem z7q {σ:Type}{fe:σ→zc→(zc×Bool)×σ}{a:Mm}{b:Nat}{m:Ms σ}{l:Int}{s:σ}(c:((j9 a m.needed (zv b l j)).getD (j % 4) .no).there=false)(d:zb0 fe m.net (zv b l j)=(none,s)):zaq fe a b m l j=(.inl (zgc (zv b l j)),{ m with net:=s }):=by
 unfold zaq;rw [if_neg (by rw [c];simp),d]
theorem z28 {c d:List Px}(a:FOk c)(b:FOk d):FOk (zor c d):=by rw [← zpp a b];exact zoq a b 4
theorem z27 {a b:List Px}{f g:Fl}(h:zdj w a f)(o:zdj w b g):zdj w (zor a b) (zh3 f g):=by
 obtain⟨j,d,e⟩:=h;obtain⟨l,i,m⟩:=o;refine⟨by simp [zor,j,l],by simp [zh3,d,i],fun k c=>?_⟩;have n:(zor a b).getD k .no=if (a.getD k .no).fits then a.getD k .no else b.getD k .no:=by
  unfold zor;have p:k < a.length:=by omega
  have q:k < b.length:=by omega
  simp only [zl,zll,zt p,zt q,zc2]
 rw [n,zhp f g (by rw [d,i]) k (by omega),(e k c).fits];split
 ·exact e k c
 ·exact m k c
theorem zen.keep {a:Int}{L:LsN}(h:zen w A mb a L)(b:zq O1 T w w')(f:LkN∉T)(j:MeN∉T)(l:∀ k,A k→O1 k→∃ c t x,w.heap[k]?=some (.cells c t x)):zen w' A mb a L:=by
 obtain⟨d,i,n,o,h⟩:=h;refine⟨d,i,n,o,h.own,b.keep h.mem j,⟨b.keep h.ring.ends f,fun x m=>b.keep (h.ring.link x m) f,h.ring.circ⟩,h.map.same ?_,h.ok⟩;rcases b.block d h.map.lt with e | ⟨e,-⟩
 ·exact e
 ·obtain⟨c,t,x,g⟩:=l d h.own.2.1 e;exact absurd rfl (h.map.not g)
theorem yc4 {σ:Type}{fe:σ→zc→(zc×Bool)×σ}{a:Mm}{b:Nat}{m:Ms σ}{l:Int}(c:((j9 a m.needed (zv b l j)).getD (j % 4) .no).there=true):zaq fe a b m l j=(.inr ((zby (j9 a m.needed (zv b l j)) (j % 4)).getD (j % 4) .no),{ m with needed:=m.needed.drop (zv b l j)++[(zv b l j,zby (j9 a m.needed (zv b l j)) (j % 4))] }):=by
 unfold zaq;rw [if_pos c]
theorem z7p {σ:Type}{fe:σ→zc→(zc×Bool)×σ}{a:Mm}{b:Nat}{m:Ms σ}{l:Int}{s:σ}{c:Fl}(d:((j9 a m.needed (zv b l j)).getD (j % 4) .no).there=false)(e:zb0 fe m.net (zv b l j)=(some c,s)):zaq fe a b m l j=(.inr ((zby (zh3 (j9 a m.needed (zv b l j)) c) (j % 4)).getD (j % 4) .no),{ net:=s,needed:=m.needed.drop (zv b l j)++[(zv b l j,zby (zh3 (j9 a m.needed (zv b l j)) c) (j % 4))] }):=by
 unfold zaq;rw [if_neg (by rw [d];simp),e]
def ykd (X c:World)(O:Nat→Prop)(k j h:Nat)(d:Dk)(n:Nt)(F:Fl)(p:Pl)(i:Nat):Prop :=
 ∃ g e f,zq (fun b=>O b∨b=h) [93,3,xg] X c∧zdn c O k j f∧yu c h g∧FOk g∧zdj c g e ∧
  (((F.getD i .no).there=true∧f=n∧e=F)∨((F.getD i .no).there=false∧∃ a,zb0 (yz d.fs) n p=(some a,f)∧e=zh3 F a))
theorem yh3 {am:Nat→Addr}{R:Int}{N:Mm}{m:Ms Nt}{c:Nat}{l:Int}(h:CS W0 w O A OP cb nb db pm nm C d R N m (k+1)){t:LsN}(aj:zbi (NdR w A) t m.needed)(G:(t.map (·.2.2)).Nodup)
 (J:Below w.heap.size w X) (aH:w.heap.size < X.heap.size) {xs:List Px} (aq:yu X fb xs) (ad:(A fb∧∃ b,t.get (zv c l j)=some (b,yx fb))∨(t.get (zv c l j)=none∧w.heap.size+2≤fb)) (ht:zq (fun b=>O b∨b=fb) [93,3,xg] X Y) (M:zq (fun b=>b=fb) [xg] Y V) (n:zq A [LkN] V w8) (aG:V.heap.size≤nbb∧nbb < w8.heap.size)
 (ah:zen w8 (jz A V.drew w8) nm zgx (ydu zgx (t.drop (zv c l j)++[(nbb,zv c l j,.pointer (some ⟨fb,0,none⟩))]))) (aD:t.length≤1000000000000) {I:List Px} {z:Px} (ao:yu V fb (I.set kk z)) (ag:FOk (I.set kk z)) {S:Fl} (s:zdj V I S) (hz:z={ I.getD kk .no with fits:=true }) (aC:z.ok) (af:kk=j % 4) (E:kk < 4) (aw:zdn V O nb db n')
 (U:((((j9 N m.needed (zv c l j)).getD kk .no).there=true∧n'=m.net∧S=j9 N m.needed (zv c l j))∨(((j9 N m.needed (zv c l j)).getD kk .no).there=false∧∃ D,zb0 (yz d.fs) m.net (zv c l j)=(some D,n')∧S=zh3 (j9 N m.needed (zv c l j)) D)))
 (az:w8.heap[w.heap.size]?=some (.cells Px.no.cs.toArray zbk (0,0))) :
  zq (fun b=>O b∨A b) qT w (w8.setCells w.heap.size 0 z.cs)∧CS W0 (w8.setCells w.heap.size 0 z.cs) O (jz A w (w8.setCells w.heap.size 0 z.cs)) OP cb nb db pm nm C d R N (zaq (yz d.fs) N c m l j).2 k∧ymr am (w8.setCells w.heap.size 0 z.cs) (zaq (yz d.fs) N c m l j).1 (.returned (.tuple #[.agg z.cs.toArray,.nilIface])):=by
 have r:zq (fun b=>b=w.heap.size) [zbk] w8 (w8.setCells w.heap.size 0 z.cs):=(zq.refl (fun b=>b=w.heap.size) [zbk] w8).setCells (.inl rfl) az (by simp) _ _;have aE:(w8.setCells w.heap.size 0 z.cs).heap.size=w8.heap.size:=zdu _ _;have s1:=J.size;have s2:=ht.size;have s3:=M.size;have s4:=n.size;have T:A fb∨w.heap.size+2≤fb:=ad.imp (·.1) (·.2);have ap:fb < X.heap.size:=zi aq;have hT:zq (fun b=>O b∨A b) qT w w8:=by
  have a1:zq (fun b=>O b∨A b) qT w X:= .of_below J;have a2:=a1.trans (ht.mono (fun b g=>by
   rcases g with g | rfl
   ·exact Or.inl (Or.inl g)
   ·rcases T with P | P
    ·exact Or.inl (Or.inr P)
    ·exact Or.inr ⟨by omega,ap⟩) (by decide))
  have a3:=a2.trans (M.mono (fun b g=>by
   subst g;rcases T with P | P
   ·exact Or.inl (Or.inr P)
   ·exact Or.inr ⟨by omega,by omega⟩) (by decide))
  exact a3.trans (n.mono (fun b g=>Or.inl (Or.inr g)) (by decide))
 have ab:zq (fun b=>O b∨A b) qT w (w8.setCells w.heap.size 0 z.cs):=hT.setCellsNew (zm _) _ _;generalize w8.setCells w.heap.size 0 z.cs=w9 at *;have F:(zaq (yz d.fs) N c m l j)=(.inr ((zby S kk).getD kk .no),{ net:=n',needed:=m.needed.drop (zv c l j)++[(zv c l j,zby S kk)] })∧NSt d n'∧n'.fetches≤m.net.fetches+2:=by
  rcases U with ⟨p,rfl,rfl⟩ | ⟨p,D,B,rfl⟩
  ·rw [af] at p ⊢;exact⟨yc4 p,h.st,by omega⟩
  ·rw [af] at p ⊢;have:=(zrm d.fs m.net (zv c l j)).2;have h2:=h.st.file (zv c l j);rw [B] at this h2;exact⟨z7p p B,h2,this⟩
 obtain⟨F,aA,aF⟩:=F;have Q:zdj w9 (I.set kk z) (zby S kk):=by
  have hv:zdj V (I.set kk z) (zby S kk):=by
   refine⟨ag.1,by rw [zqz];exact s.2.1,fun i hi=>?_⟩;have p:(I.set kk z).getD i .no=if i=kk then z else I.getD i .no:=by
    simp only [zl,zqb,s.1]
    by_cases f:kk=i
    ·subst f;simp [E]
    ·have:¬ i=kk:=fun e=>f e.symm;simp [f,this]
   rw [p,ze7]
   by_cases f:i=kk
   ·rw [if_pos f,if_pos ⟨f,by rw [s.2.1];exact E⟩,hz,f];have:=s.2.2 kk E;exact⟨this.there,rfl,this.hash,this.ent⟩
   ·rw [if_neg f,if_neg (by intro hh;exact f hh.1)];exact s.2.2 i hi
  exact(hv.turn n (by decide)).turn r (by decide)
 have ax:ydu zgx (t.drop (zv c l j)++[(nbb,zv c l j,.pointer (some ⟨fb,0,none⟩))])=t.drop (zv c l j)++[(nbb,zv c l j,yx fb)]:=by
  unfold ydu;rw [if_neg]
  ·rfl
  ·have:(t.drop (zv c l j)).length≤t.length:=zcp _ _;simp only [zy,y9,jc];unfold zgx;omega
 rw [ax] at ah;have o:∀ x∈t.drop (zv c l j),x.2.2≠yx fb:=by
  intro x hx e;have W:=zfd.1 hx;have aB:¬ x.2.1=zv c l j:=by simpa using W.2
  rcases ad with ⟨-,b,hg⟩ | ⟨-,hn⟩
  ·have ai:=zm9 hg;have ay:=List.pairwise_map.1 G;obtain⟨i1,ae,p⟩:=vo W.1;obtain⟨i2,L,B⟩:=vo ai;have al:=zp5.1 ay;rcases z16 i1 i2 with av | an | ar
   ·exact al i1 i2 ae L av (by rw [p,B];exact e)
   ·subst an;rw [p] at B;exact aB (by rw [B])
   ·exact al i2 i1 L ae ar (by rw [p,B];exact e.symm)
  ·obtain⟨y,-,Z⟩:=aj.mem x W.1;obtain⟨q,H,B,-,K,-⟩:=Z.2;rw [B] at e;have:=z4r e;have:=zi K;omega
 rw [F];refine⟨ab,h.next ab _ k ((aw.turn n (by decide) (by decide) (by decide)).turn r (by decide) (by decide) (by decide)) aA (by have:=h.few;simp only;omega) ?_ ?_,.inl ⟨z,_,rfl,aC,?_,rfl⟩⟩
 ·refine⟨t.drop (zv c l j)++[(nbb,zv c l j,yx fb)],?_,?_,?_⟩
  ·refine ah.stay r ?_ ?_
   ·rintro b g rfl;rcases g with g | g
    ·have:=h.lt _ (.inr (.inl g));omega
    ·have:V.drew.heap.size=V.heap.size:=rfl;omega
   ·rintro b (g | g)
    ·exact .inl g
    ·have:V.drew.heap.size=V.heap.size:=rfl;exact .inr ⟨by omega,by omega⟩
  ·refine zbi.snoc ?_ ⟨rfl,fb,I.set kk z,rfl,?_,r.keep (n.keep ao (by decide)) (by decide),ag,Q⟩
   ·refine(aj.filter _ _ (fun a b Z=>by rw [Z.1])).mono (fun x hx y Z=>⟨Z.1,?_⟩);obtain⟨q,H,B,aa,K,au,L⟩:=Z.2;have ak:q≠fb:=fun e=>o x hx (by rw [B,e]);have f1:yu X q H:=(J.block _ (zi K)).trans K;have f2:yu Y q H:=ht.stay f1 (by
     rintro(hO | e)
     ·exact h.apart _ hO aa
     ·exact ak e)
    have f3:yu V q H:=M.stay f2 ak;refine⟨q,H,B,.inl aa,r.keep (n.keep f3 (by decide)) (by decide),au,?_⟩;exact((((L.below J).turn ht (by decide)).turn M (by decide)).turn n (by decide)).turn r (by decide)
   ·rcases T with P | P
    ·exact .inl P
    ·exact .inr ⟨by omega,by omega⟩
  ·rw [yy,zao];refine⟨(List.filter_sublist.map _).nodup G,by simp,?_⟩;intro v hv u hu;simp only [ve,zku,xm] at hu;subst hu;obtain⟨x,hx,rfl⟩:=yl.1 hv;exact o x hx
 ·have hd:(m.needed.drop (zv c l j)).length≤m.needed.length:=zcp _ _;have:=h.short;simp only [zy,y9,jc];omega
 ·have:=Q.2.2 kk E;have p:(I.set kk z).getD kk .no=z:=by
   have:kk < I.length:=by rw [s.1];exact E
   simp [zl,this]
  rw [p] at this;exact this
theorem zbb (h:Below B a.drew w):Below B a w:=⟨h.os,h.tape,h.output,h.size,h.block⟩
theorem z34 (W0:World)(aE:Nat→Addr)(O A OP:Nat→Prop)(S nb db pm nm:Nat)(C:Array Value)(d:Dk)(U:Int)(pr:Mm)(m:Ms Nt)(k c:Nat)(l:Int)(j:Nat)(bV:c < 9223372036854775808)(cC:-1≤l)(cD:l≤100)(hj:j < qg l c)(w:World)(hE:Env W0)(hS:zbz W0 aE)
 (h:CS W0 w O A OP S nb db pm nm C d U pr m (k+1)) :
  Calls prog 128 #[yx S,.int .i64 c,.int .i64 l,.int .i64 j] w fun r w' =>
   zq (fun b=>O b∨A b) qT w w'∧CS W0 w' O (jz A w w') OP S nb db pm nm C d U pr (zaq (yz d.fs) pr c m l j).2 k∧ymr aE w' (zaq (yz d.fs) pr c m l j).1 r:=by
 have ba:j < 9223372036854775808:=Nat.lt_trans (zx hj (zlo l c)) bV;obtain⟨M,aL,bY,bZ,be⟩:=zw2 c l j hj;obtain⟨e,bM⟩:∃ e,e=j % 4:=⟨_,rfl⟩;obtain⟨q,hq⟩:∃ q,q=j / 4:=⟨_,rfl⟩;have aR:(j:Int) % 4=(e:Int):=by omega
 have bj:=zf bM;have HQ:=zf hq;have aJ:e < 4:=by omega
 rw [← hq] at aL be;have ak:=zf aJ;have Z:=zf aL;have n:=zf h;have HE:=zf hE;have HS:=zf hS;obtain⟨LN,bP,bT,ar⟩:=h.nee;obtain⟨LP,bQ,bU⟩:=h.prv;have aX:=zf bP;have al:=zf bT;have aY:=zf ar;have bl:=zf bQ;have cj:=zf bU;have HJ:=zf hj;have cc:=zf ba;have HW:Hid (1≤M∧M≤4∧4*q+M≤qg l c):=⟨bY,bZ,be⟩;have bn:=zf (fun w=>zhu c bV l cC cD j ba w);have aQ:zip (zv c l j):=by
  rw [aL];refine⟨⟨by simp only;omega,by simp only;omega⟩,⟨by simp only;omega,by simp only;omega⟩,⟨by simp only;omega,by simp only;omega⟩⟩
 have I:=zf aQ;clear h hE hS bP bT ar bQ bU hj ba aQ bY bZ be aJ aL bM hq;have aC:Hid (plV (zv c l j)= .agg #[.int .i64 l,.int .i64 (q:Int),.int .i64 (M:Int)]):=by show _=_;rw [Z.o];rfl
 unfold yx;go_enter func128,ntmps128;go_wp2_with fail;refine(bn.o _).mono ?_;rintro r w1 ⟨rfl,aF⟩;rw [aC.o];go_wp2_with fail;rw [aR];clear aR;have a8:Below w.heap.size w w1:=(zk w _).trans (aF.mono (by simp));have bo:Hid (w1.heap[w.heap.size]?=some (.cells zhr zbk (0,0))):=(aF.block _ (by simp)).trans (zg _ _);have bB:(w1.alloc (.cells #[.int .i64 l,.int .i64 (q:Int),.int .i64 (M:Int)] 150)).heap[w1.heap.size]?=some (.cells #[.int .i64 l,.int .i64 (q:Int),.int .i64 (M:Int)] 150 (0,0)):=zg _ _;have bx:Below w.heap.size w (w1.alloc (.cells #[.int .i64 l,.int .i64 (q:Int),.int .i64 (M:Int)] 150)):=a8.alloc a8.size _;have aZ:Hid ((w1.alloc (.cells #[.int .i64 l,.int .i64 (q:Int),.int .i64 (M:Int)] 150)).heap[w.heap.size]?=some (.cells zhr zbk (0,0))):=zj bo.o;have W:=zf bB;have ag:=zf bx;have bt:Hid (w.heap.size+1≤w1.heap.size):=zf (by have:=aF.size;simpa using this);clear aF a8 bB bx bo;generalize w1.heap.size=T at *;generalize w1.alloc (.cells #[.int .i64 l,.int .i64 (q:Int),.int .i64 (M:Int)] 150)=W2 at *;have ay:Hid (W2.heap[S]?=some (.cells C zbx (0,0))):=(ag.o.block _ (zi n.o.cli)).trans n.o.cli;go_cut [12,13] from 24 to 32 (fun bf cG wx=>Below W2.heap.size W2 wx∧∃ a b,bf= .pointer a∧cG= .bool b∧((b=true∧∃ bb,LN.get (zv c l j)=some (bb,.pointer a))∨(b=false∧a=none∧LN.get (zv c l j)=none)))
 case first =>
  have cv:W2.cell? ⟨S,14,none⟩=some (.pointer (some ⟨nm,0,none⟩)):=(zw ay.o 14 _ n.o.cells.nee).1;obtain⟨p0,-⟩:=zw W.o 0 _ rfl;obtain⟨p1,-⟩:=zw W.o 1 _ rfl;obtain⟨p2,-⟩:=zw W.o 2 _ rfl;simp only [zdz,zan,zam] at p0 p1 p2;obtain⟨a,b,an,K⟩:∃ a b,((b=true∧∃ bb,LN.get (zv c l j)=some (bb,.pointer a))∨(b=false∧a=none∧LN.get (zv c l j)=none))∧∀ G,Below w.heap.size w G→Calls prog 172 #[yx nm,plV (zv c l j)] G fun r w'=>r= .returned (.tuple #[.pointer a,.bool b])∧Below G.heap.size G w':=by
   rcases zod.get al.o (zv c l j) with ⟨J,g2⟩ | ⟨b,v,f,J,g2,⟨L,H,rfl,-⟩,-⟩
   ·exact⟨none,false,.inr ⟨rfl,rfl,J⟩,fun G hb=>z0w A nm zgx LN _ I.o G (aX.o.below hb (fun _ h=>h)) J⟩
   ·exact⟨_,true,.inl ⟨rfl,b,J⟩,fun G hb=>zv4 A nm zgx LN _ I.o G (aX.o.below hb (fun _ h=>h)) b _ J⟩
  have ax:=zf an;have i:=zf K;clear an K;unfold yx at i;rw [aC.o] at i
  go_region_with (go_at_call 172;refine(i.o _ (by exact ag.o.drew)).mono ?_;rintro r w3 ⟨rfl,bD⟩;have b3:=zf bD;clear bD)
  all_goals go_wp2_with fail
  all_goals go_meet
  all_goals exact⟨zbb b3.o,a,b,rfl,rfl,ax.o⟩
 case rest =>
  obtain⟨ao,a,b,rfl,rfl,an⟩:=hcut;obtain⟨E,cy⟩:∃ E,E=wc:=⟨_,rfl⟩;subst cy;have ax:=zf an;have y:=zf (ag.o.trans (ao.mono ag.o.size));have az:Hid (E.heap[S]?=some (.cells C zbx (0,0))):=(ao.block _ (zi ay.o)).trans ay.o;have Q:Hid (E.heap[T]?=some (.cells #[.int .i64 l,.int .i64 (q:Int),.int .i64 (M:Int)] 150 (0,0))):=(ao.block _ (zi W.o)).trans W.o;have a2:Hid (E.heap[w.heap.size]?=some (.cells zhr zbk (0,0))):=(ao.block _ (zi aZ.o)).trans aZ.o;have aD:Hid (w.heap.size+1≤T∧T < E.heap.size):=⟨bt.o,zi Q.o⟩;clear ao an ag ay W aZ bt
  go_upto_if 34 with fail
  go_cut [12,14,15] from 33 to 43 (fun bf _ _ wx=>∃ L,bf= .pointer (some ⟨L,0,none⟩)∧z0k w wx A LN (zv c l j) (j9 pr m.needed (zv c l j)) L∧Below E.heap.size E wx)
  case first =>
   rcases ax.o with ⟨rfl,bb,hg⟩ | ⟨rfl,rfl,hg⟩
   ·go_wp2_with fail;go_meet;rcases zod.get al.o (zv c l j) with ⟨J,g2⟩ | ⟨b,v,f,J,g2,⟨L,H,rfl,hA,hf,aH,aI⟩,-⟩
    ·rw [J] at hg;simp at hg
    ·rw [J] at hg;simp only [zr,ye] at hg;obtain⟨rfl,hg⟩:=hg;refine⟨L,hg.symm,⟨H,(y.o.block _ (zi hf)).trans hf,aH,?_,.inl ⟨hA,_,J⟩⟩,yf _ _⟩;unfold j9;rw [g2];exact aI.below y.o
   ·have HG:=zf hg;obtain⟨H,b,b1,b0,K⟩:∃ H b,FOk H∧zdj w H (j9 pr m.needed (zv c l j))∧∀ G,Below w.heap.size w G→Calls prog 180 #[yx pm,plV (zv c l j)] G fun r w'=>r= .returned (.tuple #[.agg (vf H).toArray,.bool b])∧Below G.heap.size G w':=by
     have hn:m.needed.get (zv c l j)=none:=by
      rcases zod.get al.o (zv c l j) with ⟨J,g2⟩ | ⟨b,v,f,J,g2,-,-⟩
      ·exact g2
      ·rw [J] at hg;simp at hg
     unfold j9;rw [hn];rcases zof.get cj.o (zv c l j) with ⟨J,g2⟩ | ⟨b,H,f,J,g2,h3,h4⟩
     ·rw [g2];exact⟨Fx.no,false,Fx.no_ok,zdj.none w,fun G hb=>yk7 OP pm U LP _ I.o G (bl.o.below hb (fun _ h=>h)) J⟩
     ·rw [g2];exact⟨H,true,h3,h4,fun G hb=>yg2 OP pm U LP _ I.o G (bl.o.below hb (fun _ h=>h)) b _ J⟩
    have ab:=zf b1;have bs:=zf b0;have i:=zf K;clear b1 b0 K hg;have bu:E.cell? ⟨S,13,none⟩=some (.pointer (some ⟨pm,0,none⟩)):=(zw az.o 13 _ n.o.cells.prv).1;obtain⟨p0,-⟩:=zw Q.o 0 _ rfl;obtain⟨p1,-⟩:=zw Q.o 1 _ rfl;obtain⟨p2,-⟩:=zw Q.o 2 _ rfl;simp only [zdz,zan,zam] at p0 p1 p2;have cH:∀ o,(E.alloc o).cell? ⟨S,13,none⟩=some (.pointer (some ⟨pm,0,none⟩)):=fun o=>by rw [yp _ _ ⟨S,13,none⟩ (yg bu)];exact bu
    have cK:∀ o,(E.alloc o).cell? ⟨T,0,none⟩=some (.int .i64 l):=fun o=>by rw [yp _ _ ⟨T,0,none⟩ (yg p0)];exact p0
    have cL:∀ o,(E.alloc o).cell? ⟨T,1,none⟩=some (.int .i64 (q:Int)):=fun o=>by rw [yp _ _ ⟨T,1,none⟩ (yg p1)];exact p1
    have cM:∀ o,(E.alloc o).cell? ⟨T,2,none⟩=some (.int .i64 (M:Int)):=fun o=>by rw [yp _ _ ⟨T,2,none⟩ (yg p2)];exact p2
    unfold yx at i;rw [aC.o] at i;go_wp2_with fail
    go_region_with (first
     | (go_at_call 180;refine(i.o E.drew (by exact y.o.drew)).mono ?_;rintro r w4 ⟨rfl,ae⟩;have N:=zf (zbb ae);have B:yu (w4.alloc (.cells za6 xg)) w4.heap.size Fx.no:=zg w4 _;have aN:=zax (vp B Fx.no_ok) ab.o.len (zcl ab.o.2);have aU:=zf B;clear ae B)
     | (go_at_call 180;refine(i.o (E.alloc (.cells za6 xg)).drew (by exact(y.o.alloc y.o.size _).drew)).mono ?_;rintro r w4 ⟨rfl,ae⟩;have N:=zf (zbb ae);have B:yu w4 E.heap.size Fx.no:=((zbb ae).block _ (by simp)).trans (zg E _);have aN:=zax (vp B Fx.no_ok) ab.o.len (zcl ab.o.2);have aU:=zf B;clear ae B))
    all_goals go_wp2_with fail
    all_goals go_meet
    all_goals (first
     | exact⟨w4.heap.size,rfl,ylg HG.o aD.o y.o N.o aU.o ab.o bs.o,xn (N.o.alloc N.o.size _) N.o.size _ _⟩
     | exact⟨E.heap.size,rfl,ylh HG.o aD.o y.o N.o aU.o ab.o bs.o,xn ((zk E _).trans (N.o.mono (by simp))) (zm _) _ _⟩)
  case rest =>
   obtain⟨L,rfl,cB,ap⟩:=hcut;obtain⟨X,hX⟩:∃ X,X=wc:=⟨_,rfl⟩;subst hX;have P:=zf (y.o.trans (ap.mono y.o.size));have aS:Hid (X.heap[S]?=some (.cells C zbx (0,0))):=(ap.block _ (zi az.o)).trans az.o;have aa:Hid (X.heap[T]?=some (.cells #[.int .i64 l,.int .i64 (q:Int),.int .i64 (M:Int)] 150 (0,0))):=(ap.block _ (zi Q.o)).trans Q.o;have a3:Hid (X.heap[w.heap.size]?=some (.cells zhr zbk (0,0))):=(ap.block _ (zi a2.o)).trans a2.o;have cu:Hid (w.heap.size+1≤T∧T < X.heap.size):=⟨aD.o.1,zi aa.o⟩;obtain⟨H,aI,aH,bJ,bH⟩:=cB;have aj:=zf aI;have ai:=zf aH;have aV:=zf bJ;have b9:=zf bH;clear aI aH bJ bH ap ax y az Q a2 aD;have bc:e < H.length:=by rw [ai.o.1];exact ak.o
   have aJ:e < 4:=ak.o;have af:H[e]=H.getD e .no:=by simp [zl,bc]
   have h6:=(aj.o.cell ai.o.2 bc (j:=0) (by omega) (v:= .bool H[e].there) rfl);rw [zky,af] at h6;obtain⟨h6,bw⟩:=h6;obtain⟨t,ht⟩:∃ t,(H.getD e .no).there=t:=⟨_,rfl⟩;rw [ht] at h6;have bq:=zf ht;clear ht af bc;have aB:Hid ((j9 pr m.needed (zv c l j)).getD e .no=(j9 pr m.needed (zv c l j)).getD e .no∧((j9 pr m.needed (zv c l j)).getD e .no).there=t):=⟨rfl,by rw [← (aV.o.2.2 e aJ).there];exact bq.o⟩
   go_upto_if 50 with fail
   go_cut [16,17] from 44 to 63 (fun _ _ wx=>ykd X wx O nb db L d m.net (j9 pr m.needed (zv c l j)) (zv c l j) e)
   case first =>
    cases t with
    | true =>
     go_wp2_with fail;go_meet;exact⟨H,_,_,zq.refl _ _ _,n.o.net.below P.o,aj.o,ai.o,aV.o,.inl ⟨aB.o.2,rfl,rfl⟩⟩
    | false =>
     obtain⟨p0,-⟩:=zw aa.o 0 _ rfl;obtain⟨p1,-⟩:=zw aa.o 1 _ rfl;obtain⟨p2,-⟩:=zw aa.o 2 _ rfl;simp only [zdz,zan,zam] at p0 p1 p2;have bC:zq O [] w X:= .of_below P.o;have aP:=zrm d.fs m.net (zv c l j);rw [Z.o] at aP;have bI:=n.o.few;have HF:=zf (yb7 W0 aE O nb db S m.net d l q M HW.o.1 HW.o.2.1 (by have:=HQ.o;have:=cc.o;omega) X (n.o.base.trans (P.o.mono n.o.base.size)) HE.o HS.o (fun b hb=>n.o.own b (.inl hb)) n.o.st (by omega) (n.o.disk.stay bC (by simp) (by simp)) (n.o.net.below P.o) C aS.o n.o.cells.net);have ch:Hid (qq l (q:Int) (M:Int)=zgc (zv c l j)):=by show _=_;rw [Z.o];rfl
     rw [← Z.o,ch.o] at HF;clear aP bI bC;unfold plV yx at HF;rw [Z.o] at HF;simp only at HF;rw [← Z.o] at HF;go_wp2_with fail;refine HF.o.mono ?_;rintro r s ⟨av,bA,cz⟩;have co:=zf av;have bm:=zf bA;have cp:Hid (zq O nT w s):=(zq.of_below P.o).trans (av.mono (fun _ h=> .inl h) (fun _ h=>h));have bg:Hid (yu s L H):=av.keep aj.o (by decide);have bp:Hid (s.heap[w.heap.size]?=some (.cells Px.no.cs.toArray zbk (0,0))):=av.keep a3.o (by decide);have HG:Hid (∀ u,FOk u→(zi4 (.pointer (some ⟨s.heap.size,0,none⟩)) (.agg (vf u).toArray)).run prog (s.alloc (.cells za6 xg))= .ok () ((s.alloc (.cells za6 xg)).setCells s.heap.size 0 (vf u))∧yu ((s.alloc (.cells za6 xg)).setCells s.heap.size 0 (vf u)) s.heap.size u∧Below s.heap.size s ((s.alloc (.cells za6 xg)).setCells s.heap.size 0 (vf u))):=by
      intro u hy;have B:yu (s.alloc (.cells za6 xg)) s.heap.size Fx.no:=zg _ _;exact⟨zax (vp B Fx.no_ok) hy.len (zcl hy.2),zap B Fx.no_ok hy,xn (zk _ _) (zm _) _ _⟩
     clear av bA p0 p1 p2 h6 bw HF;have cn:=zf (n.o.st.file (zv c l j));have b4:=zf (zrm d.fs m.net (zv c l j));generalize bz:zb0 (yz d.fs) m.net (zv c l j)=FM at *;have bi:=zf bz;clear bz;obtain⟨o,n'⟩:=FM;simp only at *;rcases cz with ⟨u,f,rfl,R,aw,rfl⟩ | ⟨rfl,g,cA,a9,rfl⟩
     ·obtain⟨aN,aG,F⟩:=HG.o u R;have cE:=ze0 (j6 aG) R.len;have ah:=zf F;have b6:Hid (yu ((s.alloc (.cells za6 xg)).setCells s.heap.size 0 (vf u)) L H):=(F.block _ (zi bg.o)).trans bg.o;have D:=zf R;have a7:=zf aw;clear R aw aG F HG;go_wp2_with fail;refine(ygs (fun b=>b=L) L H u ai.o D.o _ rfl b6.o).mono ?_;rintro r w7 ⟨rfl,bW,bG⟩;have a5:=zf bW;have b7:=zf bG;clear bW bG;go_wp2_with fail;go_meet;have bE:zq (fun b=>O b∨b=L) [93,3,xg] X w7:=((co.o.mono (fun _ h=> .inl h) (by decide)).then_below ah.o).trans (a5.o.mono (fun _ h=> .inl (.inr h)) (by decide));have cx:zdn w7 O nb db n':=(bm.o.below ah.o).turn a5.o (by decide) (by decide) (by decide);refine⟨_,_,n',bE,cx,b7.o,z28 ai.o D.o,z27 (aV.o.turn bE (by decide)) ((a7.o.below ah.o).turn a5.o (by decide)),.inr ⟨aB.o.2,f,bi.o,rfl⟩⟩
     ·obtain⟨aN,aG,F⟩:=HG.o Fx.no Fx.no_ok;have ah:=zf F;have a0:Hid (((s.alloc (.cells za6 xg)).setCells s.heap.size 0 (vf Fx.no)).heap[w.heap.size]?=some (.cells Px.no.cs.toArray zbk (0,0))):=(F.block _ (zi bp.o)).trans bp.o;have ca:Hid (((s.alloc (.cells za6 xg)).setCells s.heap.size 0 (vf Fx.no)).heap[g]?=some (.cells #[qo (zgc (zv c l j)),zd2 aE 5] 179 (0,0))):=(F.block _ (zi a9)).trans a9;have cI:=fun G=>zym G;have cJ:=zhv (zb1 a0.o) (Px.cs_len Px.no_ok) (Px.cs_one Px.no_ok);have cq:=zf (zb2 a0.o (ds:=Px.no.cs) rfl);have br:=zf ((zq.refl (fun b=>b=w.heap.size) [zbk] _).setCells (.inl rfl) a0.o (by simp) Px.no.cs 0);have p:=zf ((cp.o.then_below F).setCellsNew (zm w.heap.size) Px.no.cs 0);clear aG F HG cA a9;unfold za7;go_wp2_with fail;refine z8 (v:= .tuple #[.agg Px.no.cs.toArray,za7 g]) (qa results128 _ _ w.heap.size zbk _ (0,0) _ rfl cq.o underlying152 rfl (by rw [zpr];rfl) _ rfl) rfl ?_;have cF:=z7q (by have:=aB.o.2;rw [bj.o] at this;exact this) bi.o;rw [cF];refine⟨p.o.mono (fun _ h=> .inl h) (by decide),n.o.next (p.o.mono (fun _ h=> .inl h) (by decide)) _ _ ((bm.o.below ah.o).turn br.o (by decide) (by decide) (by decide)) cn.o (by have:=n.o.few;have:=b4.o.2;simp only;omega) (n.o.nee.stay p.o (fun b hA hO=>n.o.apart b hO hA) (by decide) (by decide) (fun _ h=> .inl h)) (by have:=n.o.short;simp only;omega),.inr ⟨_,g,rfl,br.o.keep ca.o (by decide),rfl⟩⟩
   case rest =>
    obtain⟨Y,hY⟩:∃ Y,Y=wc:=⟨_,rfl⟩;subst hY;obtain⟨u,F',n',ht,hN,bK,R,aw,au⟩:=hcut;have HT:=zf ht;have HN:=zf hN;have aA:=zf bK;have D:=zf R;have a7:=zf aw;have a4:=zf au;have b5:Hid (Y.heap[S]?=some (.cells C zbx (0,0))):=ht.keep aS.o (by decide);have ck:Hid (Y.heap[T]?=some (.cells #[.int .i64 l,.int .i64 (q:Int),.int .i64 (M:Int)] 150 (0,0))):=ht.keep aa.o (by decide);have cm:Hid (Y.heap[w.heap.size]?=some (.cells Px.no.cs.toArray zbk (0,0))):=ht.keep a3.o (by decide);have cf:Hid (zen Y A nm zgx LN):=(aX.o.below P.o (fun _ h=>h)).keep ht (by decide) (by decide) (fun b hA hO=>by
     rcases hO with hO | rfl
     ·exact absurd hA (n.o.apart b hO)
     ·exact⟨_,_,_,aj.o⟩)
    clear ht hN bK R aw au aB aS aa a3 h6 bw bq;have aK:e < u.length:=by rw [D.o.1];exact ak.o
    have af:u[e]=u.getD e .no:=by simp [zl,aK]
    obtain⟨z,hz⟩:∃ z:Px,z={ u.getD e .no with fits:=true }:=⟨_,rfl⟩;have aO:z.ok:=by rw [hz];have:=zhc D.o e;exact⟨this.1,this.2⟩
    obtain⟨h7,cw⟩:=aA.o.cell D.o.2 aK (j:=1) (by omega) (v:= .bool u[e].fits) rfl;have bh:=zf (aA.o.set1 D.o.2 aK (j:=1) (v:= .bool true) (x:=z) (by omega) aO (by rw [hz,af];rfl));have p:=zf ((zq.refl (fun b=>b=L) [xg] Y).set (o:=e*11+1) (.inl rfl) aA.o (by simp) (.bool true));have ad:=zf aO;have HZ:=zf hz;have aW:Hid (FOk (u.set e z)):=⟨by rw [zg0];exact D.o.1,ztn D.o.2 e aO⟩;rw [af] at h7;clear aK af hz aO;go_wp2_with fail;generalize Y.setCell ⟨L,e*11+1,none⟩ (.bool true)=V at *;have bF:V.heap[S]?=some (.cells C zbx (0,0)):=p.o.keep b5.o (by decide);have aM:V.heap[T]?=some (.cells #[.int .i64 l,.int .i64 (q:Int),.int .i64 (M:Int)] 150 (0,0)):=p.o.keep ck.o (by decide);have cl:Hid (V.heap[w.heap.size]?=some (.cells Px.no.cs.toArray zbk (0,0))):=p.o.keep cm.o (by decide);have ce:Hid (zen V A nm zgx LN):=cf.o.keep p.o (by decide) (by decide) (fun b _ hb=>by subst hb;exact⟨_,_,_,aA.o⟩);have ci:Hid (zdn V O nb db n'):=HN.o.turn p.o (by decide) (by decide) (by decide);have ct:Hid (zdj V u F'):=a7.o.turn p.o (by decide);have cv:V.cell? ⟨S,14,none⟩=some (.pointer (some ⟨nm,0,none⟩)):=(zw bF 14 _ n.o.cells.nee).1;obtain⟨p0,-⟩:=zw aM 0 _ rfl;obtain⟨p1,-⟩:=zw aM 1 _ rfl;obtain⟨p2,-⟩:=zw aM 2 _ rfl;simp only [zdz,zan,zam] at p0 p1 p2;have aq:LN.length≤1000000000000:=by have:=al.o.len;have:=n.o.short;omega
    have am:=zf (yi3 A nm zgx LN (zv c l j) I.o (some ⟨L,0,none⟩) V.drew (ce.o.below (yf _ V).drew (fun _ h=>h)) aq);have bk:=zf aq;unfold yx at am;rw [aC.o] at am;clear h7 cw bF aM aq
    go_region_with (go_at_call 183;refine am.o.mono ?_;rintro r w8 ⟨rfl,bX,b2,bR,bS,bO⟩;have a6:=zf bX.undrew;have cd:=zf bO;have cg:Hid (V.heap.size≤b2∧b2 < w8.heap.size):=⟨bR,bS⟩;clear bX bO bR bS)
    all_goals (
     have b8:Hid (yu w8 L (u.set e z)):=a6.o.keep bh.o (by decide);have bN:e < (u.set e z).length:=by rw [aW.o.1];exact ak.o
     have bL:(u.set e z)[e]=z:=by simp
     have bd:=b8.o.piece aW.o.2 bN;rw [bL] at bd;have cE:=zwf bd (Px.cs_len ad.o);have a1:Hid (w8.heap[w.heap.size]?=some (.cells Px.no.cs.toArray zbk (0,0))):=a6.o.keep cl.o (by decide);have aN:=zhv (zb1 a1.o) (Px.cs_len ad.o) (Px.cs_one ad.o);have cr:=zf (zb2 a1.o (ds:=z.cs) (by rw [Px.cs_len ad.o,Px.cs_len Px.no_ok]));clear bN bL bd;go_wp2_with fail;refine z8 (v:= .tuple #[.agg z.cs.toArray,.nilIface]) (qa results128 _ _ w.heap.size zbk _ (0,0) _ rfl cr.o underlying152 rfl (by rw [zpr,xf,Px.cs_len ad.o]) _ rfl) rfl ?_;exact yh3 n.o al.o aY.o P.o (by have:=cu.o;omega) aj.o b9.o HT.o p.o a6.o cg.o cd.o bk.o bh.o aW.o ct.o HZ.o ad.o bj.o ak.o ci.o a4.o a1.o)
end
end Go.Proofs.YtlcllcgngjhoaaaGreatDoor
