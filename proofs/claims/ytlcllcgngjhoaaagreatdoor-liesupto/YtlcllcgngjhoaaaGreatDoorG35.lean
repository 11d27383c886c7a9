import Derived.Test.YtlcllcgngjhoaaaGreatDoorG34
import Derived.Test.YtlcllcgngjhoaaaGreatDoorG21
import Derived.RangeFuncNested
import Derived.RangeFuncBound
import Derived.Shelf.RegionOpen
import Derived.OwnWalkIn
import Derived.LoopNIn
import Derived.LoopIn
set_option maxHeartbeats 8000000
set_option maxRecDepth 100000
set_option linter.all false
namespace Go.Proofs.YtlcllcgngjhoaaaGreatDoor
open Go.RowKit Go.Proofs.Tryz
def zea:=@List.getElem?_cons_zero
def zlj:=@Ending.returned.injEq
def zqg:=@Value.tuple.injEq
variable {A O OP:Nat→Prop}{C:Array Value}{W0 w w':World}{cb db k nb nm pm:Nat}{d:Dk}
section
attribute [local go_sem ↓] jy jn j4 jo ji jh j3 jm
theorem CS.forget {a:Int}{g:Mm}{m:Ms Nt}(h:CS W0 w O A OP cb nb db pm nm C d a g m k)(c:zq A [LkN] w w')(i:zen w' A nm zgx []):CS W0 w' O A OP cb nb db pm nm C d a g { m with needed:=[] } k :=
 ⟨h.base.trans (c.below (fun b f=>h.own b (.inr f)) h.base.size),h.own,h.apart,fun b f=>zx (h.lt b f) c.size,h.disk.stay c (by decide) (by decide),h.net.turn c (by decide) (by decide) (by decide),h.st,h.few,c.keep h.cli (by decide),h.cells,h.prv.stay c (fun b f e=>h.away b f (.inr e)) (by decide) (fun _ h=>h),h.away,⟨[],i,.nil,by simp⟩,by have:=h.short;simp only [jc];omega⟩
theorem CS.mem {a:Int}{c:Mm}{m:Ms Nt}(h:CS W0 w O A OP cb nb db pm nm C d a c m k):∃ L,zen w A nm zgx L:=by
 obtain⟨L,b,-⟩:=h.nee;exact⟨L,b⟩
theorem ybv (w:World):Calls prog 100 #[.slice none 0 0] w fun r e=>r= .returned (.slice none 0 0)∧e=w:=by
 have q:∀(w:World) (a:Option Addr) (n c d b:Nat),(binOp .eql 114 (.slice a n c) (.slice none d b)).run prog w= .ok (.bool a.isNone) w:=fun w a n c d b=>zhf w _ _ a n c d b underlying114;go_enter func100,ntmps100;go_wp2_with fail;go_ret;exact⟨rfl,rfl⟩
def ykb (B:Nat)(w:World)(v:Value)(l:zc):Prop:=(v= .slice none 0 0∧l=[])∨OB w B v l
theorem ybu (v:Value)(l:zc)(w:World)(h:z12 w v l)(n:l.length≤1000000):Calls prog 100 #[v] w fun r a=>∃ x,r= .returned x∧ykb w.heap.size a x l∧Below w.heap.size w a:=by
 rcases h with ⟨rfl,rfl⟩ | ⟨g,b,C,q,rfl,c,k,i⟩
 ·refine(ybv w).mono ?_;rintro r a ⟨rfl,rfl⟩;exact⟨_,rfl,.inl ⟨rfl,rfl⟩,yf _ _⟩
 ·refine(zmb ⟨g,0,none⟩ l.length b l w rfl n (fun j u d=>?_)).mono ?_
  ·rw [List.getElem?_map] at d;obtain⟨y,p,rfl⟩:=zz.1 d;obtain⟨m,e⟩:=xy.1 p;have:=i j m;rw [zcc,xk];rw [← e];simp [World.cell?,k,this]
  ·rintro r a ⟨x,rfl,o,f⟩;exact⟨x,rfl,.inr o,f⟩
def zfw (a:zc)(i n:Nat)(ps:za)(b:zc):Bool:=zui 1001 a i n ps b
def zoh (a:Nat→Addr)(B:Nat)(b:World)(o:Sum Er (zc×za))(r:Ending):Prop :=
 (∃ e ps x v,o= .inr (e,ps)∧ykb B b x e∧zg1 B b v ps∧(∀ p∈ps,p.length=8)∧r= .returned (.tuple #[x,v,.nilIface])) ∨
 (∃ p g,o= .inl (.tile p)∧b.heap[g]?=some (.cells #[qo p,zd2 a 5] 179 (0,0))∧r= .returned (.tuple #[.slice none 0 0,.slice none 0 0,za7 g])) ∨
 (o= .inl .proof∧r= .returned (.tuple #[.slice none 0 0,.slice none 0 0,zd2 a 4]))
abbrev clT:List Nat:=[93,3,LkN,xg,LkP]
end
variable {A1 G N N' OP1:Nat→Prop}{B B' b i k1 o s:Nat}{T T':List Nat}{V V' a w9:World}{e:TypeId}{ps:za}{v:Value}{xs:List Value}
section
attribute [local go_sem ↓] jy jn j4 jo ji jh j3 jm
abbrev yn8 (e:World)(O:Nat→Prop)(f j i n l:Nat)(C:Array Value)(d:Dk)(a:Int):Prop :=
 ∀(A c:Nat→Prop) (g:Mm) (k:Nat) (m:Ms Nt) (w:World),g.length≤100000000000→(∀ b,c b→e.heap.size≤b)→CS e w O A c f j i n l C d a g m k →
  Calls prog 121 #[yx f] w fun r h=>r= .returned (.tuple #[])∧zq c [LkP] w h∧CS e h O A (jz c w h) f j i n l C d a (jl a g m.needed) m k
structure zra (C:Array Value)(size:Nat)(root:zc):Prop where
 sz:C[4]?=some (.int .i64 size)
 rt:∀ j v,(root.map bv)[j]?=some v→C[5+j]?=some v
 r8:root.length=8
structure Out (W0 w w':World)(O A OP:Nat→Prop)(cb nb db pm nm:Nat)(C:Array Value)(d:Dk)(room:Int)(pr:Mm)(n:Nt)(k:Nat)(P:(Nat→Prop)→Prop):Prop where
 turn:zq (fun b=>O b∨A b∨OP b) clT w w'
 cs:∃ A' OP',zeb A A' w w'∧zeb OP OP' w w'∧CS W0 w' O A' OP' cb nb db pm nm C d room pr ⟨n,[]⟩ k∧P OP'
def zrd (f:World)(d:Nat)(a:Int)(e:Mm)(v:Value)(c:Nat→Prop):Prop :=
 ∃ b N T,zof b c d a e∧zq N T b f∧(∀ k,c k→¬ N k)∧5∉T∧∀ g,v.ownBlock=some g→b.heap.size≤g
def zu7 (f:World)(c:Nat)(a:Int)(d:Mm)(r:Ending)(b:Nat→Prop):Prop :=
 ∀ x v e,r= .returned (.tuple #[x,v,e])→zrd f c a d x b
theorem yce {a:Int}{b:Mm}(h:zof w OP pm a b):zrd w pm a b (.slice none 0 0) OP :=
 ⟨w,fun _=>False,[],h,zq.refl _ _ _,fun _ _ h=>h,by simp,fun g c=>by simp [Value.ownBlock] at c⟩
theorem zq0 {b:Int}{d:Mm}{e:Value}(h:zof w OP pm b d):zu7 w pm b d (.returned (.tuple #[.slice none 0 0,v,e])) OP:=by
 intro x g f c;simp only [zlj,zqg] at c;have:=congrArg (fun a:Array Value=>a[0]?) c;simp only [jw,zea,zr] at this;subst this;exact yce h
theorem zq.apart {b c:World}(h:zq N T a b)(d:zq G T' b c)(i:∀ k,G k→a.heap.size≤k):zq N T a c :=
 ⟨d.os.trans h.os,d.tape.trans h.tape,d.output.trans h.output,zu h.size d.size,fun k f=>by
  rcases d.block k (zx f h.size) with e | ⟨g,-⟩
  ·rw [e];exact h.block k f
  ·have:=i k g;omega⟩
theorem zrd.on {a:Int}{d:Mm}(h:zrd w pm a d v OP)(b:zq N' T' w w')(m:∀ k,OP k→¬ N' k)(n:5∉T'):zrd w' pm a d v OP:=by
 obtain⟨e,N,T,f,g,i,j,l⟩:=h;refine⟨e,fun k=>N k∨N' k,T++T',f,(g.mono (fun _ h=> .inl h) (fun t b=>by simp [b])).trans (b.mono (fun _ h=> .inl (.inr h)) (fun t b=>by simp [b])),fun k c=>?_,?_,l⟩
 ·rintro(h | h)
  ·exact i k c h
  ·exact m k c h
 ·simp [j,n]
theorem zrd.clear {a:Int}{b:Mm}(h:zrd w pm a b v OP)(l:zq G T' w w')(i:∀ k,G k→v.ownBlock=some k):zof w' OP pm a b:=by
 obtain⟨m,N,T,c,d,e,f,g⟩:=h;exact c.stay (d.apart l fun k j=>g k (i k j)) e f (fun _ h=>h)
def zc5 (c:Nat)(b:zc)(a:Int)(d:Mm):Cl:=⟨[],c,b,a,d⟩
section
variable {σ : Type} {fe : σ → zc → (zc × Bool) × σ} {inc : zc → Nat → Nat → za → zc → Bool} {c : Cl} {s : σ} {i : Nat}
theorem zux {p:zc}{m:Ms σ}(h:zaq fe c.proved c.size ⟨s,[]⟩ (-1) i=(.inl p,m)):zbd fe inc c s i=(.inl (.tile p),c,m.net):=by unfold zbd;rw [h]
theorem zuy {a:Pc}{m b:Ms σ}{p:zc}(h:zaq fe c.proved c.size ⟨s,[]⟩ (-1) i=(.inr a,m))(d:qx fe c.proved c.size m (qz 64 0 c.size i)=(.inl p,b)):zbd fe inc c s i=(.inl (.tile p),c,b.net):=by unfold zbd;rw [h];simp only [d]
theorem zuz {a:Pc}{m b:Ms σ}(h:zaq fe c.proved c.size ⟨s,[]⟩ (-1) i=(.inr a,m))(d:qx fe c.proved c.size m (qz 64 0 c.size i)=(.inr ps,b))(e:inc a.hash i c.size ps c.root=false):zbd fe inc c s i=(.inl .proof,c,b.net):=by unfold zbd;rw [h];simp only [d,e,zas,zd3]
theorem zu0 {a:Pc}{m b:Ms σ}(h:zaq fe c.proved c.size ⟨s,[]⟩ (-1) i=(.inr a,m))(d:qx fe c.proved c.size m (qz 64 0 c.size i)=(.inr ps,b))(e:inc a.hash i c.size ps c.root=true):zbd fe inc c s i=(.inr (a.entry,ps),{ c with proved:=jl c.room c.proved (zc8 c.size b.needed i a.hash) },b.net):=by unfold zbd;rw [h];simp only [d,e,if_true]
end
theorem zki (h:Below W0.heap.size W0 w)(a:W0.cell? ⟨b,o,none⟩=some v):w.cell? ⟨b,o,none⟩=some v:=by
 have c:b < W0.heap.size:=yg a;simp only [World.cell?] at *;rw [h.block _ c];exact a
theorem ydj {x:Px}(h:x.ok):x.cs.toArray[10]?=some x.ent:=by
 obtain⟨a,-⟩:=h;simp only [Px.cs,jw,zac];rw [qi (by simp [a])];simp [a]
theorem zk7 {n:Nat}(h:w.ownsRow B e s v n xs)(j:B'≤B):w.ownsRow B' e s v n xs:=by
 obtain⟨h0,d | ⟨g,a,b,c,i,f⟩⟩:=h
 ·exact⟨h0,.inl d⟩
 ·exact⟨h0,.inr ⟨g,a,b,c,zu j i,f⟩⟩
theorem ya5:WfM []:=⟨List.Pairwise.nil,fun x a=>by simp at a⟩
theorem znk {σ:Type}{fe:σ→zc→(zc×Bool)×σ}{g:Mm}{a:Nat}:∀ {b:List (Nat×Nat)} {m f:Ms σ} {c:za},qx fe g a m b=(.inr c,f)→c.length=b.length:=by
 intro b
 induction b with
 | nil =>
  intro m f c h;simp only [qx,ye] at h;obtain⟨h,-⟩:=h;cases h
  rfl
 | cons s r i =>
  intro m f c h;simp only [qx] at h;split at h
  ·simp at h
  ·rename_i x j _;cases d:qx fe g a j r with
   | mk o k =>
    cases o with
    | inl e =>
     rw [d] at h;simp at h
    | inr l =>
     rw [d] at h;simp only [ye,Sum.inr.injEq] at h;obtain⟨rfl,-⟩:=h;simp [i d]
theorem zc3.wd {σ:Type}{fe:σ→zc→(zc×Bool)×σ}{a:Mm}{c:Nat}{m f:Ms σ}{ps:List (Pl×Nat)}(h:zc3 fe a c m ps f):∀ q∈ps,1≤q.1.2.2:=by
 induction h using zc3.ind with
 | nil m=>intro q b;simp at b
 | cons g e _ d =>
  intro q b;rcases jr.1 b with rfl | b
  ·unfold zv;simp only;omega
  ·exact d q b
theorem zc3.wdN {σ:Type}{fe:σ→zc→(zc×Bool)×σ}{a:Mm}{b:Nat}{m e:Ms σ}{ps:List (Pl×Nat)}(h:zc3 fe a b m ps e)(g:WfM a)(c:m.needed=[]):WdN e.needed:=by
 intro x j;rcases h.keys g (by rw [c];exact ya5) x j with ⟨y,d,-⟩ | ⟨q,i,f⟩
 ·rw [c] at d;simp at d
 ·rw [← f];exact h.wd q i
theorem z8j {σ:Type}{fe:σ→zc→(zc×Bool)×σ}{e:Mm}{a:Nat}{n:σ}{c:Pc}{j d:Ms σ}(p:a < 9223372036854775808)(l:i < a)(b:WfM e)(m:zaq fe e a ⟨n,[]⟩ (-1) i=(.inr c,j))(o:qx fe e a j (qz 64 0 a i)=(.inr ps,d)):WdN d.needed∧(d.needed.get (zv a (-1) i)).isSome=true:=by
 have h:zc3 fe e a ⟨n,[]⟩ _ d:=zc3.cons (by simpa [qg] using l) m (zi1 (by omega) _ _ _ _ (fun s g=>by have:=zg5 64 0 a i (by omega) s g;omega) o);refine⟨h.wdN b rfl,?_⟩;obtain⟨f,k,-⟩:=(h.has b ya5).1 (zv a (-1) i,i % 4) (by simp);exact zjh.2 ⟨f,k⟩
theorem zna {c:Int}{i:Mm}{m:Ms Nt}(p:zq (fun b=>O b∨A b∨OP b) clT w V)(g:zeb A A1 w V)(j:zeb OP OP1 w V)(l:CS W0 V O A1 OP1 cb nb db pm nm C d c i m k1)(e:zq A1 [LkN] V w9)(f:zen w9 A1 nm zgx [])(o:k≤k1){P:(Nat→Prop)→Prop}(n:zof w9 OP1 pm c i→P OP1):Out W0 w w9 O A OP cb nb db pm nm C d c i m.net k P:=by
 have q:=e.size;refine⟨?_,A1,OP1,⟨g.1,fun b a=>(g.2 b a).imp id (fun h=>⟨h.1,by omega⟩)⟩,⟨j.1,fun b a=>(j.2 b a).imp id (fun h=>⟨h.1,by omega⟩)⟩,(l.forget e f).less o,n (l.forget e f).prv⟩;refine p.trans (e.mono (fun b a=>?_) (by decide));rcases g.2 b a with h | h
 ·exact .inl (.inr (.inl h))
 ·exact .inr h
theorem zu3 (h:zq (fun b=>O b∨A b∨OP b) clT w V)(c:zeb A A1 w V)(d:zq (fun b=>O b∨A1 b) qT V V'):zq (fun b=>O b∨A b∨OP b) clT w V':=by
 refine h.trans (d.mono (fun b a=>?_) (by decide));rcases a with a | a
 ·exact .inl (.inl a)
 ·exact(c.2 b a).imp (fun h=> .inr (.inl h)) id
theorem zeb.ext (h:zeb A A1 w V)(c:w.heap.size≤V.heap.size)(d:V.heap.size≤V'.heap.size):zeb A (jz A1 V V') w V':=by
 refine⟨fun b a=> .inl (h.1 b a),fun b a=>?_⟩;rcases a with a | a
 ·exact(h.2 b a).imp id (fun h=>⟨h.1,by omega⟩)
 ·exact .inr ⟨by omega,a.2⟩
theorem zeb.below (h:zeb A A1 w V)(c:V.heap.size≤V'.heap.size):zeb A A1 w V' :=
 ⟨h.1,fun b a=>(h.2 b a).imp id (fun h=>⟨h.1,by omega⟩)⟩
theorem zeb.refl (A:Nat→Prop)(w a:World):zeb A A w a:=⟨fun _ h=>h,fun _ h=> .inl h⟩
theorem zvg (A:Nat→Prop)(w a:World):zeb A (jz A w a) w a:=⟨fun _ h=> .inl h,fun _ h=>h⟩
theorem zw6 (W0:World)(K:Nat→Addr)(O A W:Nat→Prop)(cb nb db pm S:Nat)(C:Array Value)(d:Dk)(q:Int)(u:Mm)(n:Nt)(k l i:Nat)(t:zc)(aE:l < 9223372036854775808)(hi:i < l)(hC:zra C l t)(hE:Env W0)(hS:zbz W0 K)(bE:zjx W0)(a1:yn8 W0 O cb nb db pm S C d q)
 (aZ:∀ c y,zaq (yz d.fs) u l ⟨n,[]⟩ (-1) i=(.inr c,y)→c.entry.length≤1000000) (bK:u.length≤100000000000) (bN:WfM u) (bI:∀ b,W b→W0.heap.size≤b) (w:World) (h:CS W0 w O A W cb nb db pm S C d q u ⟨n,[]⟩ (rPl l (qz 64 0 l i)+k+1)) :
  Calls prog 92 #[yx cb,.int .i64 i] w fun r L =>
   Out W0 w L O A W cb nb db pm S C d q (zbd (yz d.fs) zfw (zc5 l t q u) n i).2.1.proved (zbd (yz d.fs) zfw (zc5 l t q u) n i).2.2 k (zu7 L pm q (zbd (yz d.fs) zfw (zc5 l t q u) n i).2.1.proved r)∧zoh K w.heap.size L (zbd (yz d.fs) zfw (zc5 l t q u) n i).1 r:=by
 have M:=zf (z34 W0 K O A W cb nb db pm S C d q u ⟨n,[]⟩ (rPl l (qz 64 0 l i)+k) l (-1) i aE (by omega) (by omega) (by simpa [qg] using hi) w hE hS h);have HH:=zf h;have HC:=zf hC;have HE:=zf hE;have HS:=zf hS;have bY:=zf bE;have bA:=zf a1;have aG:=zf aZ;have bW:=zf bK;have bU:=zf bI;have aP:Hid (∀ D m ps y,zaq (yz d.fs) u l ⟨n,[]⟩ (-1) i=(.inr D,m)→qx (yz d.fs) u l m (qz 64 0 l i)=(.inr ps,y)→WdN y.needed∧(y.needed.get (zv l (-1) i)).isSome=true):=fun D m ps y e e'=>z8j aE hi bN e e';have bu:Hid (∀ p m,zaq (yz d.fs) u l ⟨n,[]⟩ (-1) i=(.inl p,m)→zbd (yz d.fs) zfw (zc5 l t q u) n i=(.inl (.tile p),zc5 l t q u,m.net)):=fun p m e=>zux e;have bw:Hid (∀ D m p y,zaq (yz d.fs) u l ⟨n,[]⟩ (-1) i=(.inr D,m)→qx (yz d.fs) u l m (qz 64 0 l i)=(.inl p,y)→zbd (yz d.fs) zfw (zc5 l t q u) n i=(.inl (.tile p),zc5 l t q u,y.net)):=fun D m p y e e'=>zuy e e';have bx:Hid (∀ D m ps y,zaq (yz d.fs) u l ⟨n,[]⟩ (-1) i=(.inr D,m)→qx (yz d.fs) u l m (qz 64 0 l i)=(.inr ps,y)→zfw D.hash i l ps t=false→zbd (yz d.fs) zfw (zc5 l t q u) n i=(.inl .proof,zc5 l t q u,y.net)):=fun D m ps y e e' bf=>zuz e e' bf;have bz:Hid (∀ D m ps y,zaq (yz d.fs) u l ⟨n,[]⟩ (-1) i=(.inr D,m)→qx (yz d.fs) u l m (qz 64 0 l i)=(.inr ps,y)→zfw D.hash i l ps t=true→zbd (yz d.fs) zfw (zc5 l t q u) n i=(.inr (D.entry,ps),{ zc5 l t q u with proved:=jl q u (zc8 l y.needed i D.hash) },y.net)):=fun D m ps y e e' bf=>zu0 e e' bf;have b0:w.cell? ⟨cb,14,none⟩=some (.pointer (some ⟨S,0,none⟩)):=(zw h.cli 14 _ h.cells.nee).1;have c4:w.cell? ⟨cb,4,none⟩=some (.int .i64 l):=(zw h.cli 4 _ hC.sz).1;clear h hC hE hS bE a1 aZ bK bI bN;unfold yx at M ⊢
 go_enter_defers func92,ntmps92
 go_wp2_with fail;refine M.o.mono ?_;rintro r E ⟨bM,aV,b4⟩;have ba:=zf bM;have ae:=zf aV;clear bM aV M b0 c4;generalize zaq (yz d.fs) u l ⟨n,[]⟩ (-1) i=NM at *;obtain⟨o,m1⟩:=NM;simp only at *;have HG:Hid (∀ x:Px,x.ok→(zph (.pointer (some ⟨E.heap.size,0,none⟩)) (.agg x.cs.toArray)).run prog (E.alloc (.cells zhr zbk))= .ok () ((E.alloc (.cells zhr zbk)).setCells E.heap.size 0 x.cs)∧((E.alloc (.cells zhr zbk)).setCells E.heap.size 0 x.cs).heap[E.heap.size]?=some (.cells x.cs.toArray zbk (0,0))∧Below E.heap.size E ((E.alloc (.cells zhr zbk)).setCells E.heap.size 0 x.cs)):=by
  intro x hx;have bH:(E.alloc (.cells zhr zbk)).heap[E.heap.size]?=some (.cells Px.no.cs.toArray zbk (0,0)):=zg _ _;have b1:=zb2 bH (ds:=x.cs) (by rw [Px.cs_len hx,Px.cs_len Px.no_ok]);exact⟨zhv (zb1 bH) (Px.cs_len hx) (Px.cs_one hx),b1,xn (zk _ _) (zm _) _ _⟩
 rcases b4 with ⟨x,c,rfl,bh,bO,rfl⟩ | ⟨p,g,rfl,X,rfl⟩
 ·obtain⟨av,aD,I⟩:=HG.o x bh;have aa:=zf I;have a5:=zf aD;have aC:=zf bh;have bD:=zf bO;have ab:=zf (ae.o.below I);have bC:Hid (zq (fun b=>O b∨A b∨W b) clT w ((E.alloc (.cells zhr zbk)).setCells E.heap.size 0 x.cs)):=(ba.o.mono (fun b ar=>ar.imp id .inl) (by decide)).then_below I;have bi:Hid (zeb A (jz A w E) w ((E.alloc (.cells zhr zbk)).setCells E.heap.size 0 x.cs)):=(zvg A w E).below I.size;have aQ:=zf av;clear aD I bh bO HG ba ae av;generalize ca:(E.alloc (.cells zhr zbk)).setCells E.heap.size 0 x.cs=V1 at *;have av:=aQ.o;have aj:=zf (z8a 64 (by omega) 0 l i V1 (by omega) (by omega) (by omega) (by omega) (by omega));go_wp2_with fail;refine aj.o.mono ?_;rintro r V2 ⟨sv,rfl,N,bL⟩;have bR:=zf N;have bl:=zf (ab.o.below N);have aB:=zf (bC.o.then_below N);have a2:=zf (bi.o.below N.size);have bo:=zf ((N.block _ (zi a5.o)).trans a5.o);have aR:Hid (zji V2 x c):=zji.turn (O:=fun _=>False) (T:=[]) (zji.turn (O:=fun _=>False) (T:=[]) bD.o (.of_below aa.o) (by decide)) (.of_below N) (by decide);have J:=zf (zzz W0 K O (jz A w E) W cb nb db pm S C d q u m1 k l aE HE.o HS.o bY.o sv (qz 64 0 l i) V1.heap.size V2 bL (by have:=zcx 64 0 l i;omega) (fun s hs=>by have:=zg5 64 0 l i (by omega) s hs;omega) bl.o);clear N bL aj a5 bD ab bC bi aQ av aa;unfold yx at J;go_wp2_with fail;refine J.o.mono ?_;rintro r w3 ⟨aw,aW,b5⟩;have bb:=zf (zu3 aB.o a2.o aw);have a3:=zf (a2.o.ext aB.o.size aw.size);have bZ:=zf aB.o.size;have V:=zf aW;have af:=zf (aw.keep bo.o (by decide));have U:Hid (zji w3 x c):=zji.turn aR.o aw (by decide);clear aw aW J aB a2 bo aR bl bR;have aK:Hid (∀ p y,qx (yz d.fs) u l m1 (qz 64 0 l i)=(.inl p,y)→zbd (yz d.fs) zfw (zc5 l t q u) n i=(.inl (.tile p),zc5 l t q u,y.net)):=fun p y e=>bw.o c m1 p y rfl e;have aL:Hid (∀ ps y,qx (yz d.fs) u l m1 (qz 64 0 l i)=(.inr ps,y)→zfw c.hash i l ps t=false→zbd (yz d.fs) zfw (zc5 l t q u) n i=(.inl .proof,zc5 l t q u,y.net)):=fun ps y e e'=>bx.o c m1 ps y rfl e e';have aN:Hid (∀ ps y,qx (yz d.fs) u l m1 (qz 64 0 l i)=(.inr ps,y)→zfw c.hash i l ps t=true→zbd (yz d.fs) zfw (zc5 l t q u) n i=(.inr (c.entry,ps),{ zc5 l t q u with proved:=jl q u (zc8 l y.needed i c.hash) },y.net)):=fun ps y e e'=>bz.o c m1 ps y rfl e e';have an:Hid (∀ ps y,qx (yz d.fs) u l m1 (qz 64 0 l i)=(.inr ps,y)→WdN y.needed∧(y.needed.get (zv l (-1) i)).isSome=true):=fun ps y e=>aP.o c m1 ps y rfl e;have a4:Hid (c.entry.length≤1000000):=aG.o c m1 rfl;have aJ:Hid (∀ ps y,qx (yz d.fs) u l m1 (qz 64 0 l i)=(.inr ps,y)→ps.length≤64):=fun ps y e=>by
   rw [znk e];exact zcx 64 0 l i
  clear bu bw bx bz aP aG;generalize qx (yz d.fs) u l m1 (qz 64 0 l i)=RM at *;obtain⟨o,m2⟩:=RM;simp only at *;rcases b5 with ⟨ps,pv,rfl,au,h8,rfl⟩ | ⟨p,g,rfl,X,rfl⟩
  ·have aI:=zf au;have H8:=zf h8;have ak:=zf (aJ.o ps m2 rfl);have ao:=zf (an.o ps m2 rfl);have aM:=zf (aL.o ps m2 rfl);have aO:=zf (aN.o ps m2 rfl);have aA:Hid (∀ L,Below w3.heap.size w3 L→(zez (.pointer (some ⟨E.heap.size,2,none⟩))).run prog L= .ok (.agg (hv c.hash)) L∧(zez (.pointer (some ⟨cb,5,none⟩))).run prog L= .ok (.agg (hv t)) L):=by
    intro L hb;rw [← U.o.hash];refine⟨za5 (zw0 ((hb.block _ (zi af.o)).trans af.o)) aC.o.1,za5 (fun j v hv=>?_) HC.o.r8⟩;have h1:=HC.o.rt j v hv;exact(zw ((hb.block _ (zi V.o.cli)).trans V.o.cli) (5+j) v h1).1
   have z:Below w3.heap.size w3 w3.drew:=(yf _ _).drew;have aH:=zf (ylc 1001 c.hash t i l (by omega) pv ps w3.drew (by have:=ak.o;omega) (by have:=ak.o;omega) (by rw [← U.o.hash];exact aC.o.1) HC.o.r8 (Hss.of_owns (w:=w3.drew) h8 (zo (O:=fun _=>False) (T:=[]) au (zq.refl _ _ _).drew (by decide))));clear au h8 aJ an aK aL aN;go_wp2_with fail
   go_region_held3 (fun L=>(zez (.pointer (some ⟨E.heap.size,2,none⟩))).run prog L= .ok (.agg (hv c.hash)) L∧(zez (.pointer (some ⟨cb,5,none⟩))).run prog L= .ok (.agg (hv t)) L) (exact aA.o _ z) (first
    | (go_at_call 130;refine aH.o.mono ?_;rintro r w4 ⟨rfl,bF⟩;have a0:=zbb bF;clear z bF;have z:=a0;clear a0))
   rename_i Q;clear Q;have bS:=zf z;have ay:=zf (V.o.below z);have bc:=zf (bb.o.then_below z);have ax:=zf (a3.o.below z.size);have bp:=zf ((z.block _ (zi af.o)).trans af.o);have aq:Hid (zji w4 x c):=zji.turn (O:=fun _=>False) (T:=[]) U.o (.of_below z) (by decide);have ag:Hid (zg1 V2.heap.size w4 pv ps):=zo (O:=fun _=>False) (T:=[]) aI.o (.of_below z) (by decide);clear z V bb a3 af U aI aH;have al:Hid (zui 1001 c.hash (i:Int) (l:Int) ps t=false→zbd (yz d.fs) zfw (zc5 l t q u) n i=(.inl .proof,zc5 l t q u,m2.net)):=aM.o;have am:Hid (zui 1001 c.hash (i:Int) (l:Int) ps t=true→zbd (yz d.fs) zfw (zc5 l t q u) n i=(.inr (c.entry,ps),{ zc5 l t q u with proved:=jl q u (zc8 l m2.needed i c.hash) },m2.net)):=aO.o;clear aM aO;generalize zui 1001 c.hash (i:Int) (l:Int) ps t=B at *;cases B with
   | false =>
    have hR:=al.o rfl;clear al am aA;have qe:w4.cell? ⟨4,0,none⟩=some (.iface 364 (.pointer (some (K 4)))):=by
     exact zki ay.o.base HS.o.proof
    have ad:=zf (ay.o.below (yf _ w4).drew);obtain⟨L2,F⟩:=ad.o.mem;have H:=zf (zf8 .returning _ S zgx L2 _ F);clear F;have a9:=zf hR;clear hR;unfold yx at H;go_wp2_with fail
    go_region_held3 (fun L=>L.cell? ⟨4,0,none⟩=some (.iface 364 (.pointer (some (K 4))))) (go_keep) (fail)
    rename_i Q;clear Q;go_wp2_with fail;refine zb9 (f:=106) (args:=#[.pointer (some ⟨S,0,none⟩)]) (by simp) (by simp [go_sem]) ?_;refine H.o.mono ?_;rintro e u' w9 ⟨rfl,rfl,G,R,bg⟩;simp only [Leaves,settle];refine⟨.tuple #[.slice none 0 0,.slice none 0 0,zd2 K 4],by simp [results,results92,go_sem,zd2],?_⟩;rw [a9.o];exact⟨zna (bc.o.then_below (yf _ w4).drew) (ax.o.below (zm _)) (zeb.refl _ _ _) ad.o G R (zm _) zq0,.inr (.inr ⟨rfl,rfl⟩)⟩
   | true =>
    have a9:=zf (am.o rfl);clear al am;have b3:=(aA.o w4 bS.o).1;have ap:=zf (zul W0 O (jz (jz A w E) V2 w3) W cb nb db pm S C d q u l k i aE hi c.hash (by rw [← aq.o.hash];exact aC.o.1) m2 w4 ao.o.1 ao.o.2 ay.o);unfold yx at ap;go_wp2_with fail;refine ap.o.mono ?_;rintro r w6 ⟨rfl,Y,aX⟩;have bd:Hid (zq (fun b=>O b∨A b∨W b) clT w w6):=zu3 bc.o ax.o (Y.mono (fun _ h=> .inr h) (by decide));have bj:=zf (ax.o.below Y.size);have ad:=zf aX;have bq:=zf (Y.keep bp.o (by decide));have aS:Hid (zji w6 x c):=zji.turn aq.o Y (by decide);have ah:Hid (zg1 V2.heap.size w6 pv ps):=zo ag.o Y (by decide);clear Y aX ap bc ax ay bp aq ag b3 aA;have a8:=zf (bA.o _ W u k _ w6 bW.o bU.o ad.o);unfold yx at a8;go_wp2_with fail;refine a8.o.mono ?_;rintro r w7 ⟨rfl,Z,aY⟩;have be:Hid (zq (fun b=>O b∨A b∨W b) clT w w7):=bd.o.trans (Z.mono (fun b h=> .inl (.inr (.inr h))) (by decide));have bk:=zf (bj.o.below Z.size);have bs:Hid (zeb W (jz W w6 w7) w w7):=⟨fun _ h=> .inl h,fun b hb=>hb.imp id (fun h=>⟨zu bd.o.size h.1,h.2⟩)⟩;have az:=zf aY;have br:=zf (Z.keep bq.o (by decide));have aU:Hid (zji w7 x c):=zji.turn aS.o Z (by decide);have ai:Hid (zg1 V2.heap.size w7 pv ps):=zo ah.o Z (by decide);clear Z aY a8 bd bj ad bq aS ah;have b6:w7.cell? ⟨E.heap.size,10,none⟩=some x.ent:=(zw br.o 10 _ (ydj aC.o)).1;have aF:=zf (ybu x.ent c.entry w7 aU.o.ent a4.o);go_wp2_with fail;refine aF.o.mono ?_;rintro r w8 ⟨ev,rfl,bG,P⟩;have bB:Hid (w.heap.size≤V2.heap.size∧w.heap.size≤w7.heap.size):=⟨bZ.o,be.o.size⟩;have bX:=zf (be.o.then_below P);have bP:=zf (bk.o.below P.size);have bV:=zf (bs.o.below P.size);have bm:=zf (az.o.below P);have bn:=zf bG;have bt:=zf az.o.prv;have bQ:=zf az.o.away;have bT:=zf P;have a7:Hid (zg1 V2.heap.size w8 pv ps):=zo (O:=fun _=>False) (T:=[]) ai.o (.of_below P) (by decide);clear bG P b6 aF be bk az br aU ai bs;obtain⟨L2,F⟩:=bm.o.mem;have H:=zf (zf8 .returning _ S zgx L2 _ F);clear F;unfold yx at H;go_wp2_with fail;refine zb9 (f:=106) (args:=#[.pointer (some ⟨S,0,none⟩)]) (by simp) (by simp [go_sem]) ?_;refine H.o.mono ?_;rintro e u' w9 ⟨rfl,rfl,G,R,bg⟩;simp only [Leaves,settle];refine⟨.tuple #[ev,pv,.nilIface],by simp [results,results92,go_sem],?_⟩;rw [a9.o];have b2:zu7 w9 pm q (jl q u (zc8 l m2.needed i c.hash)) (.returned (.tuple #[ev,pv,.nilIface])) (jz W w6 w7):=by
     intro x' v' e' he;simp only [zlj,zqg] at he;have:=congrArg (fun a:Array Value=>a[0]?) he;simp only [jw,zea,zr] at this;subst this;refine⟨w7,_,[LkN],bt.o,(zq.of_below bT.o).trans (G.mono (fun _ h=> .inl h) (fun _ h=>h)),fun b hb ar=>bQ.o b hb (.inr ar),by decide,fun g hg=>?_⟩;rcases bn.o with ⟨h,-⟩ | h
     ·rw [h] at hg;simp [Value.ownBlock] at hg
     ·rcases h.1.2 with ⟨h,-⟩ | ⟨g',b8,b9,h,hB,-⟩
      ·rw [h] at hg;simp [Value.ownBlock] at hg
      ·rw [h] at hg;simp only [Value.ownBlock,zr] at hg;omega
    have bJ:=zna bX.o bP.o bV.o bm.o G R (zm _) (fun _=>b2);refine⟨bJ,.inl ⟨c.entry,ps,ev,pv,rfl,?_,?_,H8.o,rfl⟩⟩
    ·rcases bn.o with h | h
     ·exact .inl h
     ·exact .inr ⟨zk7 (zo h.1 G (by decide)) bB.o.2,h.2⟩
    ·exact zk7 (zo a7.o G (by decide)) bB.o.1
  ·have a6:=zf X;obtain⟨L2,F⟩:=V.o.mem;have H:=zf (zf8 .returning _ S zgx L2 _ F);clear X F;unfold za7;unfold yx at H;go_wp2_with fail;refine zb9 (f:=106) (args:=#[.pointer (some ⟨S,0,none⟩)]) (by simp) (by simp [go_sem]) ?_;refine H.o.mono ?_;rintro e u' w9 ⟨rfl,rfl,G,R,bg⟩;simp only [Leaves,settle];refine⟨.tuple #[.slice none 0 0,.slice none 0 0,za7 g],by simp [results,results92,go_sem,za7],?_⟩;rw [aK.o _ _ rfl];exact⟨zna bb.o a3.o (zeb.refl _ _ _) V.o G R (zm _) zq0,.inr (.inl ⟨p,g,rfl,G.keep a6.o (by decide),rfl⟩)⟩
 ·obtain⟨av,aD,I⟩:=HG.o .no Px.no_ok;have aa:=zf I;have a6:Hid (((E.alloc (.cells zhr zbk)).setCells E.heap.size 0 Px.no.cs).heap[g]?=some (.cells #[qo p,zd2 K 5] 179 (0,0))):=(I.block _ (zi X)).trans X;have ab:=zf (ae.o.below I);obtain⟨L2,F⟩:=ab.o.mem;have b7:=zf F;have H:=zf (zf8 .returning _ S zgx L2 _ F);clear aD I X F HG;unfold za7;unfold yx at H;go_wp2_with fail;refine zb9 (f:=106) (args:=#[.pointer (some ⟨S,0,none⟩)]) (by simp) (by simp [go_sem]) ?_;refine H.o.mono ?_;rintro e u' w9 ⟨rfl,rfl,G,R,bg⟩;simp only [Leaves,settle];refine⟨.tuple #[.slice none 0 0,.slice none 0 0,za7 g],by simp [results,results92,go_sem,za7],?_⟩;rw [bu.o _ _ rfl];exact⟨zna ((ba.o.mono (fun b ar=>ar.imp id .inl) (by decide)).then_below aa.o) ((zvg A w E).below aa.o.size) (zeb.refl _ _ _) ab.o G R (by omega) zq0,.inr (.inl ⟨p,g,rfl,G.keep a6.o (by decide),rfl⟩)⟩
end
variable {eb q:Nat}
section
open Go.RowKit Go.Shelf
attribute [local go_sem] Oper.semAt_some
abbrev zve:Nat:=155
theorem yfp (a:Nat)(w:World):
  Calls prog 175 #[yx a] w fun r b=>r= .returned (.func (.func 220) #[] #[.pointer (some ⟨w.heap.size,0,none⟩)])∧b=w.alloc (.cells #[yx a] zve):=by
 unfold yx;go_enter func175,ntmps175;go_wp2_with fail;go_ret;exact⟨rfl,rfl⟩
def KpN (W a:World):Prop:=∀(k:Nat) (c:Array Value) (t:TypeId) (x:Nat×Nat),W.heap[k]?=some (.cells c t x)→t∈[LkN,MeN,zve]→a.heap[k]?=some (.cells c t x)
theorem ymu {A B C:World}(h:KpN A B)(b:KpN B C):KpN A C:=fun k c t x e a=>b k c t x (h k c t x e a) a
theorem yoe {n:Nat}(W:World)(l:Nat)(o d:Obj)(_:n≤l)(h:W.heap[l]?=some o)(b:o.isCells=false)(_:o.isWalk=false):KpN W (W.putObj l d):=fun k c t x e _=>by
 rw [World.putObj_heap_other (fun a=>by subst a;rw [h] at e;simp only [zr] at e;subst e;simp [Obj.isCells] at b)];exact e
theorem zvp {d e:Nat→Nat}:∀(l:List Nat),zey d e l→∀ i (h:i+1 < l.length),d (l[i]'(by omega))=l[i+1]
 | [],_,i,h=>by simp at h
 | [a],_,i,h=>by simp at h
 | a::b::r,c,i,h=>by
  cases i with
  | zero=>exact c.1
  | succ i=>exact zvp (b::r) c.2.2 i (by simpa using h)
def yo0:Value→Nat
 | .pointer (some a)=>a.block
 | _=>0
def yoi (a:List Nat)(v:Value):Nat:=a.idxOf (yo0 v)
theorem ylu {a:List Nat}(d:a.Nodup)(h:q < a.length):a.idxOf a[q]=q:=by
 have b:a.idxOf a[q] < a.length:=List.idxOf_lt_length_of_mem (yd h);have c:a[a.idxOf a[q]]=a[q]:=List.getElem_idxOf b;exact(List.getElem_inj d).1 c
def lkB (b:Nat)(a:LsN)(q:Nat):Nat:=(a.map (·.1)++[b]).getD q 0
theorem z03 {a:LsN}(h:q < a.length):lkB eb a q=a[q].1:=by
 unfold lkB;rw [zl,qd (by simpa using h)];simp [h]
theorem yam {a:LsN}:lkB eb a a.length=eb:=by
 unfold lkB;rw [zl,qi (by simp)];simp
theorem yas {a:LsN}(d:(a.map (·.1)).Nodup)(c:eb∉a.map (·.1))(h:q≤a.length):yoi (a.map (·.1)) (.pointer (some ⟨lkB eb a q,0,none⟩))=q:=by
 show(a.map (·.1)).idxOf (lkB eb a q)=q;rcases qu q a.length with b | b
 ·rw [z03 b];have:=ylu d (q:=q) (by simpa using b);simpa using this
 ·obtain rfl:q=a.length:=by omega
  rw [yam,List.idxOf_eq_length c];simp
theorem yau {a:Nat}{r:Bool}(h:(sameAddr ⟨a,0,none⟩ ⟨b,0,none⟩).run prog w= .ok r w):(binOp .neq 209 (.pointer (some ⟨a,0,none⟩)) (.pointer (some ⟨b,0,none⟩))).run prog w= .ok (.bool (!r)) w:=by
 have c:∀ d,(Op.equalIn (d+1) 209 (.pointer (some ⟨a,0,none⟩)) (.pointer (some ⟨b,0,none⟩))).run prog w= .ok r w:=by
  intro d;simp [Op.equalIn,zcu underlying209,sizeOf211,h]
 simp only [binOp];have:=c 9999;simp [Op.equal,Op.maxDepth,this]
abbrev ygk (a:LsN)(i:Fin a.length):Array Value:=#[plV a[i].2.1,a[i].2.2]
theorem ykg (n:Nat)(hn:1≤n)(l V C hb g:Nat)(w Y:Nat→Nat)(T:Int)(A:Nat→Prop)(d:LsN)(J Jx:List (Fin d.length)→World→Prop)(af:∀ s A B,J s A→A.grownBy B none→J s B)
 (hY:∀ f x W,J f W→f.length < d.length→YieldAt Fence.wide (n - 1) prog l (ygk d x) W fun e r=>(e= .returned (.bool true)∧J (f++[x]) r∧KpN W r)∨(e= .returned (.bool false)∧Jx (f++[x]) r))
 (W:World) (F:W.heap[V]?=some (.cells #[yx C] zve (0,0))) (hM:zqp W A C hb g w Y T d) (h0:J [] W) :
  CallsIn Fence.wide n prog 220 #[.func (.yield l) #[] #[],.pointer (some ⟨V,0,none⟩)] W fun e r=>(∃ v,e= .returned v)∧((∃ xs,xs.map Fin.val=List.range d.length∧J xs r)∨(∃ f,True∧Jx f r)):=by
 have K:=hM.ring.circ;have R:w g=lkB g d 0∧∀ q,q < d.length→w (lkB g d q)=lkB g d (q+1):=by
  have hl:(d.map (·.1)++[g]).length=d.length+1:=by simp
  refine⟨?_,fun q h=>?_⟩
  ·have:=zvp _ K.2 0 (by simp);simp only [zak,zan,zam,xk] at this;unfold lkB;rw [zl,zt (by omega)];exact this
  ·have:=zvp _ K.2 (q+1) (by simp;omega);simp only [zak,zam] at this;unfold lkB;rw [zl,zl,zt (by omega),zt (by omega)];exact this
 have E:=zf R;have y:=zf hM;have D:=zf F;have HY:=zf hY;have m:Hid ((d.map (·.1)).Nodup∧g∉d.map (·.1)):=⟨(zbj.1 K.1).2,(zbj.1 K.1).1⟩;clear hM F hY K R;refine callsIn_of_wp func220 rfl trivial ?_ rfl;simp only [ntmps220,xf,y9,jc,Nat.reduceAdd,Nat.reduceSub,Array.replicate_succ,Array.replicate_zero,List.push_toArray,List.append_toArray,zal,zak];have c0:W.cell? ⟨V,0,none⟩=some (.pointer (some ⟨C,0,none⟩)):=(zw D.o 0 _ rfl).1;have c1:W.cell? ⟨C,2,none⟩=some (.pointer (some ⟨g,0,none⟩)):=(zw y.o.mem 2 _ rfl).1;have c2:W.cell? ⟨g,5,none⟩=some (.pointer (some ⟨w g,0,none⟩)):=(zw y.o.ring.ends 5 _ rfl).1;rw [E.o.1] at c2
 gi_wp2
 gi_loopw [3] (fun p wr=>∃(q:Nat) (f:List (Fin d.length)),q≤d.length∧p= .pointer (some ⟨lkB g d q,0,none⟩)∧KpN W wr∧f.map Fin.val=List.range q∧J f wr) (fun p _=>d.length - yoi (d.map (·.1)) p)
 case atStart=>exact⟨0,[],yv _,rfl,fun _ _ _ _ e _=>e,rfl,h0⟩
 case round =>
  obtain⟨q,f,hq,rfl,z,X,hJ⟩:=hrel;have I:=z _ _ _ _ D.o (by simp);have O:=z _ _ _ _ y.o.mem (by simp);have e0:wr.cell? ⟨V,0,none⟩=some (.pointer (some ⟨C,0,none⟩)):=(zw I 0 _ rfl).1;have e1:wr.cell? ⟨C,2,none⟩=some (.pointer (some ⟨g,0,none⟩)):=(zw O 2 _ rfl).1
  by_cases i:q < d.length
  ·have Q:¬ lkB g d q=g:=fun e=>m.o.2 (by rw [← e,z03 i];exact zeh (yd i));have j:wr.heap[lkB g d q]?=some (.cells (lkN d[q].2.1 d[q].2.2 (Y d[q].1) (w d[q].1)) LkN (0,0)):=by
    rw [z03 i];exact z _ _ _ _ (y.o.ring.link d[q] (yd i)) (by simp)
   have M:wr.heap[g]?=some (.cells (lkN (0,0,0) (.pointer none) (Y g) (w g)) LkN (0,0)):=z _ _ _ _ y.o.ring.ends (by simp);have L:=yau (run_sameAddr_other (P:=prog) (a:=⟨lkB g d q,0,none⟩) (b:=⟨g,0,none⟩) wr (by intro e;injection e with e;exact Q e) j M);obtain⟨a,ha⟩:=(y.o.ok d[q] (yd i)).2;have f0:wr.cell? ⟨lkB g d q,0,none⟩=some (.int .i64 d[q].2.1.1):=(zw j 0 _ rfl).1;have f1:wr.cell? ⟨lkB g d q,1,none⟩=some (.int .i64 d[q].2.1.2.1):=(zw j 1 _ rfl).1;have f2:wr.cell? ⟨lkB g d q,2,none⟩=some (.int .i64 d[q].2.1.2.2):=(zw j 2 _ rfl).1;have f3:wr.cell? ⟨lkB g d q,3,none⟩=some (.pointer a):=by
    have:=(zw j 3 _ rfl).1;rw [← ha];exact this
   have ai:f.length=q:=by
    have:=congrArg List.length X;simpa using this
   obtain⟨fn,U,assign,body,hy,hR⟩:=HY.o f ⟨q,i⟩ wr.drew (af _ _ _ hJ ⟨rfl,rfl,rfl,zm _,fun _ _ _=>rfl⟩) (by omega);have u:ygk d ⟨q,i⟩=#[.agg #[.int .i64 d[q].2.1.1,.int .i64 d[q].2.1.2.1,.int .i64 d[q].2.1.2.2],.pointer a]:=by
    unfold ygk plV;simp only [Fin.getElem_fin];rw [ha]
   rw [u] at hy;have HR:=zf hR;have HK:=zf z;have HP:=zf X;have aa:=zf j;clear hR z X I O j M Q u HY;generalize H:lkB g d q=lb at *;have ab:Hid (w d[q].1=lkB g d (q+1)):=by
    have:=E.o.2 q i;rw [z03 i] at this;exact this
   gi_wp2
   have ah:prog.follows Departure.mixedOrders=true:=by kernel_rfl
   have ad:Hid (RoundIn Fence.wide (n - 1) prog l fn U assign body wr.drew fun e r=>∃ b,e= .returned (.bool b)∧((b=true∧J (f++[⟨q,i⟩]) r∧KpN wr.drew r)∨(b=false∧Jx (f++[⟨q,i⟩]) r))):=HR.o.mono (fun e r h=>by
    rcases h with ⟨rfl,h⟩ | ⟨rfl,h⟩
    ·exact⟨true,rfl,.inl ⟨rfl,h⟩⟩
    ·exact⟨false,rfl,.inr ⟨rfl,h⟩⟩)
   gi_region_with_o (refine ad.o.mono ?_;rintro e W3 ⟨b,rfl,S⟩)
   all_goals (
    have Z:=zf H;clear H;rcases S with ⟨rfl,ae,N⟩ | ⟨rfl,G⟩)
   all_goals first
    | (
     have ag:W3.heap[lb]?=some (.cells (lkN d[q].2.1 d[q].2.2 (Y d[q].1) (w d[q].1)) LkN (0,0)):=N _ _ _ _ aa.o (by simp);have f5:W3.cell? ⟨lb,5,none⟩=some (.pointer (some ⟨lkB g d (q+1),0,none⟩)):=by
      have:=(zw ag 5 _ rfl).1;rw [← ab.o];exact this
     gi_wp2
     go_roundw
     case rel=>exact⟨q+1,f++[⟨q,i⟩],by omega,rfl,ymu HK.o (fun k c t x e ht=>N k c t x e ht),by rw [yy,HP.o,zfe];rfl,ae⟩
     case measure =>
      rw [← Z.o,yas m.o.1 m.o.2 (by omega),yas m.o.1 m.o.2 (by omega)];omega)
    | (
     gi_wp2
     refine z8 (zcg rfl _ _ _) rfl ?_;exact⟨⟨_,rfl⟩,.inr ⟨_,trivial,G⟩⟩)
  ·obtain rfl:q=d.length:=by omega
   rw [yam];have L:=yau (run_sameAddr_same (P:=prog) wr ⟨g,0,none⟩)
   gi_wp2
   go_end0
   exact⟨⟨_,rfl⟩,.inl ⟨f,X,hJ⟩⟩
theorem z6j (n:Nat)(D:1≤n)(h g o i:Nat)(p q:Nat→Nat)(a:Int)(A:Nat→Prop)(d:LsN)(w:World)(j:w.heap[h]?=some (.cells #[yx g] zve (0,0)))(b:zqp w A g o i p q a d):
  SeqStopsK Fence.wide n prog 220 #[.pointer (some ⟨h,0,none⟩)] (ygk d) KpN (fun G=>G.map Fin.val=List.range d.length) (fun _=>True) d.length w:=by
 intro l J v W u y z B h0;have f:KpN w W:=fun k c t x e _=>(u.block k (zi e)).trans e;have m:zqp W A g o i p q a d:=⟨b.own,f _ _ _ _ b.mem (by simp),⟨f _ _ _ _ b.ring.ends (by simp),fun x F=>f _ _ _ _ (b.ring.link x F) (by simp),b.ring.circ⟩,b.map.same (u.block _ b.map.lt),b.ok⟩;exact ykg n D l h g o i p q a A d J v (fun s X Y E C=>y s X Y none E C (fun r e=>by cases e)) B W (f _ _ _ _ j (by simp)) m h0
end
end Go.Proofs.YtlcllcgngjhoaaaGreatDoor
