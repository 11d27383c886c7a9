import Derived.Test.YtlcllcgngjhoaaaGreatDoorG35
set_option maxHeartbeats 8000000
set_option maxRecDepth 100000
set_option linter.all false
namespace Go.Proofs.YtlcllcgngjhoaaaGreatDoor
open Go.RowKit Go.Proofs.Tryz
def zb4:=@Array.getElem?_eq_some_iff
def zgu:=@wpOpIn_step
def z2r:=@callsIn_wide
variable {A O OP:Nat→Prop}{B cb db eb hb k nb nbk nm pm:Nat}{C:Array Value}{W W' W0 X Y w w' w1 w5 w6:World}{d:Dk}
section
open Go.RowKit Go.Shelf
attribute [local go_sem] Oper.semAt_some
attribute [local go_sem ↓] jy jn j4 jo ji jh j3 jm
def exP (c b a:Nat)(L:LsP):Nat→Prop:=fun k=>k=c∨k=b∨k=a∨k∈L.map (·.1)
theorem zjg.exact {a:Int}{L:LsP}(h:zjg w O pm a L):∃ c b e f,zhg w (exP pm c b L) pm c b e f a L∧∀ k,exP pm c b L k→O k:=by
 obtain⟨c,b,e,f,h⟩:=h;refine⟨c,b,e,f,⟨⟨.inl rfl,.inr (.inl rfl),.inr (.inr (.inl rfl)),fun x d=> .inr (.inr (.inr (zeh d)))⟩,h.mem,h.ring,h.map,h.ok⟩,?_⟩;rintro k (rfl | rfl | rfl | g)
 ·exact h.own.1
 ·exact h.own.2.1
 ·exact h.own.2.2.1
 ·obtain⟨x,d,rfl⟩:=yl.1 g;exact h.own.2.2.2 x d
theorem z8h (g f d:Nat)(t u:Nat→Nat)(b:Int)(L:LsP)(p:Pl)(D:zip p)(v:List Value)(hv:v.length=44)(q:∀ x∈v,x.oneCell'=true)(w:World)(h:zhg w (exP g f d L) g f d t u b L)(C:L.length≤1000000000000):
  Calls prog 176 #[yx g,plV p,.agg v.toArray] w fun r n=>r= .returned (.tuple #[])∧zq (exP g f d L) [LkP] w n∧∃ c j k,w.heap.size≤c∧c < n.heap.size∧zhg n (exP g f d (zn0 b (L.drop p++[(c,p,v)]))) g f d j k b (zn0 b (L.drop p++[(c,p,v)])):=by
 refine(yi4 (exP g f d L) g b L p D v hv q w ⟨f,d,t,u,h⟩ C).mono ?_;rintro r n ⟨rfl,s,c,z,A,i⟩;obtain⟨m,l,j,k,i⟩:=i;have e:=i.mem;rw [s.keep h.mem (by decide)] at e;have y:f=m∧d=l:=by
  have:=e;simp only [zr,vw,zl9] at this;have o:Value.map (some f)=Value.map (some m):=by
   have:=congrArg (fun a=>a[1]?) this;simpa using this
  have B:yx d=yx l:=by
   have:=congrArg (fun a=>a[2]?) this;simpa using this
  exact⟨by injection o with o;injection o,z4r B⟩
 obtain⟨rfl,rfl⟩:=y;exact⟨rfl,s,c,j,k,z,A,⟨.inl rfl,.inr (.inl rfl),.inr (.inr (.inl rfl)),fun x E=> .inr (.inr (.inr (zeh E)))⟩,i.mem,i.ring,i.map,i.ok⟩
theorem zhg.grown {i j:Nat→Nat}{b:Int}{L:LsP}(h:zhg w O pm hb eb i j b L){row:Option Nat}(f:w.grownBy w' row)(g:∀ r,row=some r→hb≠r∧∃ o:Obj,w.heap[r]?=some o∧o.isCells=false):zhg w' O pm hb eb i j b L:=by
 have a:∀(k:Nat) (c:Array Value) (t:TypeId) (x:Nat×Nat),w.heap[k]?=some (.cells c t x)→w'.heap[k]?=some (.cells c t x):=fun k c t x e=>by
  rw [f.block k (zi e) (fun l=>by
   obtain⟨-,o,d,m⟩:=g k l.symm;rw [e] at d;simp only [zr] at d;subst d;simp [Obj.isCells] at m)]
  exact e
 exact⟨h.own,a _ _ _ _ h.mem,⟨a _ _ _ _ h.ring.ends,fun x n=>a _ _ _ _ (h.ring.link x n),h.ring.circ,h.ring.len⟩,h.map.same (f.block hb h.map.lt (fun e=>(g hb e.symm).1 rfl)),h.ok⟩
theorem yk5 {i:List Px}{f:Fl}(h:zdj w i f):zdj w (z3a i) (zqy f):=by
 have g:=z27 h (zdj.none w);have e:zh3 f Fl.no=zqy f:=by
  obtain⟨a,b,c,d,rfl⟩:=zmi h.2.1
  rfl
 rw [e] at g;exact g
theorem yk6 {a:List Px}(h:FOk a):FOk (z3a a):=z28 h Fx.no_ok
def zx8 (a:Mm)(i:Nat):Pl×Fl:=a.getD i ((0,0,0),Fl.no)
theorem yni (a:Mm){xs:List Nat}(h:xs=List.range a.length):xs.map (zx8 a)=a:=by
 subst h;apply zre
 ·simp
 ·intro i c b;simp only [za4,List.getElem_range];unfold zx8;rw [zl,zt b]
  rfl
theorem zyd (a:Int)(c b:Mm)(x:Pl×Fl):jl a c (b++[x])=(jl a c b).put a x.1 (zqy x.2):=by
 unfold jl;rw [z14]
 rfl
theorem yl1 {L:LsP}{g:Mm}(h:zbi (PrR w) L g)(c:Int)(p:Pl){d:List Px}{f:Fl}(j:FOk d)(i:zdj w d f):zbi (PrR w) (zn0 c (L.drop p++[(nbk,p,vf d)])) (g.put c p f):=by
 have e:zbi (PrR w) (L.drop p++[(nbk,p,vf d)]) (g.drop p++[(p,f)]):=(h.filter _ _ (fun a b l=>by rw [l.1])).snoc ⟨rfl,d,rfl,j,i⟩;have k:=e.len;unfold zn0 Mm.put;rw [← k];split
 ·exact e.tail
 ·exact e
structure Mem (w w1 W:World)(pm hb eb:Nat)(room:Int)(LP:LsP)(pr:Mm)(n:Nat):Prop where
 turn:zq (exP pm hb eb LP) [LkP] w1 W
 mem:∃ L nx pv,zhg W (exP pm hb eb L) pm hb eb nx pv room L∧zbi (PrR w) L pr∧(∀ x∈L,x.1∈LP.map (·.1)∨w1.heap.size≤x.1)∧L.length≤n
theorem Mem.below {b:Int}{f:LsP}{g:Mm}{n:Nat}(h:Mem w w1 W pm hb eb b f g n)(a:Below W.heap.size W W'):Mem w w1 W' pm hb eb b f g n:=by
 refine⟨h.turn.then_below a,?_⟩;obtain⟨L,c,d,i,j,l⟩:=h.mem;exact⟨L,c,d,i.grown (row:=none) ⟨a.os,a.tape,a.output,a.size,fun k m _=>a.block k m⟩ (fun r e=>by cases e),j,l⟩
theorem yco (h:Below W.heap.size W W'):KpN W W':=fun k _ _ _ e _=>(h.block k (zi e)).trans e
theorem zuj (h:Below W.heap.size W W'):KeepsFrom B W W':=⟨h.size,fun k _ _ e _=>(h.block k (zi e)).trans e⟩
theorem zbi.at {α β:Type}{R:α→β→Prop}{l:List α}{m:List β}(h:zbi R l m):∀ i (a:i < l.length) (b:i < m.length),R l[i] m[i]:=by
 induction h using zbi.ind with
 | nil=>intro i a;simp at a
 | cons c _ d =>
  intro i a b;cases i with
  | zero=>exact c
  | succ i=>exact d i (by simpa using a) (by simpa using b)
theorem Mem.put {a:Int}{u:LsP}{A:Mm}{n:Nat}(h:Mem w w1 W pm hb eb a u A n)(m:Below W.heap.size W w5){L:LsP}{M N:Nat→Nat}(D:zhg w5 (exP pm hb eb L) pm hb eb M N a L)(K:zbi (PrR w) L A)(B:∀ x∈L,x.1∈u.map (·.1)∨w1.heap.size≤x.1)(R:L.length≤n)
 (r:zq (exP pm hb eb L) [LkP] w5 w6) {p:Pl} {j:List Px} {f:Fl} (H:FOk j) (G:zdj w j f) {k l:Nat→Nat} (I:w5.heap.size≤nbk∧nbk < w6.heap.size) (y:zhg w6 (exP pm hb eb (zn0 a (L.drop p++[(nbk,p,vf j)]))) pm hb eb k l a (zn0 a (L.drop p++[(nbk,p,vf j)]))) (F:hb < w1.heap.size) (E:pm < w1.heap.size∧eb < w1.heap.size) :
  Mem w w1 w6 pm hb eb a u (A.put a p f) (n+1)∧KeepsFrom w1.heap.size W w6∧KpN W w6:=by
 have S:=h.turn.size;have O:=m.size;refine⟨⟨?_,_,k,l,y,yl1 K a p H G,?_,?_⟩,?_,?_⟩
 ·refine(h.turn.then_below m).trans (r.mono (fun b i=>?_) (fun _ h=>h));rcases i with rfl | rfl | rfl | i
  ·exact .inl (.inl rfl)
  ·exact .inl (.inr (.inl rfl))
  ·exact .inl (.inr (.inr (.inl rfl)))
  ·obtain⟨x,g,rfl⟩:=yl.1 i;rcases B x g with d | d
   ·exact .inl (.inr (.inr (.inr d)))
   ·exact .inr ⟨d,zi (D.ring.link x g)⟩
 ·intro x g;have z:x∈L.drop p++[(nbk,p,vf j)]:=by
   unfold zn0 at g;split at g
   ·exact List.mem_of_mem_tail g
   ·exact g
  rcases yt.1 z with d | d
  ·exact B x (zfd.1 d).1
  ·obtain rfl:=xm.1 d;exact .inr (by simp only;omega)
 ·have Q:(L.drop p).length≤L.length:=zcp _ _;have:(zn0 a (L.drop p++[(nbk,p,vf j)])).length≤(L.drop p++[(nbk,p,vf j)]).length:=by
   unfold zn0;split
   ·simp
   ·exact zm _
  simp only [zy,y9,jc] at this;omega
 ·refine⟨zu O r.size,fun s o P e J=>?_⟩;have v:=(m.block s (zi e)).trans e;rcases r.block s (zi v) with d | ⟨d,-⟩
  ·rw [d];exact v
  ·exfalso;rcases d with rfl | rfl | rfl | d
   ·omega
   ·omega
   ·omega
   ·obtain⟨x,g,rfl⟩:=yl.1 d;have:=D.ring.link x g;rw [v] at this;simp only [zr] at this;subst this;simp [Obj.isCells] at J
 ·intro s c t x e C;exact r.keep ((m.block s (zi e)).trans e) (by
   intro q;simp only [jr,zf3,z4f] at C q;rcases C with rfl | rfl | rfl
   ·exact absurd q (by decide)
   ·exact absurd q (by decide)
   ·exact absurd q (by decide))
theorem Mem.grown {a:Int}{h:LsP}{k:Mm}{n:Nat}(b:Mem w w1 X pm hb eb a h k n)(q:hb < w1.heap.size){row:Option Nat}(c:X.grownBy Y row)(d:∀ r,row=some r→w1.heap.size≤r∧∃ o:Obj,X.heap[r]?=some o∧o.isCells=false):Mem w w1 Y pm hb eb a h k n:=by
 refine⟨⟨c.os.trans b.turn.os,c.tape.trans b.turn.tape,c.output.trans b.turn.output,zu b.turn.size c.size,fun j i=>?_⟩,?_⟩
 ·rw [c.block j (zx i b.turn.size) (fun e=>by have:=(d j e.symm).1;omega)];exact b.turn.block j i
 ·obtain⟨L,f,g,l,m,p⟩:=b.mem;exact⟨L,f,g,l.grown c (fun r e=>⟨by have:=(d r e).1;omega,(d r e).2⟩),m,p⟩
theorem CS.remembered {g:Int}{D o:Mm}{n:Nat}{m:Ms Nt}{s:LsP}(h:CS W0 w O A OP cb nb db pm nm C d g D m k)(q:∀ b,OP b→W0.heap.size≤b)(l:Below w.heap.size w w1)(f:∀ b,exP pm hb eb s b→OP b)(p:Mem w w1 w' pm hb eb g s o n):
  zq OP [LkP] w w'∧CS W0 w' O A (jz OP w w') cb nb db pm nm C d g o m k:=by
 have F:=l.size;have G:=p.turn.size;have i:zq OP [LkP] w w':=(zq.of_below l).trans (p.turn.mono (fun b c=> .inl (f b c)) (fun _ h=>h));have r:=i.size;refine⟨i,h.base.trans (i.below q h.base.size),h.own,h.apart,?_,h.disk.stay i (by decide) (by decide),h.net.turn i (by decide) (by decide) (by decide),h.st,h.few,i.keep h.cli (by decide),h.cells,?_,?_,h.nee.stay i (fun b hb e=>h.away b e (.inr hb)) (by decide) (by decide) (fun _ h=>h),h.short⟩
 ·rintro b (c | c | c | c)
  ·exact zx (h.lt b (.inl c)) r
  ·exact zx (h.lt b (.inr (.inl c))) r
  ·exact zx (h.lt b (.inr (.inr c))) r
  ·exact c.2
 ·obtain⟨L,B,E,j,v,y,-⟩:=p.mem;refine⟨L,⟨hb,eb,B,E,⟨.inl (f _ (.inl rfl)),.inl (f _ (.inr (.inl rfl))),.inl (f _ (.inr (.inr (.inl rfl)))),fun x u=>?_⟩,j.mem,j.ring,j.map,j.ok⟩,v.mono fun a _ b z=>z.turn i (by decide)⟩;rcases y x u with t | t
  ·exact .inl (f _ (.inr (.inr (.inr t))))
  ·exact .inr ⟨by omega,zi (j.ring.link x u)⟩
 ·rintro b (c | c) e
  ·exact h.away b c e
  ·have:=h.lt b (e.imp id .inl);omega
theorem z59 {F:Fence}{n:Nat}{P:Program}{ops:Array Oper}{Q:Exit→Act→World→Prop}{md:Region.Mode}(I:Array Bool→Act→World→Prop)
 (hI:∀ c a w,I c a w→(Region.ready md ops c=[]→Q .normal a w)∧∀ i∈Region.ready md ops c,wpOpIn F n P ops Q i (I (c.setIfInBounds i true)) a w) :
  ∀(d:Nat) (c:Array Bool) (a:Act) (w:World),c.toList.count false≤d→I c a w→wpAnyIn F n P md ops Q d c a w:=by
 intro d
 induction d with
 | zero =>
  intro c a w p h;have j:Region.ready md ops c=[]:=by
   cases j:Region.ready md ops c with
   | nil=>rfl
   | cons i l =>
    exfalso;have f:=(zdf.1 (by rw [j];exact zdo:i∈Region.ready md ops c)).1;rw [zau] at f;cases e:c[i]? with
    | none=>rw [e] at f;cases f
    | some b =>
     rw [e] at f;obtain rfl:b=false:=f;have q:false∈c.toList:=Array.mem_toList_iff.2 (Array.mem_of_getElem? e);have:=List.count_pos_iff.2 q;omega
  exact⟨j,(hI _ _ _ h).1 j⟩
 | succ d r =>
  intro c a w p h;refine⟨(hI _ _ _ h).1,fun i f=>wpOpIn_mono (fun m s o=>r _ m s ?_ o) ((hI _ _ _ h).2 i f)⟩;have f:=(zdf.1 f).1;rw [zau] at f;cases e:c[i]? with
  | none=>rw [e] at f;cases f
  | some b =>
   rw [e] at f;obtain rfl:b=false:=f;obtain⟨t,u⟩:=zb4.1 e;have g:(c.setIfInBounds i true).toList=c.toList.set i true:=by simp
   rw [g];have:∀(l:List Bool) (i:Nat),l[i]?=some false→(l.set i true).count false+1=l.count false:=by
    intro l
    induction l with
    | nil=>intro i h;simp at h
    | cons x l k =>
     intro i h;cases i with
     | zero =>
      simp only [zea,zr] at h;subst h;simp
     | succ i =>
      simp only [zac] at h;have:=k i h;simp only [zoa,List.count_cons];omega
   have:=this c.toList i (by simpa using e);omega
theorem zr8 (W0:World)(O A OP:Nat→Prop)(g nb db pm Z:Nat)(C:Array Value)(d:Dk)(f:Int)(pr:Mm)(k:Nat)(m:Ms Nt)(w:World)(aW:pr.length≤100000000000)(aV:∀ b,OP b→W0.heap.size≤b)(aj:CS W0 w O A OP g nb db pm Z C d f pr m k):
  Calls prog 121 #[yx g] w fun r u=>r= .returned (.tuple #[])∧zq OP [LkP] w u∧CS W0 u O A (jz OP w u) g nb db pm Z C d f (jl f pr m.needed) m k:=by
 obtain⟨LN,al,ah,aB⟩:=aj.nee;obtain⟨aP,aO,aZ,a1,al⟩:=al;obtain⟨LP,am,aX⟩:=aj.prv;obtain⟨hb,eb,nx,pv,am,aQ⟩:=am.exact;have ai:=zf al;have af:=zf ah;have aI:=zf am;have ar:=zf aX;have aF:=zf aQ;have z:=zf aj;have aL:=zf aW;have aJ:=zf aV;clear al ah aB am aX aQ aj aW aV;unfold yx;refine(z2r (n:=9)).1 ?_;refine callsIn_of_wp_marks func121 rfl trivial ?_ rfl;simp only [ntmps121,xf,y9,jc,Nat.reduceAdd,Nat.reduceSub,Array.replicate_succ,Array.replicate_zero,List.push_toArray,List.append_toArray,zal,zak];have a6:(w.alloc (.cells #[.pointer (some ⟨g,0,none⟩)] 94)).cell? ⟨g,14,none⟩=some (.pointer (some ⟨Z,0,none⟩)):=by
  rw [yp _ _ ⟨g,14,none⟩ (zi z.o.cli)];exact(zw z.o.cli 14 _ z.o.cells.nee).1
 have aa:=zf (fun w=>yfp Z w);unfold yx at aa
 gi_wp2
 refine⟨trivial,CallsIn.mono (z2r.2 (aa.o _)) ?_⟩;rintro e u ⟨rfl,rfl⟩
 gi_wp2
 have v:Hid (Below w.heap.size w ((w.alloc (.cells #[.pointer (some ⟨g,0,none⟩)] 94)).alloc (.cells #[.pointer (some ⟨Z,0,none⟩)] zve))):=xu w _ _;have aM:Hid (((w.alloc (.cells #[.pointer (some ⟨g,0,none⟩)] 94)).alloc (.cells #[.pointer (some ⟨Z,0,none⟩)] zve)).heap[w.heap.size]?=some (.cells #[.pointer (some ⟨g,0,none⟩)] 94 (0,0))):=zj (zg _ _);have aN:Hid (((w.alloc (.cells #[.pointer (some ⟨g,0,none⟩)] 94)).alloc (.cells #[.pointer (some ⟨Z,0,none⟩)] zve)).heap[w.heap.size+1]?=some (.cells #[yx Z] zve (0,0))):=by
  have:=zg (w.alloc (.cells #[.pointer (some ⟨g,0,none⟩)] 94)) (.cells #[.pointer (some ⟨Z,0,none⟩)] zve);rw [show(w.alloc (.cells #[.pointer (some ⟨g,0,none⟩)] 94)).heap.size=w.heap.size+1 by simp] at this;exact this
 have a5:Hid (((w.alloc (.cells #[.pointer (some ⟨g,0,none⟩)] 94)).alloc (.cells #[.pointer (some ⟨Z,0,none⟩)] zve)).heap.size=w.heap.size+2):=by show _=_;simp
 clear a6 aa;generalize (w.alloc (.cells #[.pointer (some ⟨g,0,none⟩)] 94)).alloc (.cells #[.pointer (some ⟨Z,0,none⟩)] zve)=w1 at *;have ao:Hid (zqp w1 A Z aP aO aZ a1 zgx LN):=by
  have hM:=ai.o;have hc:∀(k:Nat) (c:Array Value) (t:TypeId) (x:Nat×Nat),w.heap[k]?=some (.cells c t x)→w1.heap[k]?=some (.cells c t x):=fun k c t x e=>(v.o.block k (zi e)).trans e;exact⟨hM.own,hc _ _ _ _ hM.mem,⟨hc _ _ _ _ hM.ring.ends,fun x hx=>hc _ _ _ _ (hM.ring.link x hx),hM.ring.circ⟩,hM.map.same (v.o.block _ hM.map.lt),hM.ok⟩
 have I:Hid (zhg w1 (exP pm hb eb LP) pm hb eb nx pv f LP):=by
  refine zhg.grown aI.o (row:=none) ⟨v.o.os,v.o.tape,v.o.output,v.o.size,fun k hk _=>v.o.block k hk⟩ (fun r e=>by cases e)
 have aA:hb < w1.heap.size:=I.o.map.lt;refine wpIn_rangeFunc_ownH (F:=Fence.wide) rfl (by omega) (gf:=220) (lb:=#[.pointer (some ⟨w.heap.size+1,0,none⟩)]) rfl trivial (zrk func220 (by kernel_rfl) rfl)
  (z6j 8 (by omega) (w.heap.size+1) Z aP aO aZ a1 zgx A LN w1 aN.o ao.o) ymu yoe (yf _ _) (fun _=>rfl)
  (fun B W=>Mem w w1 W pm hb eb f LP (jl f pr (B.map fun i=>zx8 m.needed i.val)) (LP.length+B.length))
  (fun _ _ _=>False) ?hI (fun _ _ _ _ _ hs _ _=>hs) ?h0
  (fun x a' W=>∃ H a,LN[x].2.2= .pointer a∧W.heap[H]?=some (.cells #[.int .i64 LN[x].2.1.1,.int .i64 LN[x].2.1.2.1,.int .i64 LN[x].2.1.2.2] 150 (0,0))∧a'={ tmps:=#[.pointer (some ⟨g,0,none⟩),.pointer (some ⟨w.heap.size,0,none⟩),.pointer (some ⟨H,0,none⟩),.pointer a,.pointer (some ⟨g,0,none⟩),.pointer (some ⟨g,0,none⟩),.pointer (some ⟨g,14,none⟩),.pointer (some ⟨Z,0,none⟩),.func (.func 220) #[] #[.pointer (some ⟨w.heap.size+1,0,none⟩)],plV LN[x].2.1,.pointer a,undef,undef,undef,undef,undef,undef,undef,undef,undef,undef],defers:=[] })
  ?hAx ?assign ?body ?done ?stop
 case hI =>
  intro s X Y bf hs hg hr;exact hs.grown aA hg hr
 case h0 =>
  refine⟨zq.refl _ _ _,LP,nx,pv,I.o,?_,fun x hx=> .inl (zeh hx),by simp⟩;exact ar.o
 case hAx =>
  rintro x a' s X Y bf ⟨H,a,h1,h2,h3⟩ hg hr;refine⟨H,a,h1,?_,h3⟩;rw [hg.block H (zi h2) (fun e=>by
   obtain⟨-,o,y,hc⟩:=hr H e.symm;rw [h2] at y;simp only [zr] at y;subst y;simp [Obj.isCells] at hc)]
  exact h2
 case assign =>
  rintro l B x W K M q;obtain⟨a,p⟩:=(ai.o.ok LN[x] (yd _)).2;unfold ygk plV;rw [p]
  gi_wp2
  exact q _ _ (zuj (zk W _)) (yco (zk W _)) (M.below (zk W _)) ⟨W.heap.size,a,p,zg _ _,rfl⟩
 case body =>
  rintro l B x a' W hl ⟨r,hr⟩ M ⟨H,a,p,hp,rfl⟩ bc;have aE:x.val < m.needed.length:=by rw [← af.o.len];exact x.isLt
  have hrel:=af.o.at x.val x.isLt aE;obtain⟨J,fb,xs,aS,hA,hf,ak,ay⟩:=hrel;have ba:a=some ⟨fb,0,none⟩:=by
   have:LN[x].2.2=yx fb:=aS;rw [p] at this;unfold yx at this;injection this
  subst ba;have ap:=zf (ai.o.ok LN[x] (yd _)).1;have ag:LN[x].2.1=m.needed[x.val].1:=J;clear J;generalize LN[x].2.1=P at *;have J:=ag;clear ag;clear aS p;have aR:yu w1 fb xs:=(v.o.block _ (zi hf)).trans hf;have ax:yu W fb xs:=M.turn.keep aR (by decide);have av:W.heap[w.heap.size]?=some (.cells #[.pointer (some ⟨g,0,none⟩)] 94 (0,0)):=M.turn.keep aM.o (by decide);have aw:W.heap[g]?=some (.cells C zbx (0,0)):=M.turn.keep ((v.o.block _ (zi z.o.cli)).trans z.o.cli) (by decide);have HI:=zf M;have HF:=zf hf;have aG:=zf ak;have a2:=zf ay;have a3:=zf ax;have ab:=zf av;have ad:=zf aw;have au:=zf hp;have ah:zx8 m.needed x.val=m.needed[x.val]:=by
   unfold zx8;rw [zl,zt aE]
   rfl
  have ae:Hid (P=(zx8 m.needed x.val).1∧zdj w xs (zx8 m.needed x.val).2):=by
   rw [ah];exact⟨J,ay⟩
  have q0:W.cell? ⟨w.heap.size,0,none⟩=some (.pointer (some ⟨g,0,none⟩)):=(zw av 0 _ rfl).1;have q1:W.cell? ⟨g,13,none⟩=some (.pointer (some ⟨pm,0,none⟩)):=(zw aw 13 _ z.o.cells.prv).1;have q2:W.cell? ⟨H,0,none⟩=some (.int .i64 P.1):=(zw hp 0 _ rfl).1;have q3:W.cell? ⟨H,1,none⟩=some (.int .i64 P.2.1):=(zw hp 1 _ rfl).1;have q4:W.cell? ⟨H,2,none⟩=some (.int .i64 P.2.2):=(zw hp 2 _ rfl).1;have bg:(zy8 (.pointer (some ⟨fb,0,none⟩))).run prog W.drew= .ok (.agg (vf xs).toArray) W.drew:=ze0 (w:=W.drew) (j6 (w:=W.drew) ax) ak.len;have bb:prog.follows Departure.mixedOrders=true:=by kernel_rfl
  have aH:=zf (z3b xs ak W.drew);have an:Hid (LP.length+B.length≤1000000000000):=by
   have h1:=ar.o.len;have h2:=aL.o;have h3:=z.o.short;have h4:=af.o.len;show _≤_;omega
  obtain⟨L,aY,a0,hm,aD,hL,hn⟩:=M.mem;have HM:=zf hm;have a4:=zf aD;have HL:=zf hL;have HN:=zf hn;have aq:Hid (∀ w5,Below W.heap.size W w5→Calls prog 176 #[yx pm,plV P,.agg (vf (z3a xs)).toArray] w5 fun r u=>r= .returned (.tuple #[])∧Mem w w1 u pm hb eb f LP (jl f pr ((B++[x]).map fun i=>zx8 m.needed i.val)) (LP.length+(B++[x]).length)∧KeepsFrom w1.heap.size W u∧KpN W u):=by
   intro w5 j;have aU:zhg w5 (exP pm hb eb L) pm hb eb aY a0 f L:=hm.grown (row:=none) ⟨j.os,j.tape,j.output,j.size,fun k hk _=>j.block k hk⟩ (fun r e=>by cases e);have az:=yk6 aG.o;refine(z8h pm hb eb aY a0 f L P ap.o (vf (z3a xs)) az.len (zcl az.2) w5 aU (by have:=an.o;omega)).mono ?_;rintro r w6 ⟨rfl,ht,bh,bi,bj,h1,h2,be⟩;have:=HI.o.put j aU aD hL hn ht az (yk5 ae.o.2) ⟨h1,h2⟩ be aA ⟨zi I.o.mem,zi I.o.ring.ends⟩;refine⟨rfl,?_,this.2⟩;rw [yy,ve,zku,zyd,← ae.o.1];have h3:=this.1;rw [zes] at h3;simpa using h3
  have aK:Hid (∀ w5,Below W.heap.size W w5→w5.cell? ⟨g,13,none⟩=some (.pointer (some ⟨pm,0,none⟩))∧w5.cell? ⟨w.heap.size,0,none⟩=some (.pointer (some ⟨g,0,none⟩))∧w5.cell? ⟨H,0,none⟩=some (.int .i64 P.1)∧w5.cell? ⟨H,1,none⟩=some (.int .i64 P.2.1)∧w5.cell? ⟨H,2,none⟩=some (.int .i64 P.2.2)):=by
   intro w5 j;have aC:=(j.block _ (zi au.o)).trans au.o;exact⟨(zw ((j.block _ (zi ad.o)).trans ad.o) 13 _ z.o.cells.prv).1,(zw ((j.block _ (zi ab.o)).trans ab.o) 0 _ rfl).1,(zw aC 0 _ rfl).1,(zw aC 1 _ rfl).1,(zw aC 2 _ rfl).1⟩
  unfold yx at aq;unfold yx at aH;clear hf ak ay aR ax av aw hp M ah J hA hm aD hL hn HM a4 HL HN ae a3 ab ad au HF aG a2 HI an ap ao I ai af aI ar aF z aL aJ v aM aN a5 bc aE
  gi_wp2
  refine wpIn_region_any bb ?_
  change wpAnyIn _ _ _ _ _ _ _ _ _ (World.drew _)
  refine z59 (fun E a u=>(∃ l0 T N Q U l5 V S G:Bool,E=#[l0,T,N,Q,U,l5,V,S,G,false]∧(T=true→l0=true)∧(N=true→T=true)∧(Q=true→N=true)∧(V=true→l5=true)∧(S=true→V=true)∧(G=true→S=true)∧(G=false∧u=W.drew∨G=true∧Below W.heap.size W u) ∧
   a={ tmps:=#[.pointer (some ⟨g,0,none⟩),.pointer (some ⟨w.heap.size,0,none⟩),.pointer (some ⟨H,0,none⟩),.pointer (some ⟨fb,0,none⟩),.pointer (some ⟨g,0,none⟩),.pointer (some ⟨g,0,none⟩),.pointer (some ⟨g,14,none⟩),.pointer (some ⟨Z,0,none⟩),.func (.func 220) #[] #[.pointer (some ⟨w.heap.size+1,0,none⟩)],plV P,.pointer (some ⟨fb,0,none⟩),
    bif l0 then .pointer (some ⟨g,0,none⟩) else undef,bif T then .pointer (some ⟨g,0,none⟩) else undef,bif N then .pointer (some ⟨g,13,none⟩) else undef,bif Q then .pointer (some ⟨pm,0,none⟩) else undef,bif U then plV P else undef,bif l5 then .pointer (some ⟨fb,0,none⟩) else undef,bif V then .pointer (some ⟨fb,0,none⟩) else undef,bif S then .agg (vf xs).toArray else undef,bif G then .agg (vf (z3a xs)).toArray else undef,undef],defers:=[] }) ∨
   (E=Array.replicate 10 true∧KeepsFrom w1.heap.size W u∧KpN W u∧Mem w w1 u pm hb eb f LP (jl f pr ((B++[x]).map fun i=>zx8 m.needed i.val)) (LP.length+(B++[x]).length))) ?_ _ _ _ _ (by decide) (.inl ⟨false,false,false,false,false,false,false,false,false,rfl,by decide,by decide,by decide,by decide,by decide,by decide,.inl ⟨rfl,rfl⟩,rfl⟩)
  rintro E a u (⟨l0,T,N,Q,U,l5,V,S,G,rfl,d1,d2,d3,d6,d7,d8,hw,rfl⟩ | ⟨rfl,h1,h2,h3⟩)
  ·refine⟨fun hr=>?_,fun i M=>?_⟩
   ·exfalso;have R:∀ i,i∉Region.ready _ _ _:=fun i=>by rw [hr];exact zf3
    obtain rfl:l0=true:=by
     cases l0 with
     | true=>rfl
     | false=>exact absurd (zdf.2 ⟨rfl,_,rfl,by simp⟩) (R 0)
    obtain rfl:T=true:=by
     cases T with
     | true=>rfl
     | false=>exact absurd (zdf.2 ⟨rfl,_,rfl,by simp⟩) (R 1)
    obtain rfl:N=true:=by
     cases N with
     | true=>rfl
     | false=>exact absurd (zdf.2 ⟨rfl,_,rfl,by simp⟩) (R 2)
    obtain rfl:Q=true:=by
     cases Q with
     | true=>rfl
     | false=>exact absurd (zdf.2 ⟨rfl,_,rfl,by simp⟩) (R 3)
    obtain rfl:U=true:=by
     cases U with
     | true=>rfl
     | false=>exact absurd (zdf.2 ⟨rfl,_,rfl,by simp⟩) (R 4)
    obtain rfl:l5=true:=by
     cases l5 with
     | true=>rfl
     | false=>exact absurd (zdf.2 ⟨rfl,_,rfl,by simp⟩) (R 5)
    obtain rfl:V=true:=by
     cases V with
     | true=>rfl
     | false=>exact absurd (zdf.2 ⟨rfl,_,rfl,by simp⟩) (R 6)
    obtain rfl:S=true:=by
     cases S with
     | true=>rfl
     | false=>exact absurd (zdf.2 ⟨rfl,_,rfl,by simp⟩) (R 7)
    obtain rfl:G=true:=by
     cases G with
     | true=>rfl
     | false=>exact absurd (zdf.2 ⟨rfl,_,rfl,by simp⟩) (R 8)
    exact absurd (zdf.2 ⟨rfl,_,rfl,by simp⟩) (R 9)
   ·have bd:i < 10:=by
     obtain⟨-,o,y,-⟩:=zdf.1 M;exact(zb4.1 y).1
    have HC:Hid (u.cell? ⟨g,13,none⟩=some (.pointer (some ⟨pm,0,none⟩))∧u.cell? ⟨w.heap.size,0,none⟩=some (.pointer (some ⟨g,0,none⟩))∧u.cell? ⟨H,0,none⟩=some (.int .i64 P.1)∧u.cell? ⟨H,1,none⟩=some (.int .i64 P.2.1)∧u.cell? ⟨H,2,none⟩=some (.int .i64 P.2.2)):=by
     rcases hw with ⟨-,rfl⟩ | ⟨-,j⟩
     ·exact aK.o _ (zbb (yf _ _))
     ·exact aK.o _ j
    obtain⟨q1,q0,q2,q3,q4⟩:=HC.o;obtain⟨hu,o,y,p⟩:=zdf.1 M;clear M;rcases(show i=0∨i=1∨i=2∨i=3∨i=4∨i=5∨i=6∨i=7∨i=8∨i=9 by omega) with rfl | rfl | rfl | rfl | rfl | rfl | rfl | rfl | rfl | rfl
    ·obtain rfl:l0=false:=hu;clear y p;refine zgu rfl (fun K q=>?_);go_simp;refine q _ _ (.inl ⟨true,T,N,Q,U,l5,V,S,G,rfl,fun _=>rfl,d2,d3,d6,d7,d8,hw,rfl⟩)
    ·obtain rfl:T=false:=hu;obtain rfl:=jd y;obtain rfl:l0=true:=p ⟨0,.data⟩ (by simp) rfl;clear y p;refine zgu rfl (fun K q=>?_);go_simp;refine q _ _ (.inl ⟨true,true,N,Q,U,l5,V,S,G,rfl,fun _=>rfl,fun _=>rfl,d3,d6,d7,d8,hw,rfl⟩)
    ·obtain rfl:N=false:=hu;obtain rfl:=jd y;obtain rfl:T=true:=p ⟨1,.data⟩ (by simp) rfl;obtain rfl:=d1 rfl;clear y p;refine zgu rfl (fun K q=>?_);go_simp;refine q _ _ (.inl ⟨true,true,true,Q,U,l5,V,S,G,rfl,d1,fun _=>rfl,fun _=>rfl,d6,d7,d8,hw,rfl⟩)
    ·obtain rfl:Q=false:=hu;obtain rfl:=jd y;obtain rfl:N=true:=p ⟨2,.data⟩ (by simp) rfl;obtain rfl:=d2 rfl;obtain rfl:=d1 rfl;clear y p;refine zgu rfl (fun K q=>?_);go_simp;refine q _ _ (.inl ⟨true,true,true,true,U,l5,V,S,G,rfl,d1,d2,fun _=>rfl,d6,d7,d8,hw,rfl⟩)
    ·obtain rfl:U=false:=hu;clear y p;refine zgu rfl (fun K q=>?_);go_simp;refine q _ _ (.inl ⟨l0,T,N,Q,true,l5,V,S,G,rfl,d1,d2,d3,d6,d7,d8,hw,rfl⟩)
    ·obtain rfl:l5=false:=hu;clear y p;refine zgu rfl (fun K q=>?_);go_simp;refine q _ _ (.inl ⟨l0,T,N,Q,U,true,V,S,G,rfl,d1,d2,d3,fun _=>rfl,d7,d8,hw,rfl⟩)
    ·obtain rfl:V=false:=hu;obtain rfl:=jd y;obtain rfl:l5=true:=p ⟨5,.data⟩ (by simp) rfl;clear y p;refine zgu rfl (fun K q=>?_);go_simp;refine q _ _ (.inl ⟨l0,T,N,Q,U,true,true,S,G,rfl,d1,d2,d3,fun _=>rfl,fun _=>rfl,d8,hw,rfl⟩)
    ·obtain rfl:S=false:=hu;obtain rfl:=jd y;obtain rfl:V=true:=p ⟨6,.data⟩ (by simp) rfl;obtain rfl:=d6 rfl;clear y p;obtain rfl:u=W.drew:=by
      rcases hw with ⟨-,h⟩ | ⟨h,-⟩
      ·exact h
      ·exact absurd (d8 h) (by decide)
     refine zgu rfl (fun K q=>?_);go_simp;refine q _ _ (.inl ⟨l0,T,N,Q,U,true,true,true,G,rfl,d1,d2,d3,d6,fun _=>rfl,fun _=>rfl,hw,rfl⟩)
    ·obtain rfl:G=false:=hu;obtain rfl:=jd y;obtain rfl:S=true:=p ⟨7,.data⟩ (by simp) rfl;obtain rfl:=d7 rfl;obtain rfl:=d6 rfl;clear y p;obtain rfl:u=W.drew:=by
      rcases hw with ⟨-,h⟩ | ⟨h,-⟩
      ·exact h
      ·exact absurd h (by decide)
     refine zgu rfl (fun K q=>?_);go_simp;refine⟨trivial,CallsIn.mono (CallsIn.inRound l (z2r.2 aH.o)) ?_⟩;rintro e w5 ⟨rfl,j⟩;exact q _ _ (.inl ⟨l0,T,N,Q,U,true,true,true,true,rfl,d1,d2,d3,fun _=>rfl,fun _=>rfl,fun _=>rfl,.inr ⟨rfl,zbb j⟩,rfl⟩)
    ·obtain rfl:=jd y;obtain rfl:Q=true:=p ⟨3,.data⟩ (by simp) rfl;obtain rfl:U=true:=p ⟨4,.data⟩ (by simp) rfl;obtain rfl:G=true:=p ⟨8,.data⟩ (by simp) rfl;clear y p;obtain rfl:=d8 rfl;obtain rfl:=d7 rfl;obtain rfl:=d6 rfl;obtain rfl:=d3 rfl;obtain rfl:=d2 rfl;obtain rfl:=d1 rfl;refine zgu rfl (fun K q=>?_);go_simp;have j:Below W.heap.size W u:=by
      rcases hw with ⟨h,-⟩ | ⟨-,h⟩
      ·exact absurd h (by decide)
      ·exact h
     refine⟨trivial,CallsIn.mono (CallsIn.inRound l (z2r.2 (aq.o u j))) ?_⟩;rintro e w6 ⟨rfl,a8,a7,a9⟩;exact q _ _ (.inr ⟨rfl,a7,a9,a8⟩)
  ·refine⟨fun _=>⟨h1,h2,h3⟩,fun i M=>?_⟩;exfalso;obtain⟨hu,-⟩:=zdf.1 M;simp only [zau,Array.getElem?_replicate] at hu;split at hu<;>simp at hu
 case done =>
  rintro D ys W hD hS M q
  gi_wp2
  refine⟨by simp,.inl ⟨_,_,rfl,run_takeDeferred q,?_⟩⟩;refine⟨_,zcg rfl _ _ _,rfl,?_⟩;have h9:=M.grown aA (grownBy_putObj' W D (.deferred none)) (fun r e=>by cases e;exact⟨hD,_,q,rfl⟩);have e:(ys.map fun i=>zx8 m.needed i.val)=m.needed:=by
   have e1:=yni m.needed (xs:=ys.map Fin.val) (by rw [hS,af.o.len]);rw [zgv] at e1;exact e1
  rw [e] at h9;exact z.o.remembered aJ.o v.o aF.o h9
 case stop =>
  rintro D c B W _ _ h _;exact h.elim
end
theorem zxc (c:Nat):∀(q f a:Nat),q < 64→q≤f→(xr c (f+1) a (2 ^ q)).length≤2:=by
 have b:∀(l f a:Nat),2*l < 64→(xr c (f+1) a (2 ^ (2*l))).length=1:=by
  intro l f a d;have e:2 ^ (2*l) / 4 ^ lvl (2 ^ (2*l))=1:=by
   rw [zry _ d,zbm,show 2*(2*l / 2)=2*l by omega,zsl (jp (by omega))]
  rw [xr,if_pos e]
  rfl
 intro q f a j i
 by_cases h:q % 2=0
 ·have e:q=2*(q / 2):=by omega
  rw [e,b (q / 2) f a (by omega)];omega
 ·obtain⟨l,rfl⟩:∃ l,q=2*l+1:=⟨q / 2,by omega⟩;obtain⟨f,rfl⟩:∃ g,f=g+1:=⟨f - 1,by omega⟩;rw [xr];split
  ·simp
  ·rw [zus,zy,b l f a (by omega),show 2 ^ (2*l+1) - 2 ^ (2*l)=2 ^ (2*l) by rw [qy];omega,b l f _ (by omega)];omega
theorem z83 (b:Nat):∀(f a n:Nat),f < 64→1≤n→n≤2 ^ f→(xr b (f+1) a n).length≤2*(f+1):=by
 intro f
 induction f with
 | zero =>
  intro a n _ i c;obtain rfl:n=2 ^ 0:=by simp at c ⊢;omega
  exact zxc b 0 0 a (by omega) (by omega)
 | succ f k =>
  intro a n r i c;rw [xr];split
  ·simp;omega
  ·rename_i d
   by_cases j:2≤n
   ·obtain⟨h,l,s,m,t,u⟩:=zaw n f j c;obtain⟨q,g⟩:=zpt n;have e:q≤f:=by
     rw [g] at h;exact(zcr (by omega)).1 h
    rw [zy];have o:(xr b (f+1) a (yo n)).length≤2:=by rw [g];exact zxc b q f a (by omega) e
    have p:=k (a+yo n) (n - yo n) (by omega) m l;omega
   ·obtain rfl:n=2 ^ 0:=by simp;omega
    exact absurd (by rw [zry 0 (by omega)]) d
theorem ztm (a:Nat):∀(b:List (Nat×Nat)),(∀ s∈b,1≤s.2∧s.2≤2 ^ 63)→(b.flatMap fun s=>xr a 64 s.1 s.2).length≤128*b.length
 | [],_=>by simp
 | s::r,h=>by
  have e:=ztm a r (fun x d=>h x (zc0 _ d));have c:=h s zdo;have:(xr a 64 s.1 s.2).length≤128:=z83 a 63 s.1 s.2 (by omega) c.1 c.2;rw [zd9,zy,y9];omega
theorem zth (a i:Nat)(c:a < 2 ^ 63):((qz 64 0 a i).flatMap fun s=>xr a 64 s.1 s.2).length≤8400:=by
 have h:=ztm a (qz 64 0 a i) (fun s b=>by have:=zg5 64 0 a i (by omega) s b;omega);have:=zcx 64 0 a i;omega
theorem ztf (a n:Nat)(e:n < 2 ^ 63)(c:0 < a)(d:a≤n):((qk 64 a 0 n true).flatMap fun s=>xr n 64 s.1 s.2).length≤8400:=by
 have h:=ztm n (qk 64 a 0 n true) (fun s b=>by have:=zg4 64 a 0 n true (by omega) (by omega) (by omega) (by omega) s b;omega);have:=zdd 64 a 0 n true;omega
end Go.Proofs.YtlcllcgngjhoaaaGreatDoor
