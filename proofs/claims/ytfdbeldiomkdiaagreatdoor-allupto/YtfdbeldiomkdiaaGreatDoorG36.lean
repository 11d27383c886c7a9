import Derived.Test.YtfdbeldiomkdiaaGreatDoorG35
set_option maxHeartbeats 8000000
set_option maxRecDepth 100000
set_option linter.all false
namespace Go.Proofs.YtfdbeldiomkdiaaGreatDoor
open Go.RowKit Go.Proofs.Tryz
def ED:=@wpOpIn_step
def TT:=@List.getElem_range
def Vv:=@callsIn_wide
variable {A O OP:Nat->Prop}{B cb db eb hb k nb nbk nm pm:Nat}{C:Array Value}{L LP:EJ}{P:Program}{W W' W0 X Y w w' w1 w5 w6:World}{d:Dk}{f:Fl}{nx nx' pv pv':Nat->Nat}{pr pr':Mm}{xs:List Px}
section
open Go.RowKit Go.Shelf
attribute [local go_sem] Oper.semAt_some
attribute [local go_sem ↓] j9 jx ve jy ju jt vd jw
def ZJ (c b a:Nat)(L:EJ):Nat->Prop:=λk=>k=c\/k=b\/k=a\/k∈L.map (·.1)
def G0.exact {a:Int}(h:G0 w O pm a L):∃c b e f,Fa w (ZJ pm c b L) pm c b e f a L/\∀k,ZJ pm c b L k->O k:=by
 obtain⟨c,b,e,f,h⟩:=h;refine⟨c,b,e,f,⟨⟨.inl rfl,.inr (.inl rfl),.inr (.inr (.inl rfl)),λx d=>.inr (.inr (.inr (Ck d)))⟩,h.mem,h.ring,h.map,h.ok⟩,?_⟩;rintro k (rfl|rfl|rfl|g)
 ·exact h.own.1
 ·exact h.own.2.1
 ·exact h.own.2.2.1
 ·obtain⟨x,d,rfl⟩:=yi.1 g;exact h.own.2.2.2 x d
def YJ (g f d:Nat)(t u:Nat->Nat)(b:Int)(L:EJ)(p:Pl)(D:FV p)(v:List Value)(hv:v.length=44)(q:∀x∈v,x.oneCell'=true)(w:World)(h:Fa w (ZJ g f d L) g f d t u b L)(C:L.length<=1000000000000):
  Calls prog 232 #[yu g,Fc p,.agg v.toArray] w λr n=>r=.returned (.tuple #[])/\zl (ZJ g f d L) [Gu] w n/\∃c j k,w.heap.size<=c/\c<n.heap.size/\Fa n (ZJ g f d (KI b (L.drop p++[(c,p,v)]))) g f d j k b (KI b (L.drop p++[(c,p,v)])):=by
 refine(zie (ZJ g f d L) g b L p D v hv q w ⟨f,d,t,u,h⟩ C).mono ?_;rintro r n ⟨rfl,s,c,z,A,i⟩;obtain⟨m,l,j,k,i⟩:=i;have e:=i.mem;rw[s.keep h.mem (by decide)]at e;have y:f=m/\d=l:=by
  have:=e;simp only[zn,An,EL]at this;have o:Value.map (some f)=Value.map (some m):=by
   have:=congrArg (λa=>a[1]?) this;simpa using this
  have B:yu d=yu l:=by
   have:=congrArg (λa=>a[2]?) this;simpa using this
  exact⟨by injection o with o;injection o,WK B⟩
 obtain⟨rfl,rfl⟩:=y;exact⟨rfl,s,c,j,k,z,A,⟨.inl rfl,.inr (.inl rfl),.inr (.inr (.inl rfl)),λx E=>.inr (.inr (.inr (Ck E)))⟩,i.mem,i.ring,i.map,i.ok⟩
def Fa.grown {b:Int}(h:Fa w O pm hb eb nx pv b L){row:Option Nat}(f:w.grownBy w' row)(g:∀r,row=some r->hb≠r/\∃o:Obj,w.heap[r]?=some o/\o.isCells=false):Fa w' O pm hb eb nx pv b L:=by
 have a:∀(k:Nat) (c:Array Value) (t:TypeId) (x:Nat×Nat),w.heap[k]?=some (.cells c t x)->w'.heap[k]?=some (.cells c t x):=λk c t x e=>by
  rw[f.block k (zg e) (λi=>by
   obtain⟨-,o,d,j⟩:=g k i.symm;rw[e]at d;simp only[zn]at d;subst d;simp[Obj.isCells]at j)]
  exact e
 exact⟨h.own,a _ _ _ _ h.mem,⟨a _ _ _ _ h.ring.ends,λx l=>a _ _ _ _ (h.ring.link x l),h.ring.aD,h.ring.len⟩,h.map.same (f.block hb h.map.lt (λe=>(g hb e.symm).1 rfl)),h.ok⟩
def zkh (h:C8 w xs f):C8 w (VL xs) (GY f):=by
 have g:=VH h (C8.none w);have e:G3 f Fl.no=GY f:=by
  obtain⟨a,b,c,d,rfl⟩:=M0 h.2.1
  rfl
 rw[e]at g;exact g
def zki (h:FR xs):FR (VL xs):=VI h Fx.aq
def Sg (a:Mm)(i:Nat):Pl×Fl:=a.getD i ((0,0,0),Fl.no)
def znj (a:Mm){xs:List Nat}(h:xs=List.range a.length):xs.map (Sg a)=a:=by
 subst h;apply FF
 ·simp
 ·intro i c b;simp only[A5,TT];unfold Sg;rw[zj,zo b]
  rfl
def Sv (a:Int)(c b:Mm)(x:Pl×Fl):qd a c (b++[x])=(qd a c b).put a x.1 (GY x.2):=by
 unfold qd;rw[Ij]
 rfl
def zlh (h:AS (PrR w) L pr)(c:Int)(p:Pl)(g:FR xs)(e:C8 w xs f):AS (PrR w) (KI c (L.drop p++[(nbk,p,Cc xs)])) (pr.put c p f):=by
 have d:AS (PrR w) (L.drop p++[(nbk,p,Cc xs)]) (pr.drop p++[(p,f)]):=(h.filter _ _ (λa b j=>by rw[j.1])).snoc ⟨rfl,xs,rfl,g,e⟩;have i:=d.len;unfold KI Mm.put;rw[<- i];split
 ·exact d.tail
 ·exact d
structure Mem (w w1 W:World)(pm hb eb:Nat)(room:Int)(LP:EJ)(pr:Mm)(n:Nat):Prop where
 aj:zl (ZJ pm hb eb LP) [Gu] w1 W
 mem:∃L nx pv,Fa W (ZJ pm hb eb L) pm hb eb nx pv room L/\AS (PrR w) L pr/\(∀x∈L,x.1∈LP.map (·.1)\/w1.heap.size<=x.1)/\L.length<=n
def Mem.below {b:Int}{n:Nat}(h:Mem w w1 W pm hb eb b LP pr n)(a:zc W W'):Mem w w1 W' pm hb eb b LP pr n:=by
 refine⟨h.aj.ah a,?_⟩;obtain⟨L,c,d,f,g,i⟩:=h.mem;exact⟨L,c,d,f.grown (row:=none) ⟨a.os,a.tape,a.output,a.size,λk j _=>a.block k j⟩ (λr e=>by cases e),g,i⟩
def zb4 (h:zc W W'):KpN W W':=λk _ _ _ e _=>(h.block k (zg e)).trans e
def PA (h:zc W W'):KeepsFrom B W W':=⟨h.size,λk _ _ e _=>(h.block k (zg e)).trans e⟩
def AS.at {α β:Type}{R:α->β->Prop}{l:List α}{m:List β}(h:AS R l m):∀i (a:i<l.length) (b:i<m.length),R l[i] m[i]:=by
 induction h using AS.ind with
 |nil=>intro i a;simp at a
 |cons c _ d =>
  intro i a b;cases i with
  |zero=>exact c
  |succ i=>exact d i (by simpa using a) (by simpa using b)
def Mem.put {a:Int}{n:Nat}(h:Mem w w1 W pm hb eb a LP pr n)(j:zc W w5)(y:Fa w5 (ZJ pm hb eb L) pm hb eb nx pv a L)(F:AS (PrR w) L pr)(u:∀x∈L,x.1∈LP.map (·.1)\/w1.heap.size<=x.1)(J:L.length<=n)
 (l:zl (ZJ pm hb eb L) [Gu] w5 w6) {p:Pl}(C:FR xs) (B:C8 w xs f) (D:w5.heap.size<=nbk/\nbk<w6.heap.size) (r:Fa w6 (ZJ pm hb eb (KI a (L.drop p++[(nbk,p,Cc xs)]))) pm hb eb nx' pv' a (KI a (L.drop p++[(nbk,p,Cc xs)]))) (A:hb<w1.heap.size) (z:pm<w1.heap.size/\eb<w1.heap.size) :
  Mem w w1 w6 pm hb eb a LP (pr.put a p f) (n+1)/\KeepsFrom w1.heap.size W w6/\KpN W w6:=by
 have K:=h.aj.size;have G:=j.size;refine⟨⟨?_,_,nx',pv',r,zlh F a p C B,?_,?_⟩,?_,?_⟩
 ·refine(h.aj.ah j).trans (l.mono (λb i=>?_) (λ_ h=>h));rcases i with rfl|rfl|rfl|i
  ·exact .inl (.inl rfl)
  ·exact .inl (.inr (.inl rfl))
  ·exact .inl (.inr (.inr (.inl rfl)))
  ·obtain⟨x,g,rfl⟩:=yi.1 i;rcases u x g with d|d
   ·exact .inl (.inr (.inr (.inr d)))
   ·exact .inr ⟨d,zg (y.ring.link x g)⟩
 ·intro x g;have s:x∈L.drop p++[(nbk,p,Cc xs)]:=by
   unfold KI at g;split at g
   ·exact List.mem_of_mem_tail g
   ·exact g
  rcases yj.1 s with d|d
  ·exact u x (CX.1 d).1
  ·obtain rfl:=yl.1 d;exact .inr (by simp only;omega)
 ·have I:(L.drop p).length<=L.length:=BL _ _;have:(KI a (L.drop p++[(nbk,p,Cc xs)])).length<=(L.drop p++[(nbk,p,Cc xs)]).length:=by
   unfold KI;split
   ·simp
   ·exact zk _
  simp only[zw,xf,jq]at this;omega
 ·refine⟨zt G l.size,λm o H e E=>?_⟩;have q:=(j.block m (zg e)).trans e;rcases l.block m (zg q)with d|⟨d,-⟩
  ·rw[d];exact q
  ·exfalso;rcases d with rfl|rfl|rfl|d
   ·omega
   ·omega
   ·omega
   ·obtain⟨x,g,rfl⟩:=yi.1 d;have:=y.ring.link x g;rw[q]at this;simp only[zn]at this;subst this;simp[Obj.isCells]at E
 ·intro m c t x e v;exact l.keep ((j.block m (zg e)).trans e) (by
   intro k;simp only[jl,Cx,N6]at v k;rcases v with rfl|rfl|rfl
   ·exact absurd k (by decide)
   ·exact absurd k (by decide)
   ·exact absurd k (by decide))
def Mem.grown {a:Int}{n:Nat}(b:Mem w w1 X pm hb eb a LP pr n)(m:hb<w1.heap.size){row:Option Nat}(c:X.grownBy Y row)(d:∀r,row=some r->w1.heap.size<=r/\∃o:Obj,X.heap[r]?=some o/\o.isCells=false):Mem w w1 Y pm hb eb a LP pr n:=by
 refine⟨⟨c.os.trans b.aj.os,c.tape.trans b.aj.tape,c.output.trans b.aj.output,zt b.aj.size c.size,λj h=>?_⟩,?_⟩
 ·rw[c.block j (zq h b.aj.size) (λe=>by have:=(d j e.symm).1;omega)];exact b.aj.block j h
 ·obtain⟨L,f,g,i,k,l⟩:=b.mem;exact⟨L,f,g,i.grown c (λr e=>⟨by have:=(d r e).1;omega,(d r e).2⟩),k,l⟩
def CS.bw {g:Int}{n:Nat}{m:Ms Nt}(h:CS W0 w O A OP cb nb db pm nm C d g pr m k)(p:∀b,OP b->W0.heap.size<=b)(l:zc w w1)(f:∀b,ZJ pm hb eb LP b->OP b)(o:Mem w w1 w' pm hb eb g LP pr' n):
  zl OP [Gu] w w'/\CS W0 w' O A (qv OP w w') cb nb db pm nm C d g pr' m k:=by
 have B:=l.size;have D:=o.aj.size;have i:=(zl.aa l).trans (o.aj.mono (λb c=>.inl (f b c)) (λ_ h=>h));have q:=i.size;refine⟨i,h.base.trans (i.below p h.base.size),h.own,h.apart,?_,h.aG.stay i (by decide) (by decide),h.al.aj i (by decide) (by decide) (by decide),h.st,h.bk,i.keep h.aC (by decide),h.cells,?_,?_,h.aM.stay i (λb hb e=>h.aN b e (.inr hb)) (by decide) (by decide) (λ_ h=>h),h.short⟩
 ·rintro b (c|c|c|c)
  ·exact zq (h.lt b (.inl c)) q
  ·exact zq (h.lt b (.inr (.inl c))) q
  ·exact zq (h.lt b (.inr (.inr c))) q
  ·exact c.2
 ·obtain⟨L,y,z,j,t,u,-⟩:=o.mem;refine⟨L,⟨hb,eb,y,z,⟨.inl (f _ (.inl rfl)),.inl (f _ (.inr (.inl rfl))),.inl (f _ (.inr (.inr (.inl rfl)))),λx s=>?_⟩,j.mem,j.ring,j.map,j.ok⟩,t.mono λa _ b v=>v.aj i (by decide)⟩;rcases u x s with r|r
  ·exact .inl (f _ (.inr (.inr (.inr r))))
  ·exact .inr ⟨by omega,zg (j.ring.link x s)⟩
 ·rintro b (c|c) e
  ·exact h.aN b c e
  ·have:=h.lt b (e.imp id .inl);omega
def X9 {F:Fence}{n:Nat}{f:Array Oper}{Q:Exit->Act->World->Prop}{j:Region.Mode}(I:Array Bool->Act->World->Prop)
 (hI:∀c a w,I c a w->(Region.ready j f c=[]->Q .normal a w)/\∀i∈Region.ready j f c,wpOpIn F n P f Q i (I (c.setIfInBounds i true)) a w) :
  ∀(d:Nat) (c:Array Bool) (a:Act) (w:World),c.toList.count false<=d->I c a w->wpAnyIn F n P j f Q d c a w:=by
 intro d
 induction d with
 |zero =>
  intro c a w r h;have m:Region.ready j f c=[]:=by
   cases m:Region.ready j f c with
   |nil=>rfl
   |cons i l =>
    exfalso;have g:=(Cm.1 (by rw[m];exact Dv:i∈Region.ready j f c)).1;rw[vh]at g;cases e:c[i]? with
    |none=>rw[e]at g;cases g
    |some b =>
     rw[e]at g;obtain rfl:b=false:=g;have s:=Array.mem_toList_iff.2 (Array.mem_of_getElem? e);have:=List.count_pos_iff.2 s;omega
  exact⟨m,(hI _ _ _ h).1 m⟩
 |succ d t =>
  intro c a w r h;refine⟨(hI _ _ _ h).1,λi g=>wpOpIn_mono (λp u q=>t _ p u ?_ q) ((hI _ _ _ h).2 i g)⟩;have g:=(Cm.1 g).1;rw[vh]at g;cases e:c[i]? with
  |none=>rw[e]at g;cases g
  |some b =>
   rw[e]at g;obtain rfl:b=false:=g;obtain⟨v,y⟩:=Ap.1 e;have k:(c.setIfInBounds i true).toList=c.toList.set i true:=by simp
   rw[k];have:∀(l:List Bool) (i:Nat),l[i]?=some false->(l.set i true).count false+1=l.count false:=by
    intro l
    induction l with
    |nil=>intro i h;simp at h
    |cons x l o =>
     intro i h;cases i with
     |zero =>
      simp only[GO,zn]at h;subst h;simp
     |succ i =>
      simp only[Aq]at h;have:=o i h;simp only[KU,List.count_cons];omega
   have:=this c.toList i (by simpa using e);omega
def NG (W0:World)(O A OP:Nat->Prop)(j nb db Z nm:Nat)(C:Array Value)(d:Dk)(f:Int)(pr:Mm)(k:Nat)(m:Ms Nt)(w:World)(a1:pr.length<=100000000000)(a0:∀b,OP b->W0.heap.size<=b)(al:CS W0 w O A OP j nb db Z nm C d f pr m k):
  Calls prog 192 #[yu j] w λr u=>r=.returned (.tuple #[])/\zl OP [Gu] w u/\CS W0 u O A (qv OP w u) j nb db Z nm C d f (qd f pr m.ag) m k:=by
 obtain⟨LN,an,ai,aB⟩:=al.aM;obtain⟨aR,aQ,a5,a7,an⟩:=an;obtain⟨LP,ao,a2⟩:=al.aV;obtain⟨hb,eb,nx,pv,ao,aS⟩:=ao.exact;have ak:=ze an;have af:=ze ai;have aJ:=ze ao;have av:=ze a2;have aG:=ze aS;have z:=ze al;have aN:=ze a1;have aK:=ze a0;clear an ai aB ao a2 aS al a1 a0;unfold yu;refine(Vv (n:=9)).1 ?_;refine callsIn_of_wp_marks func192 rfl trivial ?_ rfl;simp only[ntmps192,ql,xf,jq,Nat.reduceAdd,Nat.reduceSub,Array.replicate_succ,Array.replicate_zero,List.push_toArray,List.append_toArray,Cn,A4];have a8:(w.alloc (.cells #[.pointer (some ⟨j,0,none⟩)] 133)).cell? ⟨j,14,none⟩=some (.pointer (some ⟨nm,0,none⟩)):=by
  rw[xg _ _ ⟨j,14,none⟩ (zg z.o.aC)];exact(zm z.o.aC 14 _ z.o.cells.aM).1
 have aa:=ze (λw=>zfd nm w);unfold yu at aa
 gi_wp2
 refine⟨trivial,CallsIn.mono (Vv.2 (aa.o _)) ?_⟩;rintro e u ⟨rfl,rfl⟩
 gi_wp2
 have v:Hid (zc w ((w.alloc (.cells #[.pointer (some ⟨j,0,none⟩)] 133)).alloc (.cells #[.pointer (some ⟨nm,0,none⟩)] Sa))):=qg w _ _;have aO:Hid (((w.alloc (.cells #[.pointer (some ⟨j,0,none⟩)] 133)).alloc (.cells #[.pointer (some ⟨nm,0,none⟩)] Sa)).heap[w.heap.size]?=some (.cells #[.pointer (some ⟨j,0,none⟩)] 133 (0,0))):=zr (zf _ _);have aP:Hid (((w.alloc (.cells #[.pointer (some ⟨j,0,none⟩)] 133)).alloc (.cells #[.pointer (some ⟨nm,0,none⟩)] Sa)).heap[w.heap.size+1]?=some (.cells #[yu nm] Sa (0,0))):=by
  have:=zf (w.alloc (.cells #[.pointer (some ⟨j,0,none⟩)] 133)) (.cells #[.pointer (some ⟨nm,0,none⟩)] Sa);rw[show(w.alloc (.cells #[.pointer (some ⟨j,0,none⟩)] 133)).heap.size=w.heap.size+1 by simp]at this;exact this
 clear a8 aa;generalize (w.alloc (.cells #[.pointer (some ⟨j,0,none⟩)] 133)).alloc (.cells #[.pointer (some ⟨nm,0,none⟩)] Sa)=w1 at *;have aq:Hid (M7 w1 A nm aR aQ a5 a7 FI LN):=by
  have hM:=ak.o;have hc:∀(k:Nat) (c:Array Value) (t:TypeId) (x:Nat×Nat),w.heap[k]?=some (.cells c t x)->w1.heap[k]?=some (.cells c t x):=λk c t x e=>(v.o.block k (zg e)).trans e;exact⟨hM.own,hc _ _ _ _ hM.mem,⟨hc _ _ _ _ hM.ring.ends,λx hx=>hc _ _ _ _ (hM.ring.link x hx),hM.ring.aD⟩,hM.map.same (v.o.block _ hM.map.lt),hM.ok⟩
 have I:Hid (Fa w1 (ZJ Z hb eb LP) Z hb eb nx pv f LP):=by
  refine Fa.grown aJ.o (row:=none) ⟨v.o.os,v.o.tape,v.o.output,v.o.size,λk hk _=>v.o.block k hk⟩ (λr e=>by cases e)
 have aA:hb<w1.heap.size:=I.o.map.lt;refine wpIn_rangeFunc_ownH (F:=Fence.wide) rfl (by omega) (gf:=274) (lb:=#[.pointer (some ⟨w.heap.size+1,0,none⟩)]) rfl trivial (KP func274 (by kernel_rfl) rfl)
  (XI 8 (by omega) (w.heap.size+1) nm aR aQ a5 a7 FI A LN w1 aP.o aq.o) zmi zoe (zu _ _) (λ_=>rfl)
  (λB W=>Mem w w1 W Z hb eb f LP (qd f pr (B.map λi=>Sg m.ag i.val)) (LP.length+B.length))
  (λ_ _ _=>False) ?hI (λ_ _ _ _ _ hs _ _=>hs) ?h0
  (λx a' W=>∃H a,LN[x].2.2=.pointer a/\W.heap[H]?=some (.cells #[.int .i64 LN[x].2.1.1,.int .i64 LN[x].2.1.2.1,.int .i64 LN[x].2.1.2.2] 215 (0,0))/\a'={tmps:=#[.pointer (some ⟨j,0,none⟩),.pointer (some ⟨w.heap.size,0,none⟩),.pointer (some ⟨H,0,none⟩),.pointer a,.pointer (some ⟨j,0,none⟩),.pointer (some ⟨j,0,none⟩),.pointer (some ⟨j,14,none⟩),.pointer (some ⟨nm,0,none⟩),.func (.func 274) #[] #[.pointer (some ⟨w.heap.size+1,0,none⟩)],Fc LN[x].2.1,.pointer a,undef,undef,undef,undef,undef,undef,undef,undef,undef,undef],defers:=[]})
  ?hAx ?assign ?body ?done ?stop
 case hI =>
  intro s X Y bh hs hg hr;exact hs.grown aA hg hr
 case h0 =>
  refine⟨zl.refl _ _ _,LP,nx,pv,I.o,?_,λx hx=>.inl (Ck hx),by simp⟩;exact av.o
 case hAx =>
  rintro x a' s X Y bh ⟨H,a,h1,h2,h3⟩ hg hr;refine⟨H,a,h1,?_,h3⟩;rw[hg.block H (zg h2) (λe=>by
   obtain⟨-,o,y,hc⟩:=hr H e.symm;rw[h2]at y;simp only[zn]at y;subst y;simp[Obj.isCells]at hc)]
  exact h2
 case assign =>
  rintro l B x W K M q;obtain⟨a,p⟩:=(ak.o.ok LN[x] (ye _)).2;unfold zf6 Fc;rw[p]
  gi_wp2
  exact q _ _ (PA (zi W _)) (zb4 (zi W _)) (M.below (zi W _)) ⟨W.heap.size,a,p,zf _ _,rfl⟩
 case body =>
  rintro l B x a' W hl ⟨r,hr⟩ M ⟨H,a,p,hp,rfl⟩ be;have aF:x.val<m.ag.length:=by rw[<- af.o.len];exact x.isLt
  have hrel:=af.o.at x.val x.isLt aF;obtain⟨J,fb,xs,aY,hA,hf,am,aX⟩:=hrel;have bc:a=some ⟨fb,0,none⟩:=by
   have:LN[x].2.2=yu fb:=aY;rw[p]at this;unfold yu at this;injection this
  subst bc;have ar:=ze (ak.o.ok LN[x] (ye _)).1;have ah:LN[x].2.1=m.ag[x.val].1:=J;clear J;generalize LN[x].2.1=P at *;have J:=ah;clear ah;clear aY p;have aU:xy w1 fb xs:=(v.o.block _ (zg hf)).trans hf;have aW:xy W fb xs:=M.aj.keep aU (by decide);have ax:W.heap[w.heap.size]?=some (.cells #[.pointer (some ⟨j,0,none⟩)] 133 (0,0)):=M.aj.keep aO.o (by decide);have ay:W.heap[j]?=some (.cells C Bd (0,0)):=M.aj.keep ((v.o.block _ (zg z.o.aC)).trans z.o.aC) (by decide);have HI:=ze M;have aH:=ze am;have ab:=ze ax;have ad:=ze ay;have aw:=ze hp;have ai:Sg m.ag x.val=m.ag[x.val]:=by
   unfold Sg;rw[zj,zo aF]
   rfl
  have ae:Hid (P=(Sg m.ag x.val).1/\C8 w xs (Sg m.ag x.val).2):=by
   rw[ai];exact⟨J,aX⟩
  have q0:W.cell? ⟨w.heap.size,0,none⟩=some (.pointer (some ⟨j,0,none⟩)):=(zm ax 0 _ rfl).1;have q1:W.cell? ⟨j,13,none⟩=some (.pointer (some ⟨Z,0,none⟩)):=(zm ay 13 _ z.o.cells.aV).1;have q2:W.cell? ⟨H,0,none⟩=some (.int .i64 P.1):=(zm hp 0 _ rfl).1;have q3:W.cell? ⟨H,1,none⟩=some (.int .i64 P.2.1):=(zm hp 1 _ rfl).1;have q4:W.cell? ⟨H,2,none⟩=some (.int .i64 P.2.2):=(zm hp 2 _ rfl).1;have bi:(SP (.pointer (some ⟨fb,0,none⟩))).run prog W.drew=.ok (.agg (Cc xs).toArray) W.drew:=Es (w:=W.drew) (vv (w:=W.drew) aW) am.len;have bd:prog.follows Departure.mixedOrders=true:=by kernel_rfl
  have aI:=ze (VM xs am W.drew);have ap:Hid (LP.length+B.length<=1000000000000):=by
   have h1:=av.o.len;have h2:=aN.o;have h3:=z.o.short;have h4:=af.o.len;show _<=_;omega
  obtain⟨L,a4,a6,hm,a3,hL,hn⟩:=M.mem;have au:Hid (∀w5,zc W w5->Calls prog 232 #[yu Z,Fc P,.agg (Cc (VL xs)).toArray] w5 λr u=>r=.returned (.tuple #[])/\Mem w w1 u Z hb eb f LP (qd f pr ((B++[x]).map λi=>Sg m.ag i.val)) (LP.length+(B++[x]).length)/\KeepsFrom w1.heap.size W u/\KpN W u):=by
   intro w5 g;have aZ:Fa w5 (ZJ Z hb eb L) Z hb eb a4 a6 f L:=hm.grown (row:=none) ⟨g.os,g.tape,g.output,g.size,λk hk _=>g.block k hk⟩ (λr e=>by cases e);have az:=zki aH.o;refine(YJ Z hb eb a4 a6 f L P ar.o (Cc (VL xs)) az.len (DE az.2) w5 aZ (by have:=ap.o;omega)).mono ?_;rintro r w6 ⟨rfl,ht,bj,bk,bl,h1,h2,bg⟩;have:=HI.o.put g aZ a3 hL hn ht az (zkh ae.o.2) ⟨h1,h2⟩ bg aA ⟨zg I.o.mem,zg I.o.ring.ends⟩;refine⟨rfl,?_,this.2⟩;rw[yv,j4,DQ,Sv,<- ae.o.1];have h3:=this.1;rw[AP]at h3;simpa using h3
  have aL:Hid (∀w5,zc W w5->w5.cell? ⟨j,13,none⟩=some (.pointer (some ⟨Z,0,none⟩))/\w5.cell? ⟨w.heap.size,0,none⟩=some (.pointer (some ⟨j,0,none⟩))/\w5.cell? ⟨H,0,none⟩=some (.int .i64 P.1)/\w5.cell? ⟨H,1,none⟩=some (.int .i64 P.2.1)/\w5.cell? ⟨H,2,none⟩=some (.int .i64 P.2.2)):=by
   intro w5 g;have aE:=(g.block _ (zg aw.o)).trans aw.o;exact⟨(zm ((g.block _ (zg ad.o)).trans ad.o) 13 _ z.o.cells.aV).1,(zm ((g.block _ (zg ab.o)).trans ab.o) 0 _ rfl).1,(zm aE 0 _ rfl).1,(zm aE 1 _ rfl).1,(zm aE 2 _ rfl).1⟩
  unfold yu at au;unfold yu at aI;clear hf am aX aU aW ax ay hp M ai J hA hm a3 hL hn ae ab ad aw aH HI ap ar aq I ak af aJ av aG z aN aK v aO aP be aF
  gi_wp2
  refine wpIn_region_any bd ?_
  change wpAnyIn _ _ _ _ _ _ _ _ _ (World.drew _)
  refine X9 (λE a u=>(∃l0 T N Q U l5 V S G:Bool,E=#[l0,T,N,Q,U,l5,V,S,G,false]/\(T=true->l0=true)/\(N=true->T=true)/\(Q=true->N=true)/\(V=true->l5=true)/\(S=true->V=true)/\(G=true->S=true)/\(G=false/\u=W.drew\/G=true/\zc W u) /\
   a={tmps:=#[.pointer (some ⟨j,0,none⟩),.pointer (some ⟨w.heap.size,0,none⟩),.pointer (some ⟨H,0,none⟩),.pointer (some ⟨fb,0,none⟩),.pointer (some ⟨j,0,none⟩),.pointer (some ⟨j,0,none⟩),.pointer (some ⟨j,14,none⟩),.pointer (some ⟨nm,0,none⟩),.func (.func 274) #[] #[.pointer (some ⟨w.heap.size+1,0,none⟩)],Fc P,.pointer (some ⟨fb,0,none⟩),
    bif l0 then .pointer (some ⟨j,0,none⟩) else undef,bif T then .pointer (some ⟨j,0,none⟩) else undef,bif N then .pointer (some ⟨j,13,none⟩) else undef,bif Q then .pointer (some ⟨Z,0,none⟩) else undef,bif U then Fc P else undef,bif l5 then .pointer (some ⟨fb,0,none⟩) else undef,bif V then .pointer (some ⟨fb,0,none⟩) else undef,bif S then .agg (Cc xs).toArray else undef,bif G then .agg (Cc (VL xs)).toArray else undef,undef],defers:=[]}) \/
   (E=Array.replicate 10 true/\KeepsFrom w1.heap.size W u/\KpN W u/\Mem w w1 u Z hb eb f LP (qd f pr ((B++[x]).map λi=>Sg m.ag i.val)) (LP.length+(B++[x]).length))) ?_ _ _ _ _ (by decide) (.inl ⟨false,false,false,false,false,false,false,false,false,rfl,by decide,by decide,by decide,by decide,by decide,by decide,.inl ⟨rfl,rfl⟩,rfl⟩)
  rintro E a u (⟨l0,T,N,Q,U,l5,V,S,G,rfl,d1,d2,d3,d6,d7,d8,hw,rfl⟩|⟨rfl,h1,h2,h3⟩)
  ·refine⟨λhr=>?_,λi M=>?_⟩
   ·exfalso;have R:∀i,i∉Region.ready _ _ _:=λi=>by rw[hr];exact Cx
    obtain rfl:l0=true:=by
     cases l0 with
     |true=>rfl
     |false=>exact absurd (Cm.2 ⟨rfl,_,rfl,by simp⟩) (R 0)
    obtain rfl:T=true:=by
     cases T with
     |true=>rfl
     |false=>exact absurd (Cm.2 ⟨rfl,_,rfl,by simp⟩) (R 1)
    obtain rfl:N=true:=by
     cases N with
     |true=>rfl
     |false=>exact absurd (Cm.2 ⟨rfl,_,rfl,by simp⟩) (R 2)
    obtain rfl:Q=true:=by
     cases Q with
     |true=>rfl
     |false=>exact absurd (Cm.2 ⟨rfl,_,rfl,by simp⟩) (R 3)
    obtain rfl:U=true:=by
     cases U with
     |true=>rfl
     |false=>exact absurd (Cm.2 ⟨rfl,_,rfl,by simp⟩) (R 4)
    obtain rfl:l5=true:=by
     cases l5 with
     |true=>rfl
     |false=>exact absurd (Cm.2 ⟨rfl,_,rfl,by simp⟩) (R 5)
    obtain rfl:V=true:=by
     cases V with
     |true=>rfl
     |false=>exact absurd (Cm.2 ⟨rfl,_,rfl,by simp⟩) (R 6)
    obtain rfl:S=true:=by
     cases S with
     |true=>rfl
     |false=>exact absurd (Cm.2 ⟨rfl,_,rfl,by simp⟩) (R 7)
    obtain rfl:G=true:=by
     cases G with
     |true=>rfl
     |false=>exact absurd (Cm.2 ⟨rfl,_,rfl,by simp⟩) (R 8)
    exact absurd (Cm.2 ⟨rfl,_,rfl,by simp⟩) (R 9)
   ·have bf:i<10:=by
     obtain⟨-,o,y,-⟩:=Cm.1 M;exact(Ap.1 y).1
    have HC:Hid (u.cell? ⟨j,13,none⟩=some (.pointer (some ⟨Z,0,none⟩))/\u.cell? ⟨w.heap.size,0,none⟩=some (.pointer (some ⟨j,0,none⟩))/\u.cell? ⟨H,0,none⟩=some (.int .i64 P.1)/\u.cell? ⟨H,1,none⟩=some (.int .i64 P.2.1)/\u.cell? ⟨H,2,none⟩=some (.int .i64 P.2.2)):=by
     rcases hw with ⟨-,rfl⟩|⟨-,g⟩
     ·exact aL.o _ (A6 (zu _ _))
     ·exact aL.o _ g
    obtain⟨q1,q0,q2,q3,q4⟩:=HC.o;obtain⟨hu,o,y,p⟩:=Cm.1 M;clear M;rcases(show i=0\/i=1\/i=2\/i=3\/i=4\/i=5\/i=6\/i=7\/i=8\/i=9 by omega)with rfl|rfl|rfl|rfl|rfl|rfl|rfl|rfl|rfl|rfl
    ·obtain rfl:l0=false:=hu;clear y p;refine ED rfl (λK q=>?_);go_simp;refine q _ _ (.inl ⟨true,T,N,Q,U,l5,V,S,G,rfl,λ_=>rfl,d2,d3,d6,d7,d8,hw,rfl⟩)
    ·obtain rfl:T=false:=hu;obtain rfl:=qj y;obtain rfl:l0=true:=p ⟨0,.data⟩ (by simp) rfl;clear y p;refine ED rfl (λK q=>?_);go_simp;refine q _ _ (.inl ⟨true,true,N,Q,U,l5,V,S,G,rfl,λ_=>rfl,λ_=>rfl,d3,d6,d7,d8,hw,rfl⟩)
    ·obtain rfl:N=false:=hu;obtain rfl:=qj y;obtain rfl:T=true:=p ⟨1,.data⟩ (by simp) rfl;obtain rfl:=d1 rfl;clear y p;refine ED rfl (λK q=>?_);go_simp;refine q _ _ (.inl ⟨true,true,true,Q,U,l5,V,S,G,rfl,d1,λ_=>rfl,λ_=>rfl,d6,d7,d8,hw,rfl⟩)
    ·obtain rfl:Q=false:=hu;obtain rfl:=qj y;obtain rfl:N=true:=p ⟨2,.data⟩ (by simp) rfl;obtain rfl:=d2 rfl;obtain rfl:=d1 rfl;clear y p;refine ED rfl (λK q=>?_);go_simp;refine q _ _ (.inl ⟨true,true,true,true,U,l5,V,S,G,rfl,d1,d2,λ_=>rfl,d6,d7,d8,hw,rfl⟩)
    ·obtain rfl:U=false:=hu;clear y p;refine ED rfl (λK q=>?_);go_simp;refine q _ _ (.inl ⟨l0,T,N,Q,true,l5,V,S,G,rfl,d1,d2,d3,d6,d7,d8,hw,rfl⟩)
    ·obtain rfl:l5=false:=hu;clear y p;refine ED rfl (λK q=>?_);go_simp;refine q _ _ (.inl ⟨l0,T,N,Q,U,true,V,S,G,rfl,d1,d2,d3,λ_=>rfl,d7,d8,hw,rfl⟩)
    ·obtain rfl:V=false:=hu;obtain rfl:=qj y;obtain rfl:l5=true:=p ⟨5,.data⟩ (by simp) rfl;clear y p;refine ED rfl (λK q=>?_);go_simp;refine q _ _ (.inl ⟨l0,T,N,Q,U,true,true,S,G,rfl,d1,d2,d3,λ_=>rfl,λ_=>rfl,d8,hw,rfl⟩)
    ·obtain rfl:S=false:=hu;obtain rfl:=qj y;obtain rfl:V=true:=p ⟨6,.data⟩ (by simp) rfl;obtain rfl:=d6 rfl;clear y p;obtain rfl:u=W.drew:=by
      rcases hw with ⟨-,h⟩|⟨h,-⟩
      ·exact h
      ·exact absurd (d8 h) (by decide)
     refine ED rfl (λK q=>?_);go_simp;refine q _ _ (.inl ⟨l0,T,N,Q,U,true,true,true,G,rfl,d1,d2,d3,d6,λ_=>rfl,λ_=>rfl,hw,rfl⟩)
    ·obtain rfl:G=false:=hu;obtain rfl:=qj y;obtain rfl:S=true:=p ⟨7,.data⟩ (by simp) rfl;obtain rfl:=d7 rfl;obtain rfl:=d6 rfl;clear y p;obtain rfl:u=W.drew:=by
      rcases hw with ⟨-,h⟩|⟨h,-⟩
      ·exact h
      ·exact absurd h (by decide)
     refine ED rfl (λK q=>?_);go_simp;refine⟨trivial,CallsIn.mono (CallsIn.inRound l (Vv.2 aI.o)) ?_⟩;rintro e w5 ⟨rfl,g⟩;exact q _ _ (.inl ⟨l0,T,N,Q,U,true,true,true,true,rfl,d1,d2,d3,λ_=>rfl,λ_=>rfl,λ_=>rfl,.inr ⟨rfl,A6 g⟩,rfl⟩)
    ·obtain rfl:=qj y;obtain rfl:Q=true:=p ⟨3,.data⟩ (by simp) rfl;obtain rfl:U=true:=p ⟨4,.data⟩ (by simp) rfl;obtain rfl:G=true:=p ⟨8,.data⟩ (by simp) rfl;clear y p;obtain rfl:=d8 rfl;obtain rfl:=d7 rfl;obtain rfl:=d6 rfl;obtain rfl:=d3 rfl;obtain rfl:=d2 rfl;obtain rfl:=d1 rfl;refine ED rfl (λK q=>?_);go_simp;have g:zc W u:=by
      rcases hw with ⟨h,-⟩|⟨-,h⟩
      ·exact absurd h (by decide)
      ·exact h
     refine⟨trivial,CallsIn.mono (CallsIn.inRound l (Vv.2 (au.o u g))) ?_⟩;rintro e w6 ⟨rfl,ba,a9,bb⟩;exact q _ _ (.inr ⟨rfl,a9,bb,ba⟩)
  ·refine⟨λ_=>⟨h1,h2,h3⟩,λi M=>?_⟩;exfalso;obtain⟨hu,-⟩:=Cm.1 M;simp only[vh,Array.getElem?_replicate]at hu;split at hu<;>simp at hu
 case done =>
  rintro D ys W hD hS M q
  gi_wp2
  refine⟨by simp,.inl ⟨_,_,rfl,run_takeDeferred q,?_⟩⟩;refine⟨_,BA rfl _ _ _,rfl,?_⟩;have h9:=M.grown aA (grownBy_putObj' W D (.deferred none)) (λr e=>by cases e;exact⟨hD,_,q,rfl⟩);have e:(ys.map λi=>Sg m.ag i.val)=m.ag:=by
   have e1:=znj m.ag (xs:=ys.map Fin.val) (by rw[hS,af.o.len]);rw[EG]at e1;exact e1
  rw[e]at h9;exact z.o.bw aK.o v.o aG.o h9
 case stop =>
  rintro D c B W _ _ h _;exact h.elim
end
def Rx (c:Nat):∀(q f a:Nat),q<64->q<=f->(jg c (f+1) a (2^q)).length<=2:=by
 have b:∀(l f a:Nat),2*l<64->(jg c (f+1) a (2^(2*l))).length=1:=by
  intro l f a d;have e:2^(2*l)/4^Bg (2^(2*l))=1:=by
   rw[Ko _ d,Az,show 2*(2*l/2)=2*l by omega,FG (jp (by omega))]
  rw[jg,if_pos e]
  rfl
 intro q f a j i
 by_cases h:q%2=0
 ·have e:q=2*(q/2):=by omega
  rw[e,b (q/2) f a (by omega)];omega
 ·obtain⟨l,rfl⟩:∃l,q=2*l+1:=⟨q/2,by omega⟩;obtain⟨f,rfl⟩:∃g,f=g+1:=⟨f-1,by omega⟩;rw[jg];split
  ·simp
  ·rw[Nr,zw,b l f a (by omega),show 2^(2*l+1)-2^(2*l)=2^(2*l) by rw[xp];omega,b l f _ (by omega)];omega
def YU (b:Nat):∀(f a n:Nat),f<64->1<=n->n<=2^f->(jg b (f+1) a n).length<=2*(f+1):=by
 intro f
 induction f with
 |zero =>
  intro a n _ i c;obtain rfl:n=2^0:=by simp at c ⊢;omega
  exact Rx b 0 0 a (by omega) (by omega)
 |succ f k =>
  intro a n r i c;rw[jg];split
  ·simp;omega
  ·rename_i d
   by_cases j:2<=n
   ·obtain⟨h,l,s,m,t,u⟩:=Bo n f j c;obtain⟨q,g⟩:=Mb n;have e:q<=f:=by
     rw[g]at h;exact(C9 (by omega)).1 h
    rw[zw];have o:(jg b (f+1) a (yo n)).length<=2:=by rw[g];exact Rx b q f a (by omega) e
    have p:=k (a+yo n) (n-yo n) (by omega) m l;omega
   ·obtain rfl:n=2^0:=by simp;omega
    exact absurd (by rw[Ko 0 (by omega)]) d
def OF (a:Nat):∀(b:List (Nat×Nat)),(∀s∈b,1<=s.2/\s.2<=2^63)->(b.flatMap λs=>jg a 64 s.1 s.2).length<=128*b.length
 |[],_=>by simp
 |s::r,h=>by
  have e:=OF a r (λx d=>h x (BV _ d));have c:=h s Dv;have:(jg a 64 s.1 s.2).length<=128:=YU a 63 s.1 s.2 (by omega) c.1 c.2;rw[DO,zw,xf];omega
def Tp (a i:Nat)(c:a<2^63):((AD 64 0 a i).flatMap λs=>jg a 64 s.1 s.2).length<=8400:=by
 have h:=OF a (AD 64 0 a i) (λs b=>by have:=I0 64 0 a i (by omega) s b;omega);have:=C4 64 0 a i;omega
def Tl (a n:Nat)(e:n<2^63)(c:0<a)(d:a<=n):((AB 64 a 0 n true).flatMap λs=>jg n 64 s.1 s.2).length<=8400:=by
 have h:=OF n (AB 64 a 0 n true) (λs b=>by have:=LF 64 a 0 n true (by omega) (by omega) (by omega) (by omega) s b;omega);have:=Ci 64 a 0 n true;omega
end Go.Proofs.YtfdbeldiomkdiaaGreatDoor
