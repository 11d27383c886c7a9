import Derived.Test.YtndkblnpbjffhaaGreatDoorG41
set_option maxHeartbeats 4000000
set_option maxRecDepth 100000
open Go.RowKit Go.Shelf
namespace Go.Proofs.YtndkblnpbjffhaaGreatDoor
section
attribute [local go_sem] Oper.semAt_some
attribute [local go_sem ↓] yv yl yy yo yj ym yx yk
def exP (A r h:Nat)(L:LsP):Nat→Prop:=fun k=>k=A∨k=r∨k=h∨k∈L.map (·.1)
theorem zdh.exact {w:World}{O:Nat→Prop}{D:Nat}{room:Int}{L:LsP}(h:zdh w O D room L):∃ A r nx pv,zbu w (exP D A r L) D A r nx pv room L∧∀ k,exP D A r L k→O k:=by
 obtain⟨A,r,nx,pv,h⟩:=h;refine⟨A,r,nx,pv,⟨⟨.inl rfl,.inr (.inl rfl),.inr (.inr (.inl rfl)),fun x E=> .inr (.inr (.inr (List.mem_map_of_mem E)))⟩,h.mem,h.ring,h.map,h.ok⟩,?_⟩;rintro k (rfl | rfl | rfl | H)
 ·exact h.own.1
 ·exact h.own.2.1
 ·exact h.own.2.2.1
 ·obtain⟨x,E,rfl⟩:=List.mem_map.1 H;exact h.own.2.2.2 x E
theorem zw6 (H E D:Nat)(nx pv:Nat→Nat)(room:Int)(L:LsP)(p:Pl)(Y:zct p)(v:List Value)(hv:v.length=44)(S:∀ x∈v,x.oneCell'=true)(w:World)(h:zbu w (exP H E D L) H E D nx pv room L)(X:L.length≤1000000000000):
  Calls Tryz.prog 144 #[zo H,plV p,.agg v.toArray] w fun r w'=>r= .returned (.tuple #[])∧zg (exP H E D L) [LkP] w w'∧∃ A I J,w.heap.size≤A∧A < w'.heap.size∧zbu w' (exP H E D (zgi room (L.drop p++[(A,p,v)]))) H E D I J room (zgi room (L.drop p++[(A,p,v)])):=by
 refine(z6w (exP H E D L) H room L p Y v hv S w ⟨E,D,nx,pv,h⟩ X).mono ?_;rintro r w' ⟨rfl,U,A,h1,h2,hm⟩;obtain⟨Q,K,I,J,hm⟩:=hm;have e:=hm.mem;rw [U.keep h.mem (by decide)] at e;have V:E=Q∧D=K:=by
  have:=e;simp only [Option.some.injEq,Obj.cells.injEq,and_true] at this;have R:Value.map (some E)=Value.map (some Q):=by
   have:=congrArg (fun a=>a[1]?) this;simpa using this
  have W:zo D=zo K:=by
   have:=congrArg (fun a=>a[2]?) this;simpa using this
  exact⟨by injection R with R;injection R,zuj W⟩
 obtain⟨rfl,rfl⟩:=V;exact⟨rfl,U,A,I,J,h1,h2,⟨.inl rfl,.inr (.inl rfl),.inr (.inr (.inl rfl)),fun x Z=> .inr (.inr (.inr (List.mem_map_of_mem Z)))⟩,hm.mem,hm.ring,hm.map,hm.ok⟩
theorem zbu.grown {w w':World}{O:Nat→Prop}{I A E:Nat}{nx pv:Nat→Nat}{room:Int}{L:LsP}(h:zbu w O I A E nx pv room L){row:Option Nat}(H:w.grownBy w' row)(hr:∀ r,row=some r→A≠r∧∃ o:Obj,w.heap[r]?=some o∧o.isCells=false):zbu w' O I A E nx pv room L:=by
 have cell:∀(k:Nat) (c:Array Value) (t:TypeId) (x:Nat×Nat),w.heap[k]?=some (.cells c t x)→w'.heap[k]?=some (.cells c t x):=fun k c t x e=>by
  rw [H.block k (zb e) (fun J=>by
   obtain⟨-,o,D,K⟩:=hr k J.symm;rw [e] at D;simp only [Option.some.injEq] at D;subst D;simp [Obj.isCells] at K)]
  exact e
 exact⟨h.own,cell _ _ _ _ h.mem,⟨cell _ _ _ _ h.ring.ends,fun x Q=>cell _ _ _ _ (h.ring.link x Q),h.ring.circ,h.ring.len⟩,h.map.same (H.block A h.map.lt (fun e=>(hr A e.symm).1 rfl)),h.ok⟩
theorem z69 {w:World}{xs:List Px}{f:Fl}(h:j9 w xs f):j9 w (zu0 xs) (zdx f):=by
 have h2:=zrq h (j9.none w);have e:zda f Fl.no=zdx f:=by
  obtain⟨a,b,c,d,rfl⟩:=zfk h.2.1;rfl
 rw [e] at h2;exact h2
theorem z8k {xs:List Px}(h:FOk xs):FOk (zu0 xs):=zu7 h Fx.no_ok
def zoj (h:Mm)(i:Nat):Pl×Fl:=h.getD i ((0,0,0),Fl.no)
theorem z9a (r:Mm){xs:List Nat}(h:xs=List.range r.length):xs.map (zoj r)=r:=by
 subst h;apply List.ext_getElem
 ·simp
 ·intro i h1 h2;simp only [List.getElem_map,List.getElem_range];unfold zoj;rw [List.getD_eq_getElem?_getD,List.getElem?_eq_getElem h2];rfl
theorem zoc (room:Int)(r h:Mm)(x:Pl×Fl):zx room r (h++[x])=(zx room r h).put room x.1 (zdx x.2):=by
 unfold zx;rw [List.foldl_append];rfl
theorem z79 {w:World}{L:LsP}{A:Mm}(h:jf (PrR w) L A)(room:Int)(p:Pl){r:Nat}{xs:List Px}{f:Fl}(E:FOk xs)(D:j9 w xs f):jf (PrR w) (zgi room (L.drop p++[(r,p,fcs xs)])) (A.put room p f):=by
 have h2:jf (PrR w) (L.drop p++[(r,p,fcs xs)]) (A.drop p++[(p,f)]):=(h.filter _ _ (fun a b hr=>by rw [hr.1])).snoc ⟨rfl,xs,rfl,E,D⟩;have H:=h2.len;unfold zgi Mm.put;rw [← H]
 split
 ·exact h2.tail
 ·exact h2
structure Mem (w w1 W:World)(pm hb eb:Nat)(room:Int)(LP:LsP)(pr:Mm)(n:Nat):Prop where
 turn:zg (exP pm hb eb LP) [LkP] w1 W
 mem:∃ L nx pv,zbu W (exP pm hb eb L) pm hb eb nx pv room L∧jf (PrR w) L pr∧(∀ x∈L,x.1∈LP.map (·.1)∨w1.heap.size≤x.1)∧L.length≤n
theorem Mem.below {w S W I:World}{Q K J:Nat}{room:Int}{H:LsP}{R:Mm}{n:Nat}(h:Mem w S W Q K J room H R n)(A:Below W.heap.size W I):Mem w S I Q K J room H R n:=by
 refine⟨h.turn.then_below A,?_⟩;obtain⟨L,D,E,h1,h2,U⟩:=h.mem;exact⟨L,D,E,h1.grown (row:=none) ⟨A.os,A.tape,A.output,A.size,fun k V _=>A.block k V⟩ (fun r e=>by cases e),h2,U⟩
theorem z0y {W r:World}(h:Below W.heap.size W r):KpN W r:=fun k _ _ _ e _=>(h.block k (zb e)).trans e
theorem zll {B:Nat}{W r:World}(h:Below W.heap.size W r):KeepsFrom B W r:=⟨h.size,fun k _ _ e _=>(h.block k (zb e)).trans e⟩
theorem jf.at {α β:Type}{R:α→β→Prop}{l:List α}{m:List β}(h:jf R l m):∀ i (h1:i < l.length) (h2:i < m.length),R l[i] m[i]:=by
 induction h using jf.ind with
 | nil=>intro i h1;simp at h1
 | cons hr _ ih =>
  intro i h1 h2;cases i with
  | zero=>exact hr
  | succ i=>exact ih i (by simpa using h1) (by simpa using h2)
theorem Mem.put {w J W X K:World}{H E D:Nat}{room:Int}{Y:LsP}{pr:Mm}{n:Nat}(h:Mem w J W H E D room Y pr n)(h5:Below W.heap.size W X){L:LsP}{nx pv:Nat→Nat}(hm:zbu X (exP H E D L) H E D nx pv room L)(hr:jf (PrR w) L pr)(hL:∀ x∈L,x.1∈Y.map (·.1)∨J.heap.size≤x.1)(hn:L.length≤n)
  (U:zg (exP H E D L) [LkP] X K) {p:Pl} {xs:List Px} {f:Fl} (hk:FOk xs) (hi:j9 w xs f) {r:Nat} {Q R:Nat→Nat} (ae:X.heap.size≤r∧r < K.heap.size) (aa:zbu K (exP H E D (zgi room (L.drop p++[(r,p,fcs xs)]))) H E D Q R room (zgi room (L.drop p++[(r,p,fcs xs)]))) (ad:E < J.heap.size) (af:H < J.heap.size∧D < J.heap.size) :
  Mem w J K H E D room Y (pr.put room p f) (n+1)∧KeepsFrom J.heap.size W K∧KpN W K:=by
 have s1:=h.turn.size;have s5:=h5.size;refine⟨⟨?_,_,Q,R,aa,z79 hr room p hk hi,?_,?_⟩,?_,?_⟩
 ·refine(h.turn.then_below h5).trans (U.mono (fun b I=>?_) (fun _ h=>h));rcases I with rfl | rfl | rfl | I
  ·exact .inl (.inl rfl)
  ·exact .inl (.inr (.inl rfl))
  ·exact .inl (.inr (.inr (.inl rfl)))
  ·obtain⟨x,A,rfl⟩:=List.mem_map.1 I;rcases hL x A with h1 | h1
   ·exact .inl (.inr (.inr (.inr h1)))
   ·exact .inr ⟨h1,zb (hm.ring.link x A)⟩
 ·intro x A;have ac:x∈L.drop p++[(r,p,fcs xs)]:=by
   unfold zgi at A
   split at A
   ·exact List.mem_of_mem_tail A
   ·exact A
  rcases List.mem_append.1 ac with h1 | h1
  ·exact hL x (List.mem_filter.1 h1).1
  ·obtain rfl:=List.mem_singleton.1 h1;exact .inr (by simp only;omega)
 ·have hd:(L.drop p).length≤L.length:=List.length_filter_le _ _;have:(zgi room (L.drop p++[(r,p,fcs xs)])).length≤(L.drop p++[(r,p,fcs xs)]).length:=by
   unfold zgi
   split
   ·simp
   ·exact Nat.le_refl _
  simp only [List.length_append,List.length_cons,List.length_nil] at this;omega
 ·refine⟨Nat.le_trans s5 U.size,fun V o hB e ho=>?_⟩;have Z:=(h5.block V (zb e)).trans e;rcases U.block V (zb Z) with h1 | ⟨h1,-⟩
  ·rw [h1];exact Z
  ·exfalso;rcases h1 with rfl | rfl | rfl | h1
   ·omega
   ·omega
   ·omega
   ·obtain⟨x,A,rfl⟩:=List.mem_map.1 h1;have:=hm.ring.link x A;rw [Z] at this;simp only [Option.some.injEq] at this;subst this;simp [Obj.isCells] at ho
 ·intro V c t x e hT;exact U.keep ((h5.block V (zb e)).trans e) (by
   intro S;simp only [List.mem_cons,List.not_mem_nil,or_false] at hT S;rcases hT with rfl | rfl | rfl
   ·exact absurd S (by decide)
   ·exact absurd S (by decide)
   ·exact absurd S (by decide))
theorem Mem.grown {w D X Y:World}{R E K:Nat}{room:Int}{J:LsP}{S:Mm}{n:Nat}(h:Mem w D X R E K room J S n)(V:E < D.heap.size){row:Option Nat}(A:X.grownBy Y row)(hr:∀ r,row=some r→D.heap.size≤r∧∃ o:Obj,X.heap[r]?=some o∧o.isCells=false):Mem w D Y R E K room J S n:=by
 refine⟨⟨A.os.trans h.turn.os,A.tape.trans h.turn.tape,A.output.trans h.turn.output,Nat.le_trans h.turn.size A.size,fun j Q=>?_⟩,?_⟩
 ·rw [A.block j (Nat.lt_of_lt_of_le Q h.turn.size) (fun e=>by have:=(hr j e.symm).1;omega)];exact h.turn.block j Q
 ·obtain⟨L,H,I,h1,h2,U⟩:=h.mem;exact⟨L,H,I,h1.grown A (fun r e=>⟨by have:=(hr r e).1;omega,(hr r e).2⟩),h2,U⟩
theorem CS.remembered {R w w1 w':World}{O A H:Nat→Prop}{cb nb X Q nm I S:Nat}{C:Array Value}{d:Dk}{room:Int}{pr K:Mm}{k n:Nat}{m:Ms Nt}{W:LsP}(h:CS R w O A H cb nb X Q nm C d room pr m k)(U:∀ b,H b→R.heap.size≤b)(J:Below w.heap.size w w1)(D:∀ b,exP Q I S W b→H b)(hm:Mem w w1 w' Q I S room W K n):
  zg H [LkP] w w'∧CS R w' O A (Ext H w w') cb nb X Q nm C d room K m k:=by
 have s1:=J.size;have s2:=hm.turn.size;have E:zg H [LkP] w w':=(zg.of_below J).trans (hm.turn.mono (fun b r=> .inl (D b r)) (fun _ h=>h));have V:=E.size;refine⟨E,h.base.trans (E.below U h.base.size),h.own,h.apart,?_,h.disk.stay E (by decide) (by decide),h.net.turn E (by decide) (by decide) (by decide),h.st,h.few,E.keep h.cli (by decide),h.cells,?_,?_,h.nee.stay E (fun b I e=>h.away b e (.inr I)) (by decide) (by decide) (fun _ h=>h),h.short⟩
 ·rintro b (r | r | r | r)
  ·exact Nat.lt_of_lt_of_le (h.lt b (.inl r)) V
  ·exact Nat.lt_of_lt_of_le (h.lt b (.inr (.inl r))) V
  ·exact Nat.lt_of_lt_of_le (h.lt b (.inr (.inr r))) V
  ·exact r.2
 ·obtain⟨L,nx,pv,h1,h2,h3,-⟩:=hm.mem;refine⟨L,⟨I,S,nx,pv,⟨.inl (D _ (.inl rfl)),.inl (D _ (.inr (.inl rfl))),.inl (D _ (.inr (.inr (.inl rfl)))),fun x Z=>?_⟩,h1.mem,h1.ring,h1.map,h1.ok⟩,h2.mono fun a _ b hr=>hr.turn E (by decide)⟩;rcases h3 x Z with Y | Y
  ·exact .inl (D _ (.inr (.inr (.inr Y))))
  ·exact .inr ⟨by omega,zb (h1.ring.link x Z)⟩
 ·rintro b (r | r) e
  ·exact h.away b r e
  ·have:=h.lt b (e.imp id .inl);omega
theorem zr0 {F:Fence}{n:Nat}{P:Program}{r:Array Oper}{Q:Exit→Act→World→Prop}{E:Region.Mode}(I:Array Bool→Act→World→Prop)
  (hI:∀ listed a w,I listed a w→(Region.ready E r listed=[]→Q .normal a w)∧∀ i∈Region.ready E r listed,wpOpIn F n P r Q i (I (listed.setIfInBounds i true)) a w) :
  ∀(D:Nat) (listed:Array Bool) (a:Act) (w:World),listed.toList.count false≤D→I listed a w→wpAnyIn F n P E r Q D listed a w:=by
 intro D
 induction D with
 | zero =>
  intro listed a w L h;have hr:Region.ready E r listed=[]:=by
   cases hr:Region.ready E r listed with
   | nil=>rfl
   | cons i l =>
    exfalso;have A:=(mem_ready.1 (by rw [hr];exact List.mem_cons_self:i∈Region.ready E r listed)).1;rw [Array.getD_eq_getD_getElem?] at A;cases e:listed[i]? with
    | none=>rw [e] at A;cases A
    | some b =>
     rw [e] at A;obtain rfl:b=false:=A;have hm:false∈listed.toList:=Array.mem_toList_iff.2 (Array.mem_of_getElem? e);have:=List.count_pos_iff.2 hm;omega
  exact⟨hr,(hI _ _ _ h).1 hr⟩
 | succ D ih =>
  intro listed a w L h;refine⟨(hI _ _ _ h).1,fun i A=>wpOpIn_mono (fun J w' K=>ih _ J w' ?_ K) ((hI _ _ _ h).2 i A)⟩;have A:=(mem_ready.1 A).1;rw [Array.getD_eq_getD_getElem?] at A;cases e:listed[i]? with
  | none=>rw [e] at A;cases A
  | some b =>
   rw [e] at A;obtain rfl:b=false:=A;obtain⟨h1,h2⟩:=Array.getElem?_eq_some_iff.1 e;have H:(listed.setIfInBounds i true).toList=listed.toList.set i true:=by simp
   rw [H];have:∀(l:List Bool) (i:Nat),l[i]?=some false→(l.set i true).count false+1=l.count false:=by
    intro l
    induction l with
    | nil=>intro i h;simp at h
    | cons x l ihl =>
     intro i h;cases i with
     | zero =>
      simp only [List.getElem?_cons_zero,Option.some.injEq] at h;subst h;simp
     | succ i =>
      simp only [List.getElem?_cons_succ] at h;have:=ihl i h;simp only [List.set_cons_succ,List.count_cons];omega
   have:=this listed.toList i (by simpa using e);omega
theorem zjk (W0:World)(O A OP:Nat→Prop)(cb nb db pm nm:Nat)(C:Array Value)(d:Dk)(room:Int)(pr:Mm)(k:Nat)(m:Ms Nt)(w:World)(aM:pr.length≤100000000000)(aL:∀ b,OP b→W0.heap.size≤b)(ag:CS W0 w O A OP cb nb db pm nm C d room pr m k):
  Calls Tryz.prog 98 #[zo cb] w fun r w'=>r= .returned (.tuple #[])∧zg OP [LkP] w w'∧CS W0 w' O A (Ext OP w w') cb nb db pm nm C d room (zx room pr m.needed) m k:=by
 obtain⟨LN,ai,ae,bf⟩:=ag.nee;obtain⟨aF,aE,aP,aR,ai⟩:=ai;obtain⟨LP,aj,aN⟩:=ag.prv;obtain⟨hb,eb,nx,pv,aj,aG⟩:=aj.exact;have af:=za ai;have ac:=za ae;have a6:=za aj;have ao:=za aN;have a1:=za aG;have S:=za ag;have a9:=za aM;have a7:=za aL;clear ai ae bf aj aN aG ag aM aL;unfold zo;refine(callsIn_wide (n:=9)).1 ?_;refine callsIn_of_wp_marks Tryz.func98 rfl trivial ?_ rfl;simp only [Tryz.ntmps98,List.size_toArray,List.length_cons,List.length_nil,Nat.reduceAdd,Nat.reduceSub,Array.replicate_succ,Array.replicate_zero,List.push_toArray,List.append_toArray,List.nil_append,List.cons_append];have aX:(w.alloc (.cells #[.pointer (some ⟨cb,0,none⟩)] 52)).cell? ⟨cb,14,none⟩=some (.pointer (some ⟨nm,0,none⟩)):=by
  rw [zl _ _ ⟨cb,14,none⟩ (zb S.o.cli)];exact(zf S.o.cli 14 _ S.o.cells.nee).1
 have ak:=za (fun w=>z35 nm w);unfold zo at ak
 gi_wp2
 refine⟨trivial,CallsIn.mono (callsIn_wide.2 (ak.o _)) ?_⟩;rintro e w' ⟨rfl,rfl⟩
 gi_wp2
 have J:Hid (Below w.heap.size w ((w.alloc (.cells #[.pointer (some ⟨cb,0,none⟩)] 52)).alloc (.cells #[.pointer (some ⟨nm,0,none⟩)] zm9))):=zz w _ _;have aC:Hid (((w.alloc (.cells #[.pointer (some ⟨cb,0,none⟩)] 52)).alloc (.cells #[.pointer (some ⟨nm,0,none⟩)] zm9)).heap[w.heap.size]?=some (.cells #[.pointer (some ⟨cb,0,none⟩)] 52 (0,0))):=zc (heap_alloc_last _ _);have aD:Hid (((w.alloc (.cells #[.pointer (some ⟨cb,0,none⟩)] 52)).alloc (.cells #[.pointer (some ⟨nm,0,none⟩)] zm9)).heap[w.heap.size+1]?=some (.cells #[zo nm] zm9 (0,0))):=by
  have:=heap_alloc_last (w.alloc (.cells #[.pointer (some ⟨cb,0,none⟩)] 52)) (.cells #[.pointer (some ⟨nm,0,none⟩)] zm9);rw [show(w.alloc (.cells #[.pointer (some ⟨cb,0,none⟩)] 52)).heap.size=w.heap.size+1 by simp] at this;exact this
 have aW:Hid (((w.alloc (.cells #[.pointer (some ⟨cb,0,none⟩)] 52)).alloc (.cells #[.pointer (some ⟨nm,0,none⟩)] zm9)).heap.size=w.heap.size+2):=by show _=_;simp
 clear aX ak;generalize (w.alloc (.cells #[.pointer (some ⟨cb,0,none⟩)] 52)).alloc (.cells #[.pointer (some ⟨nm,0,none⟩)] zm9)=w1 at *
 have a5:Hid (zix w1 A nm aF aE aP aR zbh LN):=by
  have hM:=af.o;have hc:∀(k:Nat) (c:Array Value) (t:TypeId) (x:Nat×Nat),w.heap[k]?=some (.cells c t x)→w1.heap[k]?=some (.cells c t x):=fun k c t x e=>(J.o.block k (zb e)).trans e;exact⟨hM.own,hc _ _ _ _ hM.mem,⟨hc _ _ _ _ hM.ring.ends,fun x hx=>hc _ _ _ _ (hM.ring.link x hx),hM.ring.circ⟩,hM.map.same (J.o.block _ hM.map.lt),hM.ok⟩
 have aa:Hid (zbu w1 (exP pm hb eb LP) pm hb eb nx pv room LP):=by
  refine zbu.grown a6.o (row:=none) ⟨J.o.os,J.o.tape,J.o.output,J.o.size,fun k hk _=>J.o.block k hk⟩ (fun r e=>by cases e)
 have ax:hb < w1.heap.size:=aa.o.map.lt;refine wpIn_rangeFunc_ownH (F:=Fence.wide) rfl (by omega) (gf:=192) (lb:=#[.pointer (some ⟨w.heap.size+1,0,none⟩)]) rfl trivial (enters_of Tryz.func192 (by kernel_rfl) rfl)
  (zwn 8 (by omega) (w.heap.size+1) nm aF aE aP aR zbh A LN w1 aD.o a5.o) z83 yag (Below.refl _ _) (fun _=>rfl)
  (fun U W=>Mem w w1 W pm hb eb room LP (zx room pr (U.map fun i=>zoj m.needed i.val)) (LP.length+U.length))
  (fun _ _ _=>False) ?hI (fun _ _ _ _ _ hs _ _=>hs) ?h0
  (fun x a' W=>∃ Z a,LN[x].2.2= .pointer a∧W.heap[Z]?=some (.cells #[.int .i64 LN[x].2.1.1,.int .i64 LN[x].2.1.2.1,.int .i64 LN[x].2.1.2.2] 99 (0,0))∧a'={ tmps:=#[.pointer (some ⟨cb,0,none⟩),.pointer (some ⟨w.heap.size,0,none⟩),.pointer (some ⟨Z,0,none⟩),.pointer a,.pointer (some ⟨cb,0,none⟩),.pointer (some ⟨cb,0,none⟩),.pointer (some ⟨cb,14,none⟩),.pointer (some ⟨nm,0,none⟩),.func (.func 192) #[] #[.pointer (some ⟨w.heap.size+1,0,none⟩)],plV LN[x].2.1,.pointer a,undef,undef,undef,undef,undef,undef,undef,undef,undef,undef],defers:=[] })
  ?hAx ?assign ?body ?done ?stop
 case hI =>
  intro s X Y row hs hg hr;exact hs.grown ax hg hr
 case h0 =>
  refine⟨zg.refl _ _ _,LP,nx,pv,aa.o,?_,fun x hx=> .inl (List.mem_map_of_mem hx),by simp⟩;exact ao.o
 case hAx =>
  rintro x a' s X Y row ⟨Z,a,h1,h2,h3⟩ hg hr;refine⟨Z,a,h1,?_,h3⟩;rw [hg.block Z (zb h2) (fun e=>by
   obtain⟨-,o,Q,hc⟩:=hr Z e.symm;rw [h2] at Q;simp only [Option.some.injEq] at Q;subst Q;simp [Obj.isCells] at hc)]
  exact h2
 case assign =>
  rintro l U x W K hi I;obtain⟨a,H⟩:=(af.o.ok LN[x] (List.getElem_mem _)).2;unfold z26 plV;rw [H]
  gi_wp2
  exact I _ _ (zll (ze W _)) (z0y (ze W _)) (hi.below (ze W _)) ⟨W.heap.size,a,H,heap_alloc_last _ _,rfl⟩
 case body =>
  rintro l U x a' W hl ⟨r,hr⟩ hi ⟨Z,a,H,hp,rfl⟩ bd;have a0:x.val < m.needed.length:=by rw [← ac.o.len];exact x.isLt
  have hrel:=ac.o.at x.val x.isLt a0;obtain⟨ad,fb,xs,aI,hA,hf,ah,av⟩:=hrel;have bb:a=some ⟨fb,0,none⟩:=by
   have:LN[x].2.2=zo fb:=aI;rw [H] at this;unfold zo at this
   injection this
  subst bb;have aA:=za (af.o.ok LN[x] (List.getElem_mem _)).1;have aJ:LN[x].2.1=m.needed[x.val].1:=ad;clear ad;generalize LN[x].2.1=P at *
  have ad:=aJ;clear aJ;clear aI H;have aH:zn w1 fb xs:=(J.o.block _ (zb hf)).trans hf;have au:zn W fb xs:=hi.turn.keep aH (by decide);have aq:W.heap[w.heap.size]?=some (.cells #[.pointer (some ⟨cb,0,none⟩)] 52 (0,0)):=hi.turn.keep aC.o (by decide);have ar:W.heap[cb]?=some (.cells C qh (0,0)):=hi.turn.keep ((J.o.block _ (zb S.o.cli)).trans S.o.cli) (by decide);have HI:=za hi;have HF:=za hf;have a2:=za ah;have aS:=za av;have aU:=za au;have al:=za aq;have am:=za ar;have ap:=za hp;have ae:zoj m.needed x.val=m.needed[x.val]:=by
   unfold zoj;rw [List.getD_eq_getElem?_getD,List.getElem?_eq_getElem a0];rfl
  have an:Hid (P=(zoj m.needed x.val).1∧j9 w xs (zoj m.needed x.val).2):=by
   rw [ae];exact⟨ad,av⟩
  have q0:W.cell? ⟨w.heap.size,0,none⟩=some (.pointer (some ⟨cb,0,none⟩)):=(zf aq 0 _ rfl).1;have q1:W.cell? ⟨cb,13,none⟩=some (.pointer (some ⟨pm,0,none⟩)):=(zf ar 13 _ S.o.cells.prv).1;have q2:W.cell? ⟨Z,0,none⟩=some (.int .i64 P.1):=(zf hp 0 _ rfl).1;have q3:W.cell? ⟨Z,1,none⟩=some (.int .i64 P.2.1):=(zf hp 1 _ rfl).1;have q4:W.cell? ⟨Z,2,none⟩=some (.int .i64 P.2.2):=(zf hp 2 _ rfl).1;have bg:(zo9 (.pointer (some ⟨fb,0,none⟩))).run Tryz.prog W.drew= .ok (.agg (fcs xs).toArray) W.drew:=zad (w:=W.drew) (y9 (w:=W.drew) au) ah.len;have bc:Tryz.prog.follows Departure.mixedOrders=true:=by kernel_rfl
  have a3:=za (zu1 xs ah W.drew);have a4:Hid (LP.length+U.length≤1000000000000):=by
   have h1:=ao.o.len;have h2:=a9.o;have h3:=S.o.short;have h4:=ac.o.len;show _≤_;omega
  obtain⟨L,aO,aQ,hm,az,hL,hn⟩:=hi.mem;have HM:=za hm;have aV:=za az;have HL:=za hL;have HN:=za hn;have aB:Hid (∀ w5,Below W.heap.size W w5→Calls Tryz.prog 144 #[zo pm,plV P,.agg (fcs (zu0 xs)).toArray] w5 fun r w'=>r= .returned (.tuple #[])∧Mem w w1 w' pm hb eb room LP (zx room pr ((U++[x]).map fun i=>zoj m.needed i.val)) (LP.length+(U++[x]).length)∧KeepsFrom w1.heap.size W w'∧KpN W w'):=by
   intro w5 E;have aK:zbu w5 (exP pm hb eb L) pm hb eb aO aQ room L:=hm.grown (row:=none) ⟨E.os,E.tape,E.output,E.size,fun k hk _=>E.block k hk⟩ (fun r e=>by cases e);have aw:=z8k a2.o;refine(zw6 pm hb eb aO aQ room L P aA.o (fcs (zu0 xs)) aw.len (jp aw.2) w5 aK (by have:=a4.o;omega)).mono ?_;rintro r w6 ⟨rfl,ht,bi,bj,bk,h1,h2,be⟩;have:=HI.o.put E aK az hL hn ht aw (z69 an.o.2) ⟨h1,h2⟩ be ax ⟨zb aa.o.mem,zb aa.o.ring.ends⟩;refine⟨rfl,?_,this.2⟩;rw [List.map_append,List.map_cons,List.map_nil,zoc,← an.o.1];have h3:=this.1;rw [Nat.add_assoc] at h3;simpa using h3
  have a8:Hid (∀ w5,Below W.heap.size W w5→w5.cell? ⟨cb,13,none⟩=some (.pointer (some ⟨pm,0,none⟩))∧w5.cell? ⟨w.heap.size,0,none⟩=some (.pointer (some ⟨cb,0,none⟩))∧w5.cell? ⟨Z,0,none⟩=some (.int .i64 P.1)∧w5.cell? ⟨Z,1,none⟩=some (.int .i64 P.2.1)∧w5.cell? ⟨Z,2,none⟩=some (.int .i64 P.2.2)):=by
   intro w5 E;have ay:=(E.block _ (zb ap.o)).trans ap.o;exact⟨(zf ((E.block _ (zb am.o)).trans am.o) 13 _ S.o.cells.prv).1,(zf ((E.block _ (zb al.o)).trans al.o) 0 _ rfl).1,(zf ay 0 _ rfl).1,(zf ay 1 _ rfl).1,(zf ay 2 _ rfl).1⟩
  unfold zo at aB;unfold zo at a3;clear hf ah av aH au aq ar hp hi ae ad hA hm az hL hn HM aV HL HN an aU al am ap HF a2 aS HI a4 aA a5 aa af ac a6 ao a1 S a9 a7 J aC aD aW bd a0
  gi_wp2
  refine wpIn_region_any bc ?_;change wpAnyIn _ _ _ _ _ _ _ _ _ (World.drew _);refine zr0 (fun listed a w'=>(∃ l0 l1 l2 l3 l4 l5 l6 l7 V:Bool,listed=#[l0,l1,l2,l3,l4,l5,l6,l7,V,false]∧(l1=true→l0=true)∧(l2=true→l1=true)∧(l3=true→l2=true)∧(l6=true→l5=true)∧(l7=true→l6=true)∧(V=true→l7=true)∧(V=false∧w'=W.drew∨V=true∧Below W.heap.size W w') ∧
   a={ tmps:=#[.pointer (some ⟨cb,0,none⟩),.pointer (some ⟨w.heap.size,0,none⟩),.pointer (some ⟨Z,0,none⟩),.pointer (some ⟨fb,0,none⟩),.pointer (some ⟨cb,0,none⟩),.pointer (some ⟨cb,0,none⟩),.pointer (some ⟨cb,14,none⟩),.pointer (some ⟨nm,0,none⟩),.func (.func 192) #[] #[.pointer (some ⟨w.heap.size+1,0,none⟩)],plV P,.pointer (some ⟨fb,0,none⟩),
    bif l0 then .pointer (some ⟨cb,0,none⟩) else undef,bif l1 then .pointer (some ⟨cb,0,none⟩) else undef,bif l2 then .pointer (some ⟨cb,13,none⟩) else undef,bif l3 then .pointer (some ⟨pm,0,none⟩) else undef,bif l4 then plV P else undef,bif l5 then .pointer (some ⟨fb,0,none⟩) else undef,bif l6 then .pointer (some ⟨fb,0,none⟩) else undef,bif l7 then .agg (fcs xs).toArray else undef,bif V then .agg (fcs (zu0 xs)).toArray else undef,undef],defers:=[] }) ∨
   (listed=Array.replicate 10 true∧KeepsFrom w1.heap.size W w'∧KpN W w'∧Mem w w1 w' pm hb eb room LP (zx room pr ((U++[x]).map fun i=>zoj m.needed i.val)) (LP.length+(U++[x]).length))) ?_ _ _ _ _ (by decide) (.inl ⟨false,false,false,false,false,false,false,false,false,rfl,by decide,by decide,by decide,by decide,by decide,by decide,.inl ⟨rfl,rfl⟩,rfl⟩)
  rintro listed a w' (⟨l0,l1,l2,l3,l4,l5,l6,l7,V,rfl,d1,d2,d3,d6,d7,d8,hw,rfl⟩ | ⟨rfl,h1,h2,h3⟩)
  ·refine⟨fun hr=>?_,fun i hi=>?_⟩
   ·exfalso;have R:∀ i,i∉Region.ready _ _ _:=fun i=>by rw [hr];exact List.not_mem_nil
    obtain rfl:l0=true:=by
     cases l0 with
     | true=>rfl
     | false=>exact absurd (mem_ready.2 ⟨rfl,_,rfl,by simp⟩) (R 0)
    obtain rfl:l1=true:=by
     cases l1 with
     | true=>rfl
     | false=>exact absurd (mem_ready.2 ⟨rfl,_,rfl,by simp⟩) (R 1)
    obtain rfl:l2=true:=by
     cases l2 with
     | true=>rfl
     | false=>exact absurd (mem_ready.2 ⟨rfl,_,rfl,by simp⟩) (R 2)
    obtain rfl:l3=true:=by
     cases l3 with
     | true=>rfl
     | false=>exact absurd (mem_ready.2 ⟨rfl,_,rfl,by simp⟩) (R 3)
    obtain rfl:l4=true:=by
     cases l4 with
     | true=>rfl
     | false=>exact absurd (mem_ready.2 ⟨rfl,_,rfl,by simp⟩) (R 4)
    obtain rfl:l5=true:=by
     cases l5 with
     | true=>rfl
     | false=>exact absurd (mem_ready.2 ⟨rfl,_,rfl,by simp⟩) (R 5)
    obtain rfl:l6=true:=by
     cases l6 with
     | true=>rfl
     | false=>exact absurd (mem_ready.2 ⟨rfl,_,rfl,by simp⟩) (R 6)
    obtain rfl:l7=true:=by
     cases l7 with
     | true=>rfl
     | false=>exact absurd (mem_ready.2 ⟨rfl,_,rfl,by simp⟩) (R 7)
    obtain rfl:V=true:=by
     cases V with
     | true=>rfl
     | false=>exact absurd (mem_ready.2 ⟨rfl,_,rfl,by simp⟩) (R 8)
    exact absurd (mem_ready.2 ⟨rfl,_,rfl,by simp⟩) (R 9)
   ·have bh:i < 10:=by
     obtain⟨-,o,Q,-⟩:=mem_ready.1 hi;exact(Array.getElem?_eq_some_iff.1 Q).1
    have HC:Hid (w'.cell? ⟨cb,13,none⟩=some (.pointer (some ⟨pm,0,none⟩))∧w'.cell? ⟨w.heap.size,0,none⟩=some (.pointer (some ⟨cb,0,none⟩))∧w'.cell? ⟨Z,0,none⟩=some (.int .i64 P.1)∧w'.cell? ⟨Z,1,none⟩=some (.int .i64 P.2.1)∧w'.cell? ⟨Z,2,none⟩=some (.int .i64 P.2.2)):=by
     rcases hw with ⟨-,rfl⟩ | ⟨-,E⟩
     ·exact a8.o _ (qa (Below.refl _ _))
     ·exact a8.o _ E
    obtain⟨q1,q0,q2,q3,q4⟩:=HC.o;obtain⟨hu,o,Q,H⟩:=mem_ready.1 hi;clear hi;rcases(show i=0∨i=1∨i=2∨i=3∨i=4∨i=5∨i=6∨i=7∨i=8∨i=9 by omega) with rfl | rfl | rfl | rfl | rfl | rfl | rfl | rfl | rfl | rfl
    ·obtain rfl:l0=false:=hu;clear Q H;refine wpOpIn_step rfl (fun K I=>?_);go_simp;refine I _ _ (.inl ⟨true,l1,l2,l3,l4,l5,l6,l7,V,rfl,fun _=>rfl,d2,d3,d6,d7,d8,hw,rfl⟩)
    ·obtain rfl:l1=false:=hu;obtain rfl:=Option.some.inj Q;obtain rfl:l0=true:=H ⟨0,.data⟩ (by simp) rfl;clear Q H;refine wpOpIn_step rfl (fun K I=>?_);go_simp;refine I _ _ (.inl ⟨true,true,l2,l3,l4,l5,l6,l7,V,rfl,fun _=>rfl,fun _=>rfl,d3,d6,d7,d8,hw,rfl⟩)
    ·obtain rfl:l2=false:=hu;obtain rfl:=Option.some.inj Q;obtain rfl:l1=true:=H ⟨1,.data⟩ (by simp) rfl;obtain rfl:=d1 rfl;clear Q H;refine wpOpIn_step rfl (fun K I=>?_);go_simp;refine I _ _ (.inl ⟨true,true,true,l3,l4,l5,l6,l7,V,rfl,d1,fun _=>rfl,fun _=>rfl,d6,d7,d8,hw,rfl⟩)
    ·obtain rfl:l3=false:=hu;obtain rfl:=Option.some.inj Q;obtain rfl:l2=true:=H ⟨2,.data⟩ (by simp) rfl;obtain rfl:=d2 rfl;obtain rfl:=d1 rfl;clear Q H;refine wpOpIn_step rfl (fun K I=>?_);go_simp;refine I _ _ (.inl ⟨true,true,true,true,l4,l5,l6,l7,V,rfl,d1,d2,fun _=>rfl,d6,d7,d8,hw,rfl⟩)
    ·obtain rfl:l4=false:=hu;clear Q H;refine wpOpIn_step rfl (fun K I=>?_);go_simp;refine I _ _ (.inl ⟨l0,l1,l2,l3,true,l5,l6,l7,V,rfl,d1,d2,d3,d6,d7,d8,hw,rfl⟩)
    ·obtain rfl:l5=false:=hu;clear Q H;refine wpOpIn_step rfl (fun K I=>?_);go_simp;refine I _ _ (.inl ⟨l0,l1,l2,l3,l4,true,l6,l7,V,rfl,d1,d2,d3,fun _=>rfl,d7,d8,hw,rfl⟩)
    ·obtain rfl:l6=false:=hu;obtain rfl:=Option.some.inj Q;obtain rfl:l5=true:=H ⟨5,.data⟩ (by simp) rfl;clear Q H;refine wpOpIn_step rfl (fun K I=>?_);go_simp;refine I _ _ (.inl ⟨l0,l1,l2,l3,l4,true,true,l7,V,rfl,d1,d2,d3,fun _=>rfl,fun _=>rfl,d8,hw,rfl⟩)
    ·obtain rfl:l7=false:=hu;obtain rfl:=Option.some.inj Q;obtain rfl:l6=true:=H ⟨6,.data⟩ (by simp) rfl;obtain rfl:=d6 rfl;clear Q H;obtain rfl:w'=W.drew:=by
      rcases hw with ⟨-,h⟩ | ⟨h,-⟩
      ·exact h
      ·exact absurd (d8 h) (by decide)
     refine wpOpIn_step rfl (fun K I=>?_);go_simp;refine I _ _ (.inl ⟨l0,l1,l2,l3,l4,true,true,true,V,rfl,d1,d2,d3,d6,fun _=>rfl,fun _=>rfl,hw,rfl⟩)
    ·obtain rfl:V=false:=hu;obtain rfl:=Option.some.inj Q;obtain rfl:l7=true:=H ⟨7,.data⟩ (by simp) rfl;obtain rfl:=d7 rfl;obtain rfl:=d6 rfl;clear Q H;obtain rfl:w'=W.drew:=by
      rcases hw with ⟨-,h⟩ | ⟨h,-⟩
      ·exact h
      ·exact absurd h (by decide)
     refine wpOpIn_step rfl (fun K I=>?_);go_simp;refine⟨trivial,CallsIn.mono (CallsIn.inRound l (callsIn_wide.2 a3.o)) ?_⟩;rintro e w5 ⟨rfl,E⟩;exact I _ _ (.inl ⟨l0,l1,l2,l3,l4,true,true,true,true,rfl,d1,d2,d3,fun _=>rfl,fun _=>rfl,fun _=>rfl,.inr ⟨rfl,qa E⟩,rfl⟩)
    ·obtain rfl:=Option.some.inj Q;obtain rfl:l3=true:=H ⟨3,.data⟩ (by simp) rfl;obtain rfl:l4=true:=H ⟨4,.data⟩ (by simp) rfl;obtain rfl:V=true:=H ⟨8,.data⟩ (by simp) rfl;clear Q H;obtain rfl:=d8 rfl;obtain rfl:=d7 rfl;obtain rfl:=d6 rfl;obtain rfl:=d3 rfl;obtain rfl:=d2 rfl;obtain rfl:=d1 rfl;refine wpOpIn_step rfl (fun K I=>?_);go_simp;have E:Below W.heap.size W w':=by
      rcases hw with ⟨h,-⟩ | ⟨-,h⟩
      ·exact absurd h (by decide)
      ·exact h
     refine⟨trivial,CallsIn.mono (CallsIn.inRound l (callsIn_wide.2 (aB.o w' E))) ?_⟩;rintro e w6 ⟨rfl,aZ,aY,ba⟩;exact I _ _ (.inr ⟨rfl,aY,ba,aZ⟩)
  ·refine⟨fun _=>⟨h1,h2,h3⟩,fun i hi=>?_⟩;exfalso;obtain⟨hu,-⟩:=mem_ready.1 hi;simp only [Array.getD_eq_getD_getElem?,Array.getElem?_replicate] at hu
   split at hu<;>simp at hu
 case done =>
  rintro D ys W hD hS hi I
  gi_wp2
  refine⟨by simp,.inl ⟨_,_,rfl,run_takeDeferred I,?_⟩⟩;refine⟨_,results_none rfl _ _ _,rfl,?_⟩;have h9:=hi.grown ax (grownBy_putObj' W D (.deferred none)) (fun r e=>by cases e;exact⟨hD,_,I,rfl⟩);have e:(ys.map fun i=>zoj m.needed i.val)=m.needed:=by
   have e1:=z9a m.needed (xs:=ys.map Fin.val) (by rw [hS,ac.o.len]);rw [List.map_map] at e1;exact e1
  rw [e] at h9;exact S.o.remembered a7.o J.o a1.o h9
 case stop =>
  rintro D c U W _ _ h _;exact h.elim
end
end Go.Proofs.YtndkblnpbjffhaaGreatDoor
