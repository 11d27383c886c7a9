import Derived.Test.YtndkblnpbjffhaaGreatDoorG37
set_option maxHeartbeats 4000000
set_option maxRecDepth 100000
open Go.RowKit
namespace Go.Proofs.YtndkblnpbjffhaaGreatDoor
section
attribute [local go_sem ↓] yv yl yy yo yj ym yx yk
abbrev yai (D:World)(O:Nat→Prop)(cb I H J nm:Nat)(C:Array Value)(d:Dk)(room:Int):Prop :=
 ∀(A h:Nat→Prop) (E:Mm) (k:Nat) (m:Ms Nt) (w:World),E.length≤100000000000→(∀ b,h b→D.heap.size≤b)→CS D w O A h cb I H J nm C d room E m k →
  Calls Tryz.prog 98 #[zo cb] w fun r w'=>r= .returned (.tuple #[])∧zg h [LkP] w w'∧CS D w' O A (Ext h w w') cb I H J nm C d room (zx room E m.needed) m k
structure zjo (C:Array Value)(size:Nat)(root:List UInt8):Prop where
 sz:C[4]?=some (.int .i64 size)
 rt:∀ j v,(root.map bv)[j]?=some v→C[5+j]?=some v
 r8:root.length=8
structure Out (W0 w w':World)(O A OP:Nat→Prop)(cb nb db pm nm:Nat)(C:Array Value)(d:Dk)(room:Int)(pr:Mm)(n:Nt)(k:Nat)(P:(Nat→Prop)→Prop):Prop where
 turn:zg (fun b=>O b∨A b∨OP b) clT w w'
 cs:∃ A' OP',ve A A' w w'∧ve OP OP' w w'∧CS W0 w' O A' OP' cb nb db pm nm C d room pr ⟨n,[]⟩ k∧P OP'
def zi1 (w':World)(A:Nat)(room:Int)(D:Mm)(v:Value)(r:Nat→Prop):Prop :=
 ∃ h N T,zhk h r A room D∧zg N T h w'∧(∀ k,r k→¬ N k)∧5∉T∧∀ g,v.ownBlock=some g→h.heap.size≤g
def zj7 (w':World)(A:Nat)(room:Int)(D:Mm)(r:Ending)(h:Nat→Prop):Prop :=
 ∀ x v e,r= .returned (.tuple #[x,v,e])→zi1 w' A room D x h
theorem z2l {w:World}{r:Nat→Prop}{A:Nat}{room:Int}{D:Mm}(h:zhk w r A room D):zi1 w A room D (.slice none 0 0) r :=
 ⟨w,fun _=>False,[],h,zg.refl _ _ _,fun _ _ h=>h,by simp,fun g E=>by simp [Value.ownBlock] at E⟩
theorem zf3 {w:World}{r:Nat→Prop}{D:Nat}{room:Int}{E:Mm}{v e:Value}(h:zhk w r D room E):zj7 w D room E (.returned (.tuple #[.slice none 0 0,v,e])) r:=by
 intro x I H A;simp only [Ending.returned.injEq,Value.tuple.injEq] at A;have:=congrArg (fun a:Array Value=>a[0]?) A;simp only [List.getElem?_toArray,List.getElem?_cons_zero,Option.some.injEq] at this;subst this;exact z2l h
theorem zg.apart {N G:Nat→Prop}{T T':List Nat}{a b c:World}(h:zg N T a b)(r:zg G T' b c)(D:∀ k,G k→a.heap.size≤k):zg N T a c :=
 ⟨r.os.trans h.os,r.tape.trans h.tape,r.output.trans h.output,Nat.le_trans h.size r.size,fun k A=>by
  rcases r.block k (Nat.lt_of_lt_of_le A h.size) with e | ⟨g,-⟩
  ·rw [e];exact h.block k A
  ·have:=D k g;omega⟩
theorem zi1.on {w w':World}{H:Nat}{room:Int}{I:Mm}{v:Value}{D A:Nat→Prop}{T':List Nat}(h:zi1 w H room I v D)(r:zg A T' w w')(Q:∀ k,D k→¬ A k)(hu:5∉T'):zi1 w' H room I v D:=by
 obtain⟨J,N,T,h1,h2,K,L,h5⟩:=h;refine⟨J,fun k=>N k∨A k,T++T',h1,(h2.mono (fun _ h=> .inl h) (fun t r=>by simp [r])).trans (r.mono (fun _ h=> .inl (.inr h)) (fun t r=>by simp [r])),fun k E=>?_,?_,h5⟩
 ·rintro(h | h)
  ·exact K k E h
  ·exact Q k E h
 ·simp [L,hu]
theorem zi1.clear {w w':World}{A:Nat}{room:Int}{D:Mm}{v:Value}{r G:Nat→Prop}{T':List Nat}(h:zi1 w A room D v r)(K:zg G T' w w')(I:∀ k,G k→v.ownBlock=some k):zhk w' r A room D:=by
 obtain⟨L,N,T,h1,h2,E,H,h5⟩:=h;exact h1.stay (h2.apart K fun k J=>h5 k (I k J)) E H (fun _ h=>h)
def jz (size:Nat)(root:List UInt8)(room:Int)(h:Mm):Cl:=⟨[],size,root,room,h⟩
section
variable {σ : Type} {fe : σ → List UInt8 → (List UInt8 × Bool) × σ} {inc : List UInt8 → Nat → Nat → List (List UInt8) → List UInt8 → Bool} {c : Cl} {s : σ} {i : Nat}
theorem zly {p:List UInt8}{m:Ms σ}(h:qu fe c.proved c.size ⟨s,[]⟩ (-1) i=(.inl p,m)):jd fe inc c s i=(.inl (.tile p),c,m.net):=by unfold jd;rw [h]
theorem zlq {own:Pc}{m r:Ms σ}{p:List UInt8}(h:qu fe c.proved c.size ⟨s,[]⟩ (-1) i=(.inr own,m))(h2:yh fe c.proved c.size m (xy 64 0 c.size i)=(.inl p,r)):jd fe inc c s i=(.inl (.tile p),c,r.net):=by unfold jd;rw [h];simp only [h2]
theorem zl0 {own:Pc}{m r:Ms σ}{A:List (List UInt8)}(h:qu fe c.proved c.size ⟨s,[]⟩ (-1) i=(.inr own,m))(h2:yh fe c.proved c.size m (xy 64 0 c.size i)=(.inr A,r))(D:inc own.hash i c.size A c.root=false):jd fe inc c s i=(.inl .proof,c,r.net):=by unfold jd;rw [h];simp only [h2,D,Bool.false_eq_true,if_false]
theorem zl2 {own:Pc}{m r:Ms σ}{A:List (List UInt8)}(h:qu fe c.proved c.size ⟨s,[]⟩ (-1) i=(.inr own,m))(h2:yh fe c.proved c.size m (xy 64 0 c.size i)=(.inr A,r))(D:inc own.hash i c.size A c.root=true):jd fe inc c s i=(.inr (own.entry,A),{ c with proved:=zx c.room c.proved (xt c.size r.needed i own.hash) },r.net):=by unfold jd;rw [h];simp only [h2,D,if_true]
end
theorem zb4 {r w:World}(h:Below r.heap.size r w){b o:Nat}{v:Value}(A:r.cell? ⟨b,o,none⟩=some v):w.cell? ⟨b,o,none⟩=some v:=by
 have h1:b < r.heap.size:=zk A;simp only [World.cell?] at *
 rw [h.block _ h1];exact A
theorem z0o {x:Px}(h:x.ok):x.cs.toArray[10]?=some x.ent:=by
 obtain⟨r,-⟩:=h;simp only [Px.cs,List.getElem?_toArray,List.getElem?_cons_succ];rw [List.getElem?_append_right (by simp [r])];simp [r]
theorem zcb {w:World}{B D:Nat}{e:TypeId}{s:Nat}{v:Value}{n:Nat}{xs:List Value}(h:w.ownsRow B e s v n xs)(I:D≤B):w.ownsRow D e s v n xs:=by
 obtain⟨h0,h1 | ⟨g,r,A,E,H,h2⟩⟩:=h
 ·exact⟨h0,.inl h1⟩
 ·exact⟨h0,.inr ⟨g,r,A,E,Nat.le_trans I H,h2⟩⟩
theorem zys:WfM []:=⟨List.Pairwise.nil,fun x h=>by simp at h⟩
theorem zfx {σ:Type}{fe:σ→List UInt8→(List UInt8×Bool)×σ}{E:Mm}{size:Nat}:∀ {A:List (Nat×Nat)} {m D:Ms σ} {xs:List (List UInt8)},yh fe E size m A=(.inr xs,D)→xs.length=A.length:=by
 intro A
 induction A with
 | nil =>
  intro m D xs h;simp only [yh,Prod.mk.injEq] at h;obtain⟨h,-⟩:=h;cases h;rfl
 | cons s r ih =>
  intro m D xs h;simp only [yh] at h
  split at h
  ·simp at h
  ·rename_i x H _;cases h2:yh fe E size H r with
   | mk o m2 =>
    cases o with
    | inl e =>
     rw [h2] at h;simp at h
    | inr ys =>
     rw [h2] at h;simp only [Prod.mk.injEq,Sum.inr.injEq] at h;obtain⟨rfl,-⟩:=h;simp [ih h2]
theorem jk.wd {σ:Type}{fe:σ→List UInt8→(List UInt8×Bool)×σ}{proved:Mm}{size:Nat}{m D:Ms σ}{A:List (Pl×Nat)}(h:jk fe proved size m A D):∀ q∈A,1≤q.1.2.2:=by
 induction h using jk.ind with
 | nil m=>intro q r;simp at r
 | cons hj e _ ih =>
  intro q r;rcases List.mem_cons.1 r with rfl | r
  ·unfold zj;simp only;omega
  ·exact ih q r
theorem jk.wdN {σ:Type}{fe:σ→List UInt8→(List UInt8×Bool)×σ}{proved:Mm}{size:Nat}{m A:Ms σ}{J:List (Pl×Nat)}(h:jk fe proved size m J A)(E:WfM proved)(hm:m.needed=[]):WdN A.needed:=by
 intro x I;rcases h.keys E (by rw [hm];exact zys) x I with ⟨y,r,-⟩ | ⟨q,H,D⟩
 ·rw [hm] at r;simp at r
 ·rw [← D];exact h.wd q H
theorem zxg {σ:Type}{fe:σ→List UInt8→(List UInt8×Bool)×σ}{A:Mm}{size i:Nat}{n:σ}{c:Pc}{H r:Ms σ}{L:List (List UInt8)}(Q:size < 9223372036854775808)(J:i < size)(h:WfM A)(K:qu fe A size ⟨n,[]⟩ (-1) i=(.inr c,H))(hr:yh fe A size H (xy 64 0 size i)=(.inr L,r)):WdN r.needed∧(r.needed.get (zj size (-1) i)).isSome=true:=by
 have E:jk fe A size ⟨n,[]⟩ _ r:=jk.cons (by simpa [yd] using J) K (zil (by omega) _ _ _ _ (fun s D=>by have:=zfg 64 0 size i (by omega) s D;omega) hr);refine⟨E.wdN h rfl,?_⟩;obtain⟨f,I,-⟩:=(E.has h zys).1 (zj size (-1) i,i % 4) (by simp);exact Option.isSome_iff_exists.2 ⟨f,I⟩
theorem zf7 {S w V J:World}{O A H K r:Nat→Prop}{cb Z U Q nm:Nat}{C:Array Value}{d:Dk}{room:Int}{R:Mm}{m:Ms Nt}{k Y:Nat}(ht:zg (fun b=>O b∨A b∨K b) clT w V)(L:ve A H w V)(W:ve K r w V)(X:CS S V O H r cb Z U Q nm C d room R m Y)(E:zg H [LkN] V J)(I:zab J H nm zbh [])(hk:k≤Y){P:(Nat→Prop)→Prop}(hQ:zhk J r Q room R→P r):Out S w J O A K cb Z U Q nm C d room R m.net k P:=by
 have hs:=E.size;refine⟨?_,H,r,⟨L.1,fun b D=>(L.2 b D).imp id (fun h=>⟨h.1,by omega⟩)⟩,⟨W.1,fun b D=>(W.2 b D).imp id (fun h=>⟨h.1,by omega⟩)⟩,(X.forget E I).less hk,hQ (X.forget E I).prv⟩;refine ht.trans (E.mono (fun b D=>?_) (by decide));rcases L.2 b D with h | h
 ·exact .inl (.inr (.inl h))
 ·exact .inr h
theorem zlr {w V H:World}{O A D E:Nat→Prop}(h:zg (fun b=>O b∨A b∨E b) clT w V)(I:ve A D w V)(J:zg (fun b=>O b∨D b) qT V H):zg (fun b=>O b∨A b∨E b) clT w H:=by
 refine h.trans (J.mono (fun b r=>?_) (by decide));rcases r with r | r
 ·exact .inl (.inl r)
 ·exact(I.2 b r).imp (fun h=> .inr (.inl h)) id
theorem ve.ext {A E:Nat→Prop}{w V D:World}(h:ve A E w V)(h1:w.heap.size≤V.heap.size)(h2:V.heap.size≤D.heap.size):ve A (Ext E V D) w D:=by
 refine⟨fun b r=> .inl (h.1 b r),fun b r=>?_⟩;rcases r with r | r
 ·exact(h.2 b r).imp id (fun h=>⟨h.1,by omega⟩)
 ·exact .inr ⟨by omega,r.2⟩
theorem ve.below {A r:Nat→Prop}{w V D:World}(h:ve A r w V)(h2:V.heap.size≤D.heap.size):ve A r w D :=
 ⟨h.1,fun b E=>(h.2 b E).imp id (fun h=>⟨h.1,by omega⟩)⟩
theorem ve.refl (A:Nat→Prop)(w w':World):ve A A w w':=⟨fun _ h=>h,fun _ h=> .inl h⟩
theorem zmo (A:Nat→Prop)(w w':World):ve A (Ext A w w') w w':=⟨fun _ h=> .inl h,fun _ h=>h⟩
theorem zm5 (W0:World)(S:Nat→Addr)(O A Y:Nat→Prop)(cb nb db pm nm:Nat)(C:Array Value)(d:Dk)(room:Int)(D:Mm)(n:Nt)(k size i:Nat)(root:List UInt8)(au:size < 9223372036854775808)(hi:i < size)(hC:zjo C size root)(hE:Env W0)(hS:ja W0 S)(bz:zdq W0)(bB:yai W0 O cb nb db pm nm C d room)
  (b5:∀ c H,qu (zu d.fs) D size ⟨n,[]⟩ (-1) i=(.inr c,H)→c.entry.length≤1000000) (bA:D.length≤100000000000) (bE:WfM D) (b9:∀ b,Y b→W0.heap.size≤b) (w:World) (h:CS W0 w O A Y cb nb db pm nm C d room D ⟨n,[]⟩ (rPl size (xy 64 0 size i)+k+1)) :
  Calls Tryz.prog 110 #[zo cb,.int .i64 i] w fun r w' =>
   Out W0 w w' O A Y cb nb db pm nm C d room (jd (zu d.fs) zav (jz size root room D) n i).2.1.proved (jd (zu d.fs) zav (jz size root room D) n i).2.2 k (zj7 w' pm room (jd (zu d.fs) zav (jz size root room D) n i).2.1.proved r)∧zme S w.heap.size w' (jd (zu d.fs) zav (jz size root room D) n i).1 r:=by
 have a0:=za (zso W0 S O A Y cb nb db pm nm C d room D ⟨n,[]⟩ (rPl size (xy 64 0 size i)+k) size (-1) i au (by omega) (by omega) (by simpa [yd] using hi) w hE hS h);have HH:=za h;have HC:=za hC;have HE:=za hE;have HS:=za hS;have bT:=za bz;have bR:=za bB;have aO:=za b5;have bP:=za bA;have bM:=za b9;have bn:Hid (∀ own m E H,qu (zu d.fs) D size ⟨n,[]⟩ (-1) i=(.inr own,m)→yh (zu d.fs) D size m (xy 64 0 size i)=(.inr E,H)→WdN H.needed∧(H.needed.get (zj size (-1) i)).isSome=true):=fun own m E H e e'=>zxg au hi bE e e';have be:Hid (∀ p m,qu (zu d.fs) D size ⟨n,[]⟩ (-1) i=(.inl p,m)→jd (zu d.fs) zav (jz size root room D) n i=(.inl (.tile p),jz size root room D,m.net)):=fun p m e=>zly e;have bf:Hid (∀ own m p H,qu (zu d.fs) D size ⟨n,[]⟩ (-1) i=(.inr own,m)→yh (zu d.fs) D size m (xy 64 0 size i)=(.inl p,H)→jd (zu d.fs) zav (jz size root room D) n i=(.inl (.tile p),jz size root room D,H.net)):=fun own m p H e e'=>zlq e e';have bh:Hid (∀ own m E H,qu (zu d.fs) D size ⟨n,[]⟩ (-1) i=(.inr own,m)→yh (zu d.fs) D size m (xy 64 0 size i)=(.inr E,H)→zav own.hash i size E root=false→jd (zu d.fs) zav (jz size root room D) n i=(.inl .proof,jz size root room D,H.net)):=fun own m E H e e' aD=>zl0 e e' aD;have bk:Hid (∀ own m E H,qu (zu d.fs) D size ⟨n,[]⟩ (-1) i=(.inr own,m)→yh (zu d.fs) D size m (xy 64 0 size i)=(.inr E,H)→zav own.hash i size E root=true→jd (zu d.fs) zav (jz size root room D) n i=(.inr (own.entry,E),{ jz size root room D with proved:=zx room D (xt size H.needed i own.hash) },H.net)):=fun own m E H e e' aD=>zl2 e e' aD;have bV:w.cell? ⟨cb,14,none⟩=some (.pointer (some ⟨nm,0,none⟩)):=(zf h.cli 14 _ h.cells.nee).1;have c4:w.cell? ⟨cb,4,none⟩=some (.int .i64 size):=(zf h.cli 4 _ hC.sz).1;clear h hC hE hS bz bB b5 bA b9 bE;unfold zo at a0 ⊢;go_enter_defers Tryz.func110,Tryz.ntmps110;go_wp2_with fail;refine a0.o.mono ?_;rintro r I ⟨bD,b1,ca⟩;have a7:=za bD;have ax:=za b1;clear bD b1 a0 bV c4;generalize qu (zu d.fs) D size ⟨n,[]⟩ (-1) i=NM at *
 obtain⟨o,m1⟩:=NM;simp only at *
 have HG:Hid (∀ x:Px,x.ok→(zhj (.pointer (some ⟨I.heap.size,0,none⟩)) (.agg x.cs.toArray)).run Tryz.prog (I.alloc (.cells zby jb))= .ok () ((I.alloc (.cells zby jb)).setCells I.heap.size 0 x.cs)∧((I.alloc (.cells zby jb)).setCells I.heap.size 0 x.cs).heap[I.heap.size]?=some (.cells x.cs.toArray jb (0,0))∧Below I.heap.size I ((I.alloc (.cells zby jb)).setCells I.heap.size 0 x.cs)):=by
  intro x hx;have b7:(I.alloc (.cells zby jb)).heap[I.heap.size]?=some (.cells Px.no.cs.toArray jb (0,0)):=heap_alloc_last _ _;have bW:=ji b7 (ds:=x.cs) (by rw [Px.cs_len hx,Px.cs_len Px.no_ok]);exact⟨zb2 (qw b7) (Px.cs_len hx) (Px.cs_one hx),bW,zr (ze _ _) (Nat.le_refl _) _ _⟩
 rcases ca with ⟨x,c,rfl,aH,bF,rfl⟩ | ⟨p,g,rfl,Z,rfl⟩
 ·obtain⟨ai,ar,R⟩:=HG.o x aH;have ad:=za R;have ay:=za ar;have aq:=za aH;have bt:=za bF;have ae:=za (ax.o.below R);have bs:Hid (zg (fun b=>O b∨A b∨Y b) clT w ((I.alloc (.cells zby jb)).setCells I.heap.size 0 x.cs)):=(a7.o.mono (fun b ah=>ah.imp id .inl) (by decide)).then_below R;have aI:Hid (ve A (Ext A w I) w ((I.alloc (.cells zby jb)).setCells I.heap.size 0 x.cs)):=(zmo A w I).below R.size;have bq:=za ai;clear ar R aH bF HG a7 ax ai;generalize ch:(I.alloc (.cells zby jb)).setCells I.heap.size 0 x.cs=V1 at *
  have ai:=bq.o;have bb:=za (zxv 64 (by omega) 0 size i V1 (by omega) (by omega) (by omega) (by omega) (by omega));go_wp2_with fail;refine bb.o.mono ?_;rintro r V2 ⟨sv,rfl,U,bC⟩;have bI:=za U;have aL:=za (ae.o.below U);have ao:=za (bs.o.then_below U);have av:=za (aI.o.below U.size);have aQ:=za ((U.block _ (zb ay.o)).trans ay.o);have bu:Hid (zdd V2 x c):=zdd.turn (O:=fun _=>False) (T:=[]) (zdd.turn (O:=fun _=>False) (T:=[]) bt.o (.of_below ad.o) (by decide)) (.of_below U) (by decide);have a4:=za (zpr W0 S O (Ext A w I) Y cb nb db pm nm C d room D m1 k size au HE.o HS.o bT.o sv (xy 64 0 size i) V1.heap.size V2 bC (by have:=zaw 64 0 size i;omega) (fun s hs=>by have:=zfg 64 0 size i (by omega) s hs;omega) aL.o);clear U bC bb ay bt ae bs aI bq ai ad;unfold zo at a4;go_wp2_with fail;refine a4.o.mono ?_;rintro r w3 ⟨aj,b2,cc⟩;have a8:=za (zlr ao.o av.o aj);have aw:=za (av.o.ext ao.o.size aj.size);have bU:=za ao.o.size;have X:=za b2;have ag:=za (aj.keep aQ.o (by decide));have ap:Hid (zdd w3 x c):=zdd.turn bu.o aj (by decide);clear aj b2 a4 ao av aQ bu aL bI;have bg:Hid (∀ p H,yh (zu d.fs) D size m1 (xy 64 0 size i)=(.inl p,H)→jd (zu d.fs) zav (jz size root room D) n i=(.inl (.tile p),jz size root room D,H.net)):=fun p H e=>bf.o c m1 p H rfl e;have bi:Hid (∀ E H,yh (zu d.fs) D size m1 (xy 64 0 size i)=(.inr E,H)→zav c.hash i size E root=false→jd (zu d.fs) zav (jz size root room D) n i=(.inl .proof,jz size root room D,H.net)):=fun E H e e'=>bh.o c m1 E H rfl e e';have bl:Hid (∀ E H,yh (zu d.fs) D size m1 (xy 64 0 size i)=(.inr E,H)→zav c.hash i size E root=true→jd (zu d.fs) zav (jz size root room D) n i=(.inr (c.entry,E),{ jz size root room D with proved:=zx room D (xt size H.needed i c.hash) },H.net)):=fun E H e e'=>bk.o c m1 E H rfl e e';have bo:Hid (∀ E H,yh (zu d.fs) D size m1 (xy 64 0 size i)=(.inr E,H)→WdN H.needed∧(H.needed.get (zj size (-1) i)).isSome=true):=fun E H e=>bn.o c m1 E H rfl e;have bL:Hid (c.entry.length≤1000000):=aO.o c m1 rfl;have bc:Hid (∀ E H,yh (zu d.fs) D size m1 (xy 64 0 size i)=(.inr E,H)→E.length≤64):=fun E H e=>by
   rw [zfx e];exact zaw 64 0 size i
  clear be bf bh bk bn aO;generalize yh (zu d.fs) D size m1 (xy 64 0 size i)=RM at *
  obtain⟨o,m2⟩:=RM;simp only at *
  rcases cc with ⟨E,pv,rfl,aF,h8,rfl⟩ | ⟨p,g,rfl,Z,rfl⟩
  ·have aW:=za aF;have H8:=za h8;have bd:=za (bc.o E m2 rfl);have bp:=za (bo.o E m2 rfl);have bj:=za (bi.o E m2 rfl);have bm:=za (bl.o E m2 rfl);have an:Hid (∀ w',Below w3.heap.size w3 w'→(zaf (.pointer (some ⟨I.heap.size,2,none⟩))).run Tryz.prog w'= .ok (.agg (hv c.hash)) w'∧(zaf (.pointer (some ⟨cb,5,none⟩))).run Tryz.prog w'= .ok (.agg (hv root)) w'):=by
    intro w' hb;rw [← ap.o.hash];refine⟨qr (zna ((hb.block _ (zb ag.o)).trans ag.o)) aq.o.1,qr (fun j v hv=>?_) HC.o.r8⟩;have h1:=HC.o.rt j v hv;exact(zf ((hb.block _ (zb X.o.cli)).trans X.o.cli) (5+j) v h1).1
   have Q:Below w3.heap.size w3 w3.drew:=(Below.refl _ _).drew;have aV:=za (z7b 1001 c.hash root i size (by omega) pv E w3.drew (by have:=bd.o;omega) (by have:=bd.o;omega) (by rw [← ap.o.hash];exact aq.o.1) HC.o.r8 (Hss.of_owns (w:=w3.drew) h8 (zi (O:=fun _=>False) (T:=[]) aF (zg.refl _ _ _).drew (by decide))));clear aF h8 bc bo bg bi bl;go_wp2_with fail;go_region_held3 (fun w'=>(zaf (.pointer (some ⟨I.heap.size,2,none⟩))).run Tryz.prog w'= .ok (.agg (hv c.hash)) w'∧(zaf (.pointer (some ⟨cb,5,none⟩))).run Tryz.prog w'= .ok (.agg (hv root)) w') (exact an.o _ Q) (first
    | (go_at_call 153;refine aV.o.mono ?_;rintro r w4 ⟨rfl,b0⟩;have b8:=qa b0;clear Q b0;have Q:=b8;clear b8))
   rename_i aE;clear aE;have bJ:=za Q;have al:=za (X.o.below Q);have a9:=za (a8.o.then_below Q);have ak:=za (aw.o.below Q.size);have aR:=za ((Q.block _ (zb ag.o)).trans ag.o);have aC:Hid (zdd w4 x c):=zdd.turn (O:=fun _=>False) (T:=[]) ap.o (.of_below Q) (by decide);have aX:Hid (zbl V2.heap.size w4 pv E):=zi (O:=fun _=>False) (T:=[]) aW.o (.of_below Q) (by decide);clear Q X a8 aw ag ap aW aV;have a1:Hid (zro 1001 c.hash (i:Int) (size:Int) E root=false→jd (zu d.fs) zav (jz size root room D) n i=(.inl .proof,jz size root room D,m2.net)):=bj.o;have a2:Hid (zro 1001 c.hash (i:Int) (size:Int) E root=true→jd (zu d.fs) zav (jz size root room D) n i=(.inr (c.entry,E),{ jz size root room D with proved:=zx room D (xt size m2.needed i c.hash) },m2.net)):=bm.o;clear bj bm;generalize zro 1001 c.hash (i:Int) (size:Int) E root=B at *
   cases B with
   | false =>
    have hR:=a1.o rfl;clear a1 a2 an;have qe:w4.cell? ⟨4,0,none⟩=some (.iface 344 (.pointer (some (S 4)))):=by
     exact zb4 al.o.base HS.o.proof
    have af:=za (al.o.below (Below.refl _ w4).drew);obtain⟨L2,J⟩:=af.o.mem;have L:=za (zax .returning _ nm zbh L2 _ J);clear J;have a5:=za hR;clear hR;unfold zo at L;go_wp2_with fail;go_region_held3 (fun w'=>w'.cell? ⟨4,0,none⟩=some (.iface 344 (.pointer (some (S 4))))) (go_keep) (fail);rename_i aE;clear aE;go_wp2_with fail;refine leaves_cons (f:=73) (args:=#[.pointer (some ⟨nm,0,none⟩)]) (by simp) (by simp [go_sem]) ?_;refine L.o.mono ?_;rintro e u' w9 ⟨rfl,rfl,K,W,aG⟩;simp only [Leaves,settle];refine⟨.tuple #[.slice none 0 0,.slice none 0 0,j4 S 4],by simp [results,Tryz.results110,go_sem,j4],?_⟩;rw [a5.o];exact⟨zf7 (a9.o.then_below (Below.refl _ w4).drew) (ak.o.below (Nat.le_refl _)) (ve.refl _ _ _) af.o K W (Nat.le_refl _) zf3,.inr (.inr ⟨rfl,rfl⟩)⟩
   | true =>
    have a5:=za (a2.o rfl);clear a1 a2;have bY:=(an.o w4 bJ.o).1;have a6:=za (zlj W0 O (Ext (Ext A w I) V2 w3) Y cb nb db pm nm C d room D size k i au hi c.hash (by rw [← aC.o.hash];exact aq.o.1) m2 w4 bp.o.1 bp.o.2 al.o);unfold zo at a6;go_wp2_with fail;refine a6.o.mono ?_;rintro r w6 ⟨rfl,aa,b3⟩;have aA:Hid (zg (fun b=>O b∨A b∨Y b) clT w w6):=zlr a9.o ak.o (aa.mono (fun _ h=> .inr h) (by decide));have aJ:=za (ak.o.below aa.size);have af:=za b3;have aS:=za (aa.keep aR.o (by decide));have bw:Hid (zdd w6 x c):=zdd.turn aC.o aa (by decide);have aY:Hid (zbl V2.heap.size w6 pv E):=zi aX.o aa (by decide);clear aa b3 a6 a9 ak al aR aC aX bY an;have a3:=za (bR.o _ Y D k _ w6 bP.o bM.o af.o);unfold zo at a3;go_wp2_with fail;refine a3.o.mono ?_;rintro r w7 ⟨rfl,ac,b4⟩;have aB:Hid (zg (fun b=>O b∨A b∨Y b) clT w w7):=aA.o.trans (ac.mono (fun b h=> .inl (.inr (.inr h))) (by decide));have aK:=za (aJ.o.below ac.size);have ba:Hid (ve Y (Ext Y w6 w7) w w7):=⟨fun _ h=> .inl h,fun b hb=>hb.imp id (fun h=>⟨Nat.le_trans aA.o.size h.1,h.2⟩)⟩
    have am:=za b4;have aU:=za (ac.keep aS.o (by decide));have bx:Hid (zdd w7 x c):=zdd.turn bw.o ac (by decide);have aZ:Hid (zbl V2.heap.size w7 pv E):=zi aY.o ac (by decide);clear ac b4 a3 aA aJ af aS bw aY;have cd:w7.cell? ⟨I.heap.size,10,none⟩=some x.ent:=(zf aU.o 10 _ (z0o aq.o)).1;have aN:=za (zz4 x.ent c.entry w7 bx.o.ent bL.o);go_wp2_with fail;refine aN.o.mono ?_;rintro r w8 ⟨ev,rfl,b6,V⟩;have br:Hid (w.heap.size≤V2.heap.size∧w.heap.size≤w7.heap.size):=⟨bU.o,aB.o.size⟩
    have bS:=za (aB.o.then_below V);have bG:=za (aK.o.below V.size);have bO:=za (ba.o.below V.size);have aM:=za (am.o.below V);have aP:=za b6;have bQ:=za am.o.prv;have bH:=za am.o.away;have bK:=za V;have bN:Hid (zbl V2.heap.size w8 pv E):=zi (O:=fun _=>False) (T:=[]) aZ.o (.of_below V) (by decide);clear b6 V cd aN aB aK am aU bx aZ ba;obtain⟨L2,J⟩:=aM.o.mem;have L:=za (zax .returning _ nm zbh L2 _ J);clear J;unfold zo at L;go_wp2_with fail;refine leaves_cons (f:=73) (args:=#[.pointer (some ⟨nm,0,none⟩)]) (by simp) (by simp [go_sem]) ?_;refine L.o.mono ?_;rintro e u' w9 ⟨rfl,rfl,K,W,aG⟩;simp only [Leaves,settle];refine⟨.tuple #[ev,pv,.nilIface],by simp [results,Tryz.results110,go_sem],?_⟩;rw [a5.o];have bX:zj7 w9 pm room (zx room D (xt size m2.needed i c.hash)) (.returned (.tuple #[ev,pv,.nilIface])) (Ext Y w6 w7):=by
     intro x' v' e' he;simp only [Ending.returned.injEq,Value.tuple.injEq] at he;have:=congrArg (fun a:Array Value=>a[0]?) he;simp only [List.getElem?_toArray,List.getElem?_cons_zero,Option.some.injEq] at this;subst this;refine⟨w7,_,[LkN],bQ.o,(zg.of_below bK.o).trans (K.mono (fun _ h=> .inl h) (fun _ h=>h)),fun b hb ah=>bH.o b hb (.inr ah),by decide,fun g hg=>?_⟩;rcases aP.o with ⟨h,-⟩ | h
     ·rw [h] at hg;simp [Value.ownBlock] at hg
     ·rcases h.1.2 with ⟨h,-⟩ | ⟨g',cf,cg,h,hB,-⟩
      ·rw [h] at hg;simp [Value.ownBlock] at hg
      ·rw [h] at hg;simp only [Value.ownBlock,Option.some.injEq] at hg;omega
    have bZ:=zf7 bS.o bG.o bO.o aM.o K W (Nat.le_refl _) (fun _=>bX);refine⟨bZ,.inl ⟨c.entry,E,ev,pv,rfl,?_,?_,H8.o,rfl⟩⟩
    ·rcases aP.o with h | h
     ·exact .inl h
     ·exact .inr ⟨zcb (zi h.1 K (by decide)) br.o.2,h.2⟩
    ·exact zcb (zi bN.o K (by decide)) br.o.1
  ·have az:=za Z;obtain⟨L2,J⟩:=X.o.mem;have L:=za (zax .returning _ nm zbh L2 _ J);clear Z J;unfold qq;unfold zo at L;go_wp2_with fail;refine leaves_cons (f:=73) (args:=#[.pointer (some ⟨nm,0,none⟩)]) (by simp) (by simp [go_sem]) ?_;refine L.o.mono ?_;rintro e u' w9 ⟨rfl,rfl,K,W,aG⟩;simp only [Leaves,settle];refine⟨.tuple #[.slice none 0 0,.slice none 0 0,qq g],by simp [results,Tryz.results110,go_sem,qq],?_⟩;rw [bg.o _ _ rfl];exact⟨zf7 a8.o aw.o (ve.refl _ _ _) X.o K W (Nat.le_refl _) zf3,.inr (.inl ⟨p,g,rfl,K.keep az.o (by decide),rfl⟩)⟩
 ·obtain⟨ai,ar,R⟩:=HG.o .no Px.no_ok;have ad:=za R;have az:Hid (((I.alloc (.cells zby jb)).setCells I.heap.size 0 Px.no.cs).heap[g]?=some (.cells #[txv p,j4 S 5] 141 (0,0))):=(R.block _ (zb Z)).trans Z;have ae:=za (ax.o.below R);obtain⟨L2,J⟩:=ae.o.mem;have ce:=za J;have L:=za (zax .returning _ nm zbh L2 _ J);clear ar R Z J HG;unfold qq;unfold zo at L;go_wp2_with fail;refine leaves_cons (f:=73) (args:=#[.pointer (some ⟨nm,0,none⟩)]) (by simp) (by simp [go_sem]) ?_;refine L.o.mono ?_;rintro e u' w9 ⟨rfl,rfl,K,W,aG⟩;simp only [Leaves,settle];refine⟨.tuple #[.slice none 0 0,.slice none 0 0,qq g],by simp [results,Tryz.results110,go_sem,qq],?_⟩;rw [be.o _ _ rfl];exact⟨zf7 ((a7.o.mono (fun b ah=>ah.imp id .inl) (by decide)).then_below ad.o) ((zmo A w I).below ad.o.size) (ve.refl _ _ _) ae.o K W (by omega) zf3,.inr (.inl ⟨p,g,rfl,K.keep az.o (by decide),rfl⟩)⟩
end
end Go.Proofs.YtndkblnpbjffhaaGreatDoor
