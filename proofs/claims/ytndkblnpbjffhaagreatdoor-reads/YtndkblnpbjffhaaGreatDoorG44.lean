import Derived.Test.YtndkblnpbjffhaaGreatDoorG43
set_option maxHeartbeats 4000000
set_option maxRecDepth 100000
open Go.RowKit
namespace Go.Proofs.YtndkblnpbjffhaaGreatDoor
section
attribute [local go_sem ↓] yv yl yy yo yj ym yx yk za2 zah
structure CBl (C:Array Value)(nb pm nm:Nat)(c:Cl):Prop where
 ccs:CCs C nb pm nm
 mu:C[0]?=some (.int .i32 0)
 key:C[3]?=some (txv c.key)
 num:zjo C c.size c.root
structure Pv (W0 w:World)(O A OP:Nat→Prop)(cb nb pm nm:Nat)(c:Cl):Prop where
 own:∀ b,A b∨OP b∨b=cb→W0.heap.size≤b∧b < w.heap.size∧¬ O b
 sep:∀ b,OP b→¬ A b
 cbA:¬ A cb
 cbP:¬ OP cb
 cli:∃ C,w.heap[cb]?=some (.cells C qh (0,0))∧CBl C nb pm nm c
 prv:zhk w OP pm c.room c.proved
 nee:zab w A nm zbh []
structure Sh (W0 w:World)(O:Nat→Prop)(nb db:Nat)(d:Dk)(n:Nt):Prop where
 base:Below W0.heap.size W0 w
 own:∀ b,O b→W0.heap.size≤b∧b < w.heap.size
 disk:zq w O db d
 net:vi w O nb db n
 st:NSt d n
theorem Pv.cs {H w:World}{O A L:Nat→Prop}{cb E Q K nm:Nat}{d:Dk}{c:Cl}{n:Nt}{k:Nat}{C:Array Value}(h:Pv H w O A L cb E K nm c)(D:Sh H w O E Q d n)(V:w.heap[cb]?=some (.cells C qh (0,0)))(I:CCs C E K nm)(X:n.fetches+2*k < 4611686018427387904)(J:k≤1000000000):CS H w O A L cb E Q K nm C d c.room c.proved ⟨n,[]⟩ k :=
 ⟨D.base,fun b r=>r.elim (fun h=>(D.own b h).1) (fun S=>(h.own b (.inl S)).1),fun b W U=>(h.own b (.inl U)).2.2 W,fun b r=>by
  rcases r with r | r | r
  ·exact(D.own b r).2
  ·exact(h.own b (.inl r)).2.1
  ·exact(h.own b (.inr (.inl r))).2.1,D.disk,D.net,D.st,X,V,I,h.prv,fun b R r=>by
  rcases r with r | r
  ·exact(h.own b (.inr (.inl R))).2.2 r
  ·exact h.sep b R r,⟨[],h.nee,.nil,by simp⟩,by simpa using J⟩
theorem Sh.drop {r w:World}{O A I:Nat→Prop}{cb H D J nm:Nat}{C:Array Value}{d:Dk}{room:Int}{K:Mm}{m:Ms Nt}{k:Nat}(h:CS r w O A I cb H D J nm C d room K m k):Sh r w O H D d m.net :=
 ⟨h.base,fun b E=>⟨h.own b (.inl E),h.lt b (.inl E)⟩,h.disk,h.net,h.st⟩
theorem CS.client {I w w':World}{O A H:Nat→Prop}{cb L R Q nm:Nat}{C E:Array Value}{d:Dk}{room:Int}{S:Mm}{m:Ms Nt}{k:Nat}(h:CS I w O A H cb L R Q nm C d room S m k)(D:zg (fun b=>b=cb) [qh] w w')(K:I.heap.size≤cb∧¬ A cb∧¬ H cb)(U:w'.heap[cb]?=some (.cells E qh (0,0)))(J:CCs E L Q nm):CS I w' O A H cb L R Q nm E d room S m k :=
 ⟨h.base.trans (D.below (fun b r=>by rw [r];exact K.1) h.base.size),h.own,h.apart,fun b r=>Nat.lt_of_lt_of_le (h.lt b r) D.size,h.disk.stay D (by decide) (by decide),h.net.turn D (by decide) (by decide) (by decide),h.st,h.few,U,J,h.prv.stay D (fun b r e=>K.2.2 (by rw [← e];exact r)) (by decide) (fun _ h=>h),h.away,h.nee.stay D (fun b r e=>K.2.1 (by rw [← e];exact r)) (by decide) (by decide) (fun _ h=>h),h.short⟩
theorem CCs.set {C:Array Value}{A D nm:Nat}(h:CCs C A D nm)(i:Nat)(v:Value)(r:i≠2∧i≠13∧i≠14):CCs (C.setIfInBounds i v) A D nm :=
 ⟨by rw [Array.getElem?_setIfInBounds_ne r.1];exact h.net,by rw [Array.getElem?_setIfInBounds_ne r.2.1];exact h.prv,by rw [Array.getElem?_setIfInBounds_ne r.2.2];exact h.nee⟩
theorem zjo.set0 {C:Array Value}{size:Nat}{root:List UInt8}(h:zjo C size root)(v:Value):zjo (C.setIfInBounds 0 v) size root :=
 ⟨by rw [Array.getElem?_setIfInBounds_ne (by omega)];exact h.sz,fun j u hu=>by rw [Array.getElem?_setIfInBounds_ne (by omega)];exact h.rt j u hu,h.r8⟩
theorem z4d {C:Array Value}{i:Nat}{v:Value}(h:C[i]?=some v):C.setIfInBounds i v=C:=by
 apply Array.ext_getElem?;intro j;by_cases r:i=j
 ·subst r;rw [Array.getElem?_setIfInBounds_self_of_lt (Array.getElem?_eq_some_iff.1 h).1,h]
 ·rw [Array.getElem?_setIfInBounds_ne r]
theorem ztw (W0:World)(O A OP:Nat→Prop)(cb nb pm nm:Nat)(c:Cl)(w:World)(h:Pv W0 w O A OP cb nb pm nm c):
  Calls Tryz.prog 65 #[zo cb] w fun r w'=>r= .returned (.agg (trC c.size c.root).toArray)∧zg (fun b=>b=cb) [qh] w w'∧w'.heap[cb]?=w.heap[cb]?:=by
 obtain⟨C,hC,hB⟩:=h.cli;have S:=za hC;have L:=za hB;clear hC hB h;unfold zo;go_enter_defers Tryz.func65,Tryz.ntmps65;go_wp2_with fail;have D:Hid ((w.alloc (.cells #[.int .i64 0,.int .u8 0,.int .u8 0,.int .u8 0,.int .u8 0,.int .u8 0,.int .u8 0,.int .u8 0,.int .u8 0] 95)).heap[cb]?=some (.cells C qh (0,0))∧(w.alloc (.cells #[.int .i64 0,.int .u8 0,.int .u8 0,.int .u8 0,.int .u8 0,.int .u8 0,.int .u8 0,.int .u8 0,.int .u8 0] 95)).heap[w.heap.size]?=some (.cells (trC 0 xf).toArray 95 (0,0))∧Below w.heap.size w (w.alloc (.cells #[.int .i64 0,.int .u8 0,.int .u8 0,.int .u8 0,.int .u8 0,.int .u8 0,.int .u8 0,.int .u8 0,.int .u8 0] 95))∧cb < w.heap.size):=⟨zc S.o,heap_alloc_last _ _,ze _ _,zb S.o⟩
 generalize w.alloc (.cells #[.int .i64 0,.int .u8 0,.int .u8 0,.int .u8 0,.int .u8 0,.int .u8 0,.int .u8 0,.int .u8 0,.int .u8 0] 95)=R at *
 have Z:=za (zg9 ⟨cb,0,none⟩ R (zf D.o.1 0 _ L.o.mu).1 (zf D.o.1 0 _ L.o.mu).2);refine Z.o.mono ?_;rintro r w2 ⟨rfl,rfl⟩;have Q:Hid ((R.setCell ⟨cb,0,none⟩ (.int .i32 1)).heap[cb]?=some (.cells (C.setIfInBounds 0 (.int .i32 1)) qh (0,0))):=qo D.o.1 0 _;have I:Hid ((R.setCell ⟨cb,0,none⟩ (.int .i32 1)).heap[w.heap.size]?=some (.cells (trC 0 xf).toArray 95 (0,0))):=by
  show _=_;rw [heap_setCell_other _ _ _ _ (by show w.heap.size≠cb;have:=D.o.2.2.2;omega)];exact D.o.2.1
 have X:Hid (zg (fun b=>b=cb) [qh] w (R.setCell ⟨cb,0,none⟩ (.int .i32 1))):=zg.set (O:=fun b=>b=cb) (T:=[qh]) (zg.of_below D.o.2.2.1) (.inl rfl) D.o.1 (by simp) _;generalize R.setCell ⟨cb,0,none⟩ (.int .i32 1)=H at *
 have K:zjo (C.setIfInBounds 0 (.int .i32 1)) c.size c.root:=L.o.num.set0 _;have aa:(zmp (.pointer (some ⟨cb,4,none⟩))).run Tryz.prog H= .ok (.agg (trC c.size c.root).toArray) H:=zgv (K.range Q.o) K.r8;have ac:(zeg (.pointer (some ⟨w.heap.size,0,none⟩)) (.agg (trC c.size c.root).toArray)).run Tryz.prog H= .ok () (H.setCells w.heap.size 0 (trC c.size c.root)):=zbz (qw I.o) K.r8;have W:Hid ((H.setCells w.heap.size 0 (trC c.size c.root)).heap[w.heap.size]?=some (.cells (trC c.size c.root).toArray 95 (0,0))):=ji I.o (by rw [zca _ K.r8];rfl);have E:Hid ((H.setCells w.heap.size 0 (trC c.size c.root)).heap[cb]?=some (.cells (C.setIfInBounds 0 (.int .i32 1)) qh (0,0))):=by
  show _=_;rw [qc _ _ (by have:=D.o.2.2.2;omega)];exact Q.o
 have Y:Hid (zg (fun b=>b=cb) [qh] w (H.setCells w.heap.size 0 (trC c.size c.root))):=X.o.setCellsNew (Nat.le_refl _) _ _;have U:=za D.o.2.2.2;have HN:=za K;clear Z D I K;generalize hV:H.setCells w.heap.size 0 (trC c.size c.root)=V at *
 have J:(C.setIfInBounds 0 (.int .i32 1))[0]?=some (.int .i32 1):=Array.getElem?_setIfInBounds_self_of_lt (Array.getElem?_eq_some_iff.1 L.o.mu).1;have HU:=za (za0 ⟨cb,0,none⟩ .returning V (zf E.o 0 _ J).1 (zf E.o 0 _ J).2);clear J;go_wp2_with fail;refine leaves_cons (f:=49) (args:=#[.pointer (some ⟨cb,0,none⟩)]) (by simp) (by simp [go_sem]) ?_;refine HU.o.mono ?_;rintro e u' w9 ⟨rfl,rfl,rfl⟩;simp only [Leaves,settle];have h9:(V.setCell ⟨cb,0,none⟩ (.int .i32 0)).heap[w.heap.size]?=some (.cells (trC c.size c.root).toArray 95 (0,0)):=by
  rw [heap_setCell_other _ _ _ _ (by show w.heap.size≠cb;have:=U.o;omega)];exact W.o
 refine⟨.agg (trC c.size c.root).toArray,?_,rfl,?_,?_⟩
 ·exact zig Tryz.results65 _ _ w.heap.size _ _ (0,0) _ rfl h9 Tryz.underlying95 rfl (by rw [zv2,List.size_toArray,zca _ HN.o.r8])
 ·exact zg.set (O:=fun b=>b=cb) (T:=[qh]) Y.o (.inl rfl) E.o (by simp) _
 ·rw [qo E.o,S.o];rw [Array.setIfInBounds_setIfInBounds,z4d L.o.mu]
end
section
attribute [local go_sem ↓] yv yl yy yo yj ym yx yk za2 zah
structure CR (W0 w w':World)(O A OP:Nat→Prop)(cb nb db pm nm:Nat)(d:Dk)(c':Cl)(n':Nt)(P:(Nat→Prop)→Prop):Prop where
 turn:zg (fun b=>O b∨A b∨OP b∨b=cb) (qh::clT) w w'
 rest:∃ A' OP',ve A A' w w'∧ve OP OP' w w'∧Pv W0 w' O A' OP' cb nb pm nm c'∧P OP'
 sh:Sh W0 w' O nb db d n'
theorem zpc {σ:Type}{fe:σ→List UInt8→(List UInt8×Bool)×σ}{inc:List UInt8→Nat→Nat→List (List UInt8)→List UInt8→Bool}(c:Cl)(s:σ)(i:Nat):jd fe inc c s i=((jd fe inc (jz c.size c.root c.room c.proved) s i).1,{ c with proved:=(jd fe inc (jz c.size c.root c.room c.proved) s i).2.1.proved },(jd fe inc (jz c.size c.root c.room c.proved) s i).2.2):=by
 cases hn:qu fe c.proved c.size ⟨s,[]⟩ (-1) i with
 | mk o m =>
  cases o with
  | inl p=>rw [zly hn,zly (c:=jz c.size c.root c.room c.proved) hn];rfl
  | inr own =>
   cases hr:yh fe c.proved c.size m (xy 64 0 c.size i) with
   | mk o2 m2 =>
    cases o2 with
    | inl p=>rw [zlq hn hr,zlq (c:=jz c.size c.root c.room c.proved) hn hr];rfl
    | inr ps =>
     cases hi:inc own.hash i c.size ps c.root with
     | false=>rw [zl0 hn hr hi,zl0 (c:=jz c.size c.root c.room c.proved) hn hr hi];rfl
     | true=>rw [zl2 hn hr hi,zl2 (c:=jz c.size c.root c.room c.proved) hn hr hi];rfl
theorem CBl.locked {C:Array Value}{r A nm:Nat}{c:Cl}(h:CBl C r A nm c):CCs (C.setIfInBounds 0 (.int .i32 1)) r A nm∧(C.setIfInBounds 0 (.int .i32 1))[3]?=some (txv c.key)∧zjo (C.setIfInBounds 0 (.int .i32 1)) c.size c.root∧(C.setIfInBounds 0 (.int .i32 1))[0]?=some (.int .i32 1) :=
 ⟨h.ccs.set 0 _ (by omega),by rw [Array.getElem?_setIfInBounds_ne (by omega)];exact h.key,h.num.set0 _,Array.getElem?_setIfInBounds_self_of_lt (Array.getElem?_eq_some_iff.1 h.mu).1⟩
theorem CBl.free {C:Array Value}{h r nm:Nat}{c:Cl}(h1:CCs C h r nm)(h2:C[3]?=some (txv c.key))(A:zjo C c.size c.root)(D:C[0]?=some (.int .i32 1)):CBl (C.setIfInBounds 0 (.int .i32 0)) h r nm c :=
 ⟨h1.set 0 _ (by omega),Array.getElem?_setIfInBounds_self_of_lt (Array.getElem?_eq_some_iff.1 D).1,by rw [Array.getElem?_setIfInBounds_ne (by omega)];exact h2,A.set0 _⟩
theorem zql {H w r:World}{O A Q:Nat→Prop}{cb E R L nm:Nat}{d:Dk}{c:Cl}{n:Nt}{k:Nat}{C:Array Value}(h:Pv H w O A Q cb E L nm c)(W:Sh H w O E R d n)(I:w.heap[cb]?=some (.cells C qh (0,0)))(S:CBl C E L nm c)(J:Below w.heap.size w r)(V:n.fetches+2*k < 4611686018427387904)(K:k≤1000000000):
  CS H (r.setCell ⟨cb,0,none⟩ (.int .i32 1)) O A Q cb E R L nm (C.setIfInBounds 0 (.int .i32 1)) d c.room c.proved ⟨n,[]⟩ k∧zg (fun b=>b=cb) [qh] w (r.setCell ⟨cb,0,none⟩ (.int .i32 1)):=by
 have D:r.heap[cb]?=some (.cells C qh (0,0)):=(J.block _ (zb I)).trans I;have U:zg (fun b=>b=cb) [qh] r (r.setCell ⟨cb,0,none⟩ (.int .i32 1)):=zg.set (O:=fun b=>b=cb) (T:=[qh]) (zg.refl _ _ _) (.inl rfl) D (by simp) _;refine⟨((h.cs W I S.ccs V K).below J).client U ⟨(h.own cb (.inr (.inr rfl))).1,h.cbA,h.cbP⟩ (qo D 0 _) S.locked.1,?_⟩;exact(zg.of_below J).trans (U.mono (fun _ h=> .inl h) (fun _ h=>h))
theorem zcu {X w W w8:World}{O A U:Nat→Prop}{cb nb db pm nm:Nat}{d:Dk}{c c':Cl}{n':Nt}{k:Nat}{C:Array Value}(h:Pv X w O A U cb nb pm nm c)(ht:zg (fun b=>b=cb) [qh] w W){S E:Nat→Prop}(Q:zg (fun b=>O b∨A b∨U b∨b=cb) (qh::clT) W w8)(Y:ve A S W w8)(V:ve U E W w8)(r:CS X w8 O S E cb nb db pm nm C d c'.room c'.proved ⟨n',[]⟩ k)
  (h2:C[3]?=some (txv c'.key)) (h3:zjo C c'.size c'.root) (h4:C[0]?=some (.int .i32 1)) {P:(Nat→Prop)→Prop} (hQ:¬ E cb→P E):CR X w (w8.setCell ⟨cb,0,none⟩ (.int .i32 0)) O A U cb nb db pm nm d c' n' P:=by
 have J:=h.own cb (.inr (.inr rfl));have s1:=ht.size;have s2:=Q.size;have K:¬ S cb:=fun e=>by
  rcases Y.2 cb e with e | e
  ·exact h.cbA e
  ·omega
 have I:¬ E cb:=fun e=>by
  rcases V.2 cb e with e | e
  ·exact h.cbP e
  ·omega
 have R:zg (fun b=>b=cb) [qh] w8 (w8.setCell ⟨cb,0,none⟩ (.int .i32 0)):=zg.set (O:=fun b=>b=cb) (T:=[qh]) (zg.refl _ _ _) (.inl rfl) r.cli (by simp) _;have H:=r.client R ⟨J.1,K,I⟩ (qo r.cli 0 _) (r.cells.set 0 _ (by omega));have s3:(w8.setCell ⟨cb,0,none⟩ (.int .i32 0)).heap.size=w8.heap.size:=by simp [World.setCell]
 refine⟨?_,⟨S,E,⟨Y.1,fun b D=>(Y.2 b D).imp id (fun h=>⟨by omega,by omega⟩)⟩,⟨V.1,fun b D=>(V.2 b D).imp id (fun h=>⟨by omega,by omega⟩)⟩,?_,hQ I⟩,Sh.drop H⟩
 ·refine(ht.mono (fun b D=> .inr (.inr (.inr D))) (by decide)).trans ((Q.mono (fun _ h=> .inl h) (fun _ h=>h)).trans (R.mono (fun b D=> .inl (.inl (.inr (.inr (.inr D))))) (by decide)))
 ·refine⟨fun b D=>?_,fun b aa Z=>r.away b aa (.inr Z),K,I,⟨_,qo r.cli 0 _,CBl.free r.cells h2 h3 h4⟩,H.prv,?_⟩
  ·rcases D with D | D | rfl
   ·exact⟨r.own b (.inr D),H.lt b (.inr (.inl D)),fun e=>r.apart b e D⟩
   ·refine⟨?_,H.lt b (.inr (.inr D)),fun e=>r.away b D (.inl e)⟩;rcases V.2 b D with e | e
    ·exact(h.own b (.inr (.inl e))).1
    ·have:=r.base.size;have:=h.own cb (.inr (.inr rfl));omega
   ·exact⟨J.1,by omega,J.2.2⟩
  ·obtain⟨L,hm,h0,-⟩:=H.nee;obtain rfl:L=[]:=h0.empty;exact hm
theorem z2w (Q:World)(E:Nat→Addr)(O A Z:Nat→Prop)(cb U db pm nm:Nat)(d:Dk)(c:Cl)(n:Nt)(i:Int)(w:World)(S:ja Q E)(h:Pv Q w O A Z cb U pm nm c)(hs:Sh Q w O U db d n)(hf:n.fetches < 4611686018427387904)(hi:i < 0∨(c.size:Int)≤i):
  Calls Tryz.prog 64 #[zo cb,.int .i64 i] w fun r w'=>CR Q w w' O A Z cb U db pm nm d c n (fun _=>True)∧r= .returned (.tuple #[.slice none 0 0,.slice none 0 0,j4 E 1]):=by
 obtain⟨C,R,L⟩:=h.cli;have W:=za (zg9 ⟨cb,0,none⟩ w (zf R 0 _ L.mu).1 (zf R 0 _ L.mu).2);obtain⟨I,ht⟩:=zql (k:=0) h hs R L (Below.refl _ w) (by omega) (by omega);have H:=za I;have X:=za ht;have V:=za h;have D:=za L.locked;have HS:=za S;have c4:(w.setCell ⟨cb,0,none⟩ (.int .i32 1)).cell? ⟨cb,4,none⟩=some (.int .i64 c.size):=(zf I.cli 4 _ L.locked.2.2.1.sz).1;have qe:(w.setCell ⟨cb,0,none⟩ (.int .i32 1)).cell? ⟨2,0,none⟩=some (.iface 344 (.pointer (some (E 1)))):=zb4 I.base S.range;clear R L h hs I ht S;have Y:=za (za0 ⟨cb,0,none⟩ .returning (w.setCell ⟨cb,0,none⟩ (.int .i32 1)).drew (zf H.o.cli 0 _ D.o.2.2.2).1 (zf H.o.cli 0 _ D.o.2.2.2).2);unfold zo;go_enter_defers Tryz.func64,Tryz.ntmps64;go_wp2_with fail;refine W.o.mono ?_;rintro r w2 ⟨rfl,rfl⟩;clear W;generalize w.setCell ⟨cb,0,none⟩ (.int .i32 1)=K at *
 by_cases ac:i < 0
 ·clear hi;go_wp2_with fail;go_region_held3 (fun w'=>w'.cell? ⟨2,0,none⟩=some (.iface 344 (.pointer (some (E 1))))) (go_keep) (fail);rename_i J;clear J;go_wp2_with fail;refine leaves_cons (f:=49) (args:=#[.pointer (some ⟨cb,0,none⟩)]) (by simp) (by simp [go_sem]) ?_;refine Y.o.mono ?_;rintro e u' w9 ⟨rfl,rfl,rfl⟩;simp only [Leaves,settle];refine⟨.tuple #[.slice none 0 0,.slice none 0 0,j4 E 1],by simp [results,Tryz.results64,go_sem,j4],?_,rfl⟩;exact zcu (w8:=K.drew) V.o X.o (zg.refl _ _ K).drew (ve.refl _ _ _) (ve.refl _ _ _) (H.o.below (Below.refl _ K).drew) D.o.2.1 D.o.2.2.1 D.o.2.2.2 (fun _=>trivial)
 ·have aa:(c.size:Int)≤i:=by omega
  clear hi;go_wp2_with fail;go_region_held3 (fun w'=>w'.cell? ⟨2,0,none⟩=some (.iface 344 (.pointer (some (E 1))))) (go_keep) (fail);rename_i J;clear J;go_wp2_with fail;refine leaves_cons (f:=49) (args:=#[.pointer (some ⟨cb,0,none⟩)]) (by simp) (by simp [go_sem]) ?_;refine Y.o.mono ?_;rintro e u' w9 ⟨rfl,rfl,rfl⟩;simp only [Leaves,settle];refine⟨.tuple #[.slice none 0 0,.slice none 0 0,j4 E 1],by simp [results,Tryz.results64,go_sem,j4],?_,rfl⟩;exact zcu (w8:=K.drew) V.o X.o (zg.refl _ _ K).drew (ve.refl _ _ _) (ve.refl _ _ _) (H.o.below (Below.refl _ K).drew) D.o.2.1 D.o.2.2.1 D.o.2.2.2 (fun _=>trivial)
end
section
attribute [local go_sem ↓] yv yl yy yo yj ym yx yk za2 zah
theorem zme.join {D:Nat→Addr}{B:Nat}{w':World}{o:Sum Er (List UInt8×List (List UInt8))}{r:Ending}(h:zme D B w' o r):∃ x v e,r= .returned (.tuple #[x,v,e])∧∀(N:Nat→Prop) (A:World),zg N [qh] w' A→zme D B A o r:=by
 rcases h with ⟨e,J,x,v,h1,h2,H,I,h5⟩ | ⟨p,g,h1,h2,H⟩ | ⟨h1,h2⟩
 ·refine⟨x,v,_,h5,fun N A E=> .inl ⟨e,J,x,v,h1,?_,zi H E (by decide),I,h5⟩⟩;rcases h2 with h2 | h2
  ·exact .inl h2
  ·exact .inr ⟨zi h2.1 E (by decide),h2.2⟩
 ·exact⟨_,_,_,H,fun N A E=> .inr (.inl ⟨p,g,h1,E.keep h2 (by decide),H⟩)⟩
 ·exact⟨_,_,_,h2,fun N A E=> .inr (.inr ⟨h1,h2⟩)⟩
theorem ve.turn {O A r:Nat→Prop}{cb:Nat}{w w':World}(h:zg (fun b=>O b∨A b∨r b) clT w w'):zg (fun b=>O b∨A b∨r b∨b=cb) (qh::clT) w w':=h.mono (fun _ D=>D.imp id (fun h=>h.imp id .inl)) (fun _ E=>List.mem_cons_of_mem _ E)
theorem z7e (H:World)(K:Nat→Addr)(O A OP:Nat→Prop)(cb Z db pm nm:Nat)(d:Dk)(c:Cl)(n:Nt)(i:Nat)(w:World)(hE:Env H)(hS:ja H K)(U:zdq H)(h:Pv H w O A OP cb Z pm nm c)(hs:Sh H w O Z db d n)(hf:n.fetches+20000 < 4611686018427387904)(ai:c.size < 9223372036854775808)(hi:i < c.size)
  (V:∀ p m',qu (zu d.fs) c.proved c.size ⟨n,[]⟩ (-1) i=(.inr p,m')→p.entry.length≤1000000) (X:c.proved.length≤100000000000) (Y:WfM c.proved) :
  Calls Tryz.prog 64 #[zo cb,.int .i64 i] w fun r w'=>CR H w w' O A OP cb Z db pm nm d (jd (zu d.fs) zav c n i).2.1 (jd (zu d.fs) zav c n i).2.2 (zj7 w' pm c.room (jd (zu d.fs) zav c n i).2.1.proved r)∧zme K w.heap.size w' (jd (zu d.fs) zav c n i).1 r:=by
 obtain⟨C,hC,L⟩:=h.cli;have HL:=za (zg9 ⟨cb,0,none⟩ w (zf hC 0 _ L.mu).1 (zf hC 0 _ L.mu).2);obtain⟨Q,ht⟩:=zql (k:=8401) h hs hC L (Below.refl _ w) (by omega) (by omega);have HT:=za ht;have HH:=za h;have D:=za L.locked;have ae:Hid ((w.setCell ⟨cb,0,none⟩ (.int .i32 1)).heap.size=w.heap.size):=by show _=_;simp [World.setCell]
 have c4:(w.setCell ⟨cb,0,none⟩ (.int .i32 1)).cell? ⟨cb,4,none⟩=some (.int .i64 c.size):=(zf Q.cli 4 _ L.locked.2.2.1.sz).1;have J:=za (zm5 H K O A OP cb Z db pm nm _ d c.room c.proved n 0 c.size i c.root ai hi L.locked.2.2.1 hE hS U (fun A' S ak k' m' w'=>zjk H O A' S cb Z db pm nm _ d c.room ak k' m' w') V X Y (fun b hb=>(h.own b (.inr (.inl hb))).1) _ (Q.less (by have:=zop c.size i (by omega);unfold rPl;omega)));have ac:=za (zpc (fe:=zu d.fs) (inc:=zav) c n i);have ag:¬(i:Int) < 0:=by omega
 have ah:(i:Int) < (c.size:Int):=by omega
 clear hC L h hs Q ht hS hE U V X Y hf;generalize jd (zu d.fs) zav (jz c.size c.root c.room c.proved) n i=RC at *
 obtain⟨o,c2,n2⟩:=RC;simp only at *
 unfold zo at J ⊢;go_enter_defers Tryz.func64,Tryz.ntmps64;go_wp2_with fail;refine HL.o.mono ?_;rintro r w2 ⟨rfl,rfl⟩;clear HL;generalize w.setCell ⟨cb,0,none⟩ (.int .i32 1)=W2 at *
 go_wp2_with fail;refine J.o.mono ?_;rintro r w8 ⟨R,hr⟩;obtain⟨x,v,e,rfl,hr⟩:=hr.join;obtain⟨A',S,hA,hP,E,W⟩:=R.cs;have aa:=za W;have HU:=za (za0 ⟨cb,0,none⟩ .returning w8 (zf E.cli 0 _ D.o.2.2.2).1 (zf E.cli 0 _ D.o.2.2.2).2);have ad:=za R;have HR:=za hr;have HA:=za hA;have HP:=za hP;have I:=za E;clear R hr hA hP E W J c4 ag ah;go_wp2_with fail;refine leaves_cons (f:=49) (args:=#[.pointer (some ⟨cb,0,none⟩)]) (by simp) (by simp [go_sem]) ?_;refine HU.o.mono ?_;rintro e u' w9 ⟨rfl,rfl,rfl⟩;simp only [Leaves,settle];refine⟨.tuple #[x,v,e],by simp [results,Tryz.results64,go_sem],?_⟩;rw [ac.o];have aj:zg (fun b=>b=cb) [qh] w8 (w8.setCell ⟨cb,0,none⟩ (.int .i32 0)):=zg.set (O:=fun b=>b=cb) (T:=[qh]) (zg.refl _ _ w8) (.inl rfl) I.o.cli (by simp) (.int .i32 0) (o:=0);refine⟨zcu (w8:=w8) (c':={ c with proved:=c2.proved }) HH.o HT.o (ve.turn ad.o.turn) HA.o HP.o I.o D.o.2.1 D.o.2.2.1 D.o.2.2.2 (fun af x' v' e' he=>zi1.on (aa.o x' v' e' he) aj (fun k hk e=>af (e▸hk)) (by decide)),?_⟩;have:=HR.o _ _ (zg.set (O:=fun b=>b=cb) (T:=[qh]) (zg.refl _ _ w8) (.inl rfl) I.o.cli (by simp) (.int .i32 0) (o:=0));rw [ae.o] at this;exact this
end
end Go.Proofs.YtndkblnpbjffhaaGreatDoor
