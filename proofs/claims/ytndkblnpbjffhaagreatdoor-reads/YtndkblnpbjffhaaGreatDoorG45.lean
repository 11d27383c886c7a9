import Derived.Test.YtndkblnpbjffhaaGreatDoorG44
set_option maxHeartbeats 4000000
set_option maxRecDepth 100000
open Go.RowKit
namespace Go.Proofs.YtndkblnpbjffhaaGreatDoor
section
attribute [local go_sem ↓] yv yl yy yo yj ym yx yk za2 zah
theorem z2a {w:World}{v:Value}{x:Option (List UInt8)}(h:zgo w v x):(convert 100 9 v).run Tryz.prog w= .ok (.string ⟨(x.getD []).toArray⟩) w:=by
 rcases h with ⟨d,rfl,r⟩ | ⟨rfl,rfl⟩
 ·exact r.conv
 ·kernel_rfl
theorem zsk (t key:List UInt8)(H:t.length≤1048576)(D:key.length≤2097152)(w:World)(E:Env w):
  Calls Tryz.prog 51 #[.string ⟨t.toArray⟩,.string ⟨key.toArray⟩] w fun r w'=>Below w.heap.size w w'∧∃ n root b,root.length=8∧n < 9223372036854775808∧r= .returned (.tuple #[.agg (trC n root).toArray,.bool b])∧((b=true∧vp t key n root)∨(b=false∧∀ n root,¬ vp t key n root)):=by
 refine(z0q t key H D w E).mono ?_;rintro r w' ⟨A,⟨n,I,J,K,L,Q,R,S,U,h,rfl⟩ | ⟨h,rfl⟩⟩
 ·exact⟨A,n,_,true,rfl,by have:=h.1;omega,rfl,.inl ⟨rfl,h⟩⟩
 ·exact⟨A,0,xf,false,rfl,by omega,rfl,.inr ⟨rfl,h⟩⟩
theorem zwi {σ:Type}{fe:σ→List UInt8→(List UInt8×Bool)×σ}{con:Nat→Nat→List UInt8→List UInt8→List (List UInt8)→Bool}(c:Cl)(s:σ)(n:Nat)(r:List UInt8):qv fe con c s n r=qv fe con (jz c.size c.root c.room c.proved) s n r:=by
 by_cases h1:n < c.size
 ·rw [zgc h1,zgc (c:=jz c.size c.root c.room c.proved) h1];rfl
 ·by_cases h2:n=c.size
  ·by_cases h:r=c.root
   ·rw [zes h2 h,zes (c:=jz c.size c.root c.room c.proved) h2 h];rfl
   ·rw [zdz h2 h,zdz (c:=jz c.size c.root c.room c.proved) h2 h];rfl
  ·have A:c.size < n:=by omega
   by_cases h:c.size=0
   ·rw [ze1 A h,ze1 (c:=jz c.size c.root c.room c.proved) A h];rfl
   ·cases hr:yh fe c.proved n ⟨s,[]⟩ (qd 64 c.size 0 n true) with
    | mk o m =>
     cases o with
     | inl p=>rw [zjr A h hr,zjr (c:=jz c.size c.root c.room c.proved) A h hr];rfl
     | inr ps =>
      cases hc:con c.size n c.root r ps with
      | false=>rw [zjn A h hr hc,zjn (c:=jz c.size c.root c.room c.proved) A h hr hc];rfl
      | true=>rw [zjw A h hr hc,zjw (c:=jz c.size c.root c.room c.proved) A h hr hc];rfl
theorem zwe {σ:Type}{fe:σ→List UInt8→(List UInt8×Bool)×σ}{con:Nat→Nat→List UInt8→List UInt8→List (List UInt8)→Bool}{c:Cl}{s D:σ}{n:Nat}{r:List UInt8}{e:Er}{A:Mm}(h:qv fe con c s n r=(.inl e,A,D)):A=c.proved:=by
 unfold qv at h
 split at h
 ·simp only [Prod.mk.injEq] at h;exact h.2.1.symm
 ·split at h
  ·split at h
   ·simp at h
   ·simp only [Prod.mk.injEq] at h;exact h.2.1.symm
  ·split at h
   ·simp at h
   ·split at h
    ·simp only [Prod.mk.injEq] at h;exact h.2.1.symm
    ·split at h
     ·simp at h
     ·simp only [Prod.mk.injEq] at h;exact h.2.1.symm
theorem zg8.join {D:Nat→Addr}{B:Nat}{w':World}{o:Sum Er (List (List UInt8))}{r:Ending}(h:zg8 D B w' o r):∃ v e,r= .returned (.tuple #[v,e])∧((e= .nilIface∧∃ H,o= .inr H)∨∃ L p K,v= .slice none 0 0∧e= .iface L p∧o= .inl K)∧∀(N:Nat→Prop) (A:World),zg N [qh] w' A→zg8 D B A o r:=by
 rcases h with ⟨H,v,h1,h2,E,J⟩ | ⟨p,g,h1,h2,E⟩ | ⟨h1,h2⟩ | ⟨h1,h2⟩
 ·exact⟨v,_,J,.inl ⟨rfl,H,h1⟩,fun N A I=> .inl ⟨H,v,h1,zi h2 I (by decide),E,J⟩⟩
 ·exact⟨_,_,E,.inr ⟨_,_,_,rfl,rfl,h1⟩,fun N A I=> .inr (.inl ⟨p,g,h1,I.keep h2 (by decide),E⟩)⟩
 ·exact⟨_,_,h2,.inr ⟨_,_,_,rfl,rfl,h1⟩,fun N A _=> .inr (.inr (.inl ⟨h1,h2⟩))⟩
 ·exact⟨_,_,h2,.inr ⟨_,_,_,rfl,rfl,h1⟩,fun N A _=> .inr (.inr (.inr ⟨h1,h2⟩))⟩
theorem zg8.lower {A:Nat→Addr}{B D:Nat}{w':World}{o:Sum Er (List (List UInt8))}{r:Ending}(h:zg8 A B w' o r)(I:D≤B):zg8 A D w' o r:=by
 rcases h with ⟨J,v,h1,h2,E,H⟩ | h
 ·exact .inl ⟨J,v,h1,zcb h2 I,E,H⟩
 ·exact .inr h
theorem z1s {w:World}{cb W X nm size n:Nat}{root h:List UInt8}{C:Array Value}{key:List UInt8}(U:w.heap[cb]?=some (.cells C qh (0,0)))(r:CCs C W X nm)(Z:C[3]?=some (txv key))(hm:C[0]?=some (.int .i32 1))(_hn:zjo C size root)(J:h.length=8):
  (zeg (.pointer (some ⟨cb,4,none⟩)) (.agg (trC n h).toArray)).run Tryz.prog w= .ok () (w.setCells cb 4 (trC n h))∧∃ D,(w.setCells cb 4 (trC n h)).heap[cb]?=some (.cells D qh (0,0))∧CCs D W X nm∧D[3]?=some (txv key)∧D[0]?=some (.int .i32 1)∧zjo D n h:=by
 have Q:15≤C.size:=by
  have:=(Array.getElem?_eq_some_iff.1 r.nee).1;omega
 have hl:15≤C.toList.length:=by simpa using Q
 have S:=zca n J;have R:w.there cb 4 9:=by
  intro j V;have:=zf U (4+j) (C[4+j]'(by omega)) (Array.getElem?_eq_getElem _);exact⟨by rw [this.1];rfl,this.2⟩
 have K:w.heap[cb]?=some (.cells C.toList.toArray qh (0,0)):=U;have L:=zas (trC n h) 4 K (by rw [S];omega);have A:∀ i,i < 4→(C.toList.take 4++(trC n h++C.toList.drop (4+(trC n h).length))).toArray[i]?=C[i]?:=by
  intro i Y;rw [List.getElem?_toArray,List.getElem?_append_left (by simp;omega),List.getElem?_take_of_lt Y,Array.getElem?_toList]
 have H:∀ j,j < 9→(C.toList.take 4++(trC n h++C.toList.drop (4+(trC n h).length))).toArray[4+j]?=(trC n h)[j]?:=by
  intro j V;have I:(C.toList.take 4).length=4:=by simp;omega
  rw [List.getElem?_toArray,List.getElem?_append_right (by omega),I,Nat.add_sub_cancel_left,List.getElem?_append_left (by omega)]
 have E:∀ j,(C.toList.take 4++(trC n h++C.toList.drop (4+(trC n h).length))).toArray[13+j]?=C[13+j]?:=by
  intro j;have I:(C.toList.take 4).length=4:=by simp;omega
  rw [List.getElem?_toArray,List.getElem?_append_right (by omega),I,List.getElem?_append_right (by omega),List.getElem?_drop,S,Array.getElem?_toList];congr 1;omega
 refine⟨zbz R J,_,L,⟨(A 2 (by omega)).trans r.net,(E 0).trans r.prv,(E 1).trans r.nee⟩,(A 3 (by omega)).trans Z,(A 0 (by omega)).trans hm,⟨(H 0 (by omega)).trans rfl,fun j v hv=>?_,J⟩⟩;have V:j < 8:=by
  have:=(List.getElem?_eq_some_iff.1 hv).1;simp at this;omega
 rw [show 5+j=4+(j+1) by omega,H (j+1) (by omega)];exact hv
def cpP:List UInt8 := "checkpoint".toUTF8.data.toList
def z9x (h:Nat→Addr)(B:Nat)(w':World)(o:Sum Er (List (List UInt8)))(r:Ending):Prop:=zg8 h B w' o r∨(o= .inl .cp∧r= .returned (.tuple #[.slice none 0 0,j4 h 2]))
theorem zwx (W0:World)(U:Nat→Addr)(O A OP:Nat→Prop)(cb nb db pm nm:Nat)(d:Dk)(c:Cl)(n:Nt)(w:World)(hE:Env W0)(hS:ja W0 U)(aH:zdq W0)(h:Pv W0 w O A OP cb nb pm nm c)(hs:Sh W0 w O nb db d n)(hf:n.fetches+20000 < 4611686018427387904)(bc:c.size < 9223372036854775808)(aM:c.key.length≤2097152)(au:(zu d.fs n cpP).1.1.length≤1048576)(aQ:c.proved.length≤100000000000)(aS:WfM c.proved):
  Calls Tryz.prog 21 #[zo cb] w fun r w'=>∃ o,zl8 c.key (zu d.fs n cpP).1 o∧CR W0 w w' O A OP cb nb db pm nm d (zgq (zu d.fs) zcd c (zu d.fs n cpP).2 o).2.1 (zgq (zu d.fs) zcd c (zu d.fs n cpP).2 o).2.2 (fun _=>True)∧z9x U w.heap.size w' (zgq (zu d.fs) zcd c (zu d.fs n cpP).2 o).1 r:=by
 obtain⟨C,hC,hB⟩:=h.cli;have HL:=za (zg9 ⟨cb,0,none⟩ w (zf hC 0 _ hB.mu).1 (zf hC 0 _ hB.mu).2);obtain⟨a4,ht⟩:=zql (k:=8401) h hs hC hB (Below.refl _ w) (by omega) (by omega);have HT:=za ht;have HH:=za h;have H:=za hB.locked;have aC:Hid ((w.setCell ⟨cb,0,none⟩ (.int .i32 1)).heap.size=w.heap.size):=by show _=_;simp [World.setCell]
 have c3:(w.setCell ⟨cb,0,none⟩ (.int .i32 1)).cell? ⟨cb,3,none⟩=some (txv c.key):=(zf a4.cli 3 _ hB.locked.2.1).1;have L:=za a4;have HE:=za hE;have HS:=za hS;have aX:=za aH;have al:=za (And.intro aM (And.intro au (And.intro aQ aS)));clear hC hB h hs a4 ht hS hE aH aQ aS aM au;unfold zo;go_enter_defers Tryz.func21,Tryz.ntmps21;go_wp2_with fail;refine HL.o.mono ?_;rintro r w2 ⟨rfl,rfl⟩;clear HL;generalize w.setCell ⟨cb,0,none⟩ (.int .i32 1)=W2 at *
 have Z:=za (L.o.st.ok (by have:=L.o.few;omega));have ax:=za (zn5 O nb db cb n d cpP W2 Z.o.nf Z.o.fl Z.o.ly Z.o.ll Z.o.fe Z.o.td L.o.disk L.o.net (zf L.o.cli 2 _ L.o.cells.net).1);unfold zo at ax;go_wp2_with fail;refine ax.o.mono ?_;rintro r I ⟨v,x,rfl,ar,aP,aK,hx⟩;have Y:Hid (CS W0 I O (Ext A W2 I) OP cb nb db pm nm (C.setIfInBounds 0 (.int .i32 1)) d c.room c.proved ⟨(zu d.fs n cpP).2,[]⟩ 8400):=by
  refine L.o.next (ar.mono (fun _ h=> .inl h) (by decide)) ⟨(zu d.fs n cpP).2,[]⟩ 8400 aP (L.o.st.step cpP) ?_ (L.o.nee.stay ar (fun b Q e=>L.o.apart b e Q) (by decide) (by decide) (fun _ h=> .inl h)) (by simp);show(zu d.fs n cpP).2.fetches+_ < _;rw [zei];have:=L.o.few;simp only at this;omega
 have an:Hid (zg (fun b=>O b∨A b∨OP b∨b=cb) (qh::clT) W2 I):=ar.mono (fun _ h=> .inl h) (by decide);have ai:Hid (ve A (Ext A W2 I) W2 I):=zmo A W2 I;have aW:=za aK;have HX:=za hx;clear ar aP aK hx ax Z L c3;generalize aG:zu d.fs n cpP=NF at *
 obtain⟨⟨t,aZ⟩,n3⟩:=NF;have ak:=za aG;clear aG;simp only at *
 have HK:Hid (∀ X,Below I.heap.size I X→(convert 100 9 v).run Tryz.prog X= .ok (.string ⟨t.toArray⟩) X∧X.cell? ⟨cb,3,none⟩=some (.string ⟨c.key.toArray⟩)):=by
  intro X hX;have:=z2a (zgo.turn (O:=fun _=>False) (T:=[]) aW.o (.of_below hX) (by decide));rw [HX.o] at this;exact⟨this,(zf ((hX.block _ (zb Y.o.cli)).trans Y.o.cli) 3 _ H.o.2.1).1⟩
 have a8:Hid (∀ X,Below I.heap.size I X→Calls Tryz.prog 51 #[.string ⟨t.toArray⟩,.string ⟨c.key.toArray⟩] X fun r w'=>∃ E D b,r= .returned (.tuple #[.agg (trC E D).toArray,.bool b])∧Below X.heap.size X w'∧D.length=8∧E < 9223372036854775808∧((b=true∧vp t c.key E D)∨(b=false∧∀ n root,¬ vp t c.key n root))):=by
  intro X hX;refine(zsk t c.key al.o.2.1 al.o.1 X (HE.o.below (Y.o.below hX).base)).mono ?_;rintro r w' ⟨Q,E,D,b,h8,hn,rfl,aa⟩;exact⟨E,D,b,rfl,Q,h8,hn,aa⟩
 have aA:Hid (∀(R:World) (E:Nat) (D:List UInt8),Below (I.alloc (.cells #[.int .i64 0,.int .u8 0,.int .u8 0,.int .u8 0,.int .u8 0,.int .u8 0,.int .u8 0,.int .u8 0,.int .u8 0] 95)).drew.heap.size (I.alloc (.cells #[.int .i64 0,.int .u8 0,.int .u8 0,.int .u8 0,.int .u8 0,.int .u8 0,.int .u8 0,.int .u8 0,.int .u8 0] 95)).drew R→D.length=8→(zeg (.pointer (some ⟨I.heap.size,0,none⟩)) (.agg (trC E D).toArray)).run Tryz.prog R= .ok () (R.setCells I.heap.size 0 (trC E D))∧(R.setCells I.heap.size 0 (trC E D)).heap[I.heap.size]?=some (.cells (trC E D).toArray 95 (0,0))):=by
  intro R E D Q h8;have hz:R.heap[I.heap.size]?=some (.cells (trC 0 xf).toArray 95 (0,0)):=by
   rw [Q.block _ (by show _ < (I.alloc _).heap.size;simp)];exact heap_alloc_last I _
  exact⟨zbz (qw hz) h8,ji hz (by rw [zca _ h8];rfl)⟩
 have aB:Hid (∀(R:World) (E:Nat) (D:List UInt8),D.length=8→(zeg (.pointer (some ⟨R.heap.size,0,none⟩)) (.agg (trC E D).toArray)).run Tryz.prog (R.alloc (.cells #[.int .i64 0,.int .u8 0,.int .u8 0,.int .u8 0,.int .u8 0,.int .u8 0,.int .u8 0,.int .u8 0,.int .u8 0] 95))= .ok () ((R.alloc (.cells #[.int .i64 0,.int .u8 0,.int .u8 0,.int .u8 0,.int .u8 0,.int .u8 0,.int .u8 0,.int .u8 0,.int .u8 0] 95)).setCells R.heap.size 0 (trC E D))∧((R.alloc (.cells #[.int .i64 0,.int .u8 0,.int .u8 0,.int .u8 0,.int .u8 0,.int .u8 0,.int .u8 0,.int .u8 0,.int .u8 0] 95)).setCells R.heap.size 0 (trC E D)).heap[R.heap.size]?=some (.cells (trC E D).toArray 95 (0,0))):=by
  intro R E D h8;have hz:(R.alloc (.cells #[.int .i64 0,.int .u8 0,.int .u8 0,.int .u8 0,.int .u8 0,.int .u8 0,.int .u8 0,.int .u8 0,.int .u8 0] 95)).heap[R.heap.size]?=some (.cells (trC 0 xf).toArray 95 (0,0)):=heap_alloc_last R _;exact⟨zbz (qw hz) h8,ji hz (by rw [zca _ h8];rfl)⟩
 have ad:Hid (Below I.heap.size I I.drew):=(Below.refl _ I).drew;have ae:Hid (∀ o,Below I.heap.size I (I.alloc o).drew):=fun o=>(ze I o).drew;go_wp2_with fail;go_cut [6,7] from 26 to 34 (fun s6 s7 wx=>∃(tb E:Nat) (D:List UInt8) (b:Bool),s6= .pointer (some ⟨tb,0,none⟩)∧s7= .bool b∧wx.heap[tb]?=some (.cells (trC E D).toArray 95 (0,0))∧I.heap.size≤tb∧Below I.heap.size I wx∧D.length=8∧E < 9223372036854775808∧((b=true∧vp t c.key E D)∨(b=false∧∀ n root,¬ vp t c.key n root)))
 case first =>
  go_region_held3 (fun X=>(convert 100 9 v).run Tryz.prog X= .ok (.string ⟨t.toArray⟩) X∧X.cell? ⟨cb,3,none⟩=some (.string ⟨c.key.toArray⟩)) (first | exact HK.o _ ad.o | exact HK.o _ (ae.o _) | exact HK.o _ J.o | exact HK.o _ (J.o.alloc J.o.size _) | exact HK.o _ (zr J.o (Nat.le_refl _) _ _) | exact HK.o _ (zr (J.o.alloc J.o.size _) J.o.size _ _)) (first
   | (go_at_call 51;refine(a8.o _ (by first | exact ad.o | exact ae.o _)).mono ?_;rintro r R ⟨E,D,b,rfl,ap,h8,ag,aa⟩;have J:Hid (Below I.heap.size I R):=(by first | exact ad.o.trans (ap.mono ad.o.size) | exact(ae.o _).trans (ap.mono (ae.o _).size));have ac:=za aa;have W:=za ag;have H8:=za h8;(first | (have HQ:=za (aA.o R E D ap h8)) | (have HQ:=za (aB.o R E D h8)));have bb:=HQ.o.1;clear ap h8 ag aa))
  all_goals (rename_i af;clear af)
  all_goals go_wp2_with fail
  all_goals go_meet
  all_goals first
   | exact⟨I.heap.size,E,D,b,rfl,rfl,HQ.o.2,Nat.le_refl _,zr J.o (Nat.le_refl _) _ _,H8.o,W.o,ac.o⟩
   | exact⟨R.heap.size,E,D,b,rfl,rfl,HQ.o.2,J.o.size,zr (J.o.alloc J.o.size _) J.o.size _ _,H8.o,W.o,ac.o⟩
 case rest =>
  obtain⟨tb,E,D,b,rfl,rfl,aR,au,aI,h8,ag,aa⟩:=hcut;obtain⟨X,hX⟩:∃ X,X=wc:=⟨_,rfl⟩
  subst hX;have S:=za aI;have a2:=za aR;have ac:=za aa;have W:=za (And.intro h8 ag);clear aR au aI h8 ag aa HK a8 aA aB ad ae;cases aZ with
  | false =>
   have K:=za (Y.o.below S.o);have HU:=za (za0 ⟨cb,0,none⟩ .returning X.drew (zf K.o.cli 0 _ H.o.2.2.2).1 (zf K.o.cli 0 _ H.o.2.2.2).2);have qe:X.cell? ⟨0,0,none⟩=some (.iface 344 (.pointer (some (U 2)))):=zb4 K.o.base HS.o.check;go_wp2_with fail;go_region_held3 (fun w'=>w'.cell? ⟨0,0,none⟩=some (.iface 344 (.pointer (some (U 2))))) (go_keep) (fail);rename_i af;clear af;go_wp2_with fail;refine leaves_cons (f:=49) (args:=#[.pointer (some ⟨cb,0,none⟩)]) (by simp) (by simp [go_sem]) ?_;refine HU.o.mono ?_;rintro e u' w9 ⟨rfl,rfl,rfl⟩;simp only [Leaves,settle];refine⟨.tuple #[.slice none 0 0,j4 U 2],by simp [results,Tryz.results21,go_sem,j4],?_⟩;rw [ak.o];refine⟨none,.inl rfl,?_,.inr ⟨rfl,rfl⟩⟩;exact zcu (w8:=X.drew) (c':=c) HH.o HT.o ((an.o.then_below S.o).then_below (Below.refl _ X).drew) ((ai.o.below S.o.size).below (Nat.le_refl _)) (ve.refl _ _ _) (K.o.below (Below.refl _ X).drew) H.o.2.1 H.o.2.2.1 H.o.2.2.2 (fun _=>trivial)
  | true =>
   cases b with
   | false =>
    have K:=za (Y.o.below S.o);have HU:=za (za0 ⟨cb,0,none⟩ .returning X.drew (zf K.o.cli 0 _ H.o.2.2.2).1 (zf K.o.cli 0 _ H.o.2.2.2).2);have qe:X.cell? ⟨0,0,none⟩=some (.iface 344 (.pointer (some (U 2)))):=zb4 K.o.base HS.o.check;go_wp2_with fail;go_region_held3 (fun w'=>w'.cell? ⟨0,0,none⟩=some (.iface 344 (.pointer (some (U 2))))) (go_keep) (fail);rename_i af;clear af;go_wp2_with fail;refine leaves_cons (f:=49) (args:=#[.pointer (some ⟨cb,0,none⟩)]) (by simp) (by simp [go_sem]) ?_;refine HU.o.mono ?_;rintro e u' w9 ⟨rfl,rfl,rfl⟩;simp only [Leaves,settle];refine⟨.tuple #[.slice none 0 0,j4 U 2],by simp [results,Tryz.results21,go_sem,j4],?_⟩;rw [ak.o];refine⟨none,?_,?_,.inr ⟨rfl,rfl⟩⟩
    ·rcases ac.o with h | h
     ·exact absurd h.1 (by decide)
     ·exact .inr h.2
    exact zcu (w8:=X.drew) (c':=c) HH.o HT.o ((an.o.then_below S.o).then_below (Below.refl _ X).drew) ((ai.o.below S.o.size).below (Nat.le_refl _)) (ve.refl _ _ _) (K.o.below (Below.refl _ X).drew) H.o.2.1 H.o.2.2.1 H.o.2.2.2 (fun _=>trivial)
   | true =>
    have a9:Hid (vp t c.key E D):=by
     rcases ac.o with h | h
     ·exact h.2
     ·exact absurd h.1 (by decide)
    have K:=za (Y.o.below S.o);have a0:=za (an.o.then_below S.o);have aj:=za (ai.o.below S.o.size);have aN:(zmp (.pointer (some ⟨tb,0,none⟩))).run Tryz.prog X= .ok (.agg (trC E D).toArray) X:=zgv (y9 a2.o) W.o.1;have am:=za (z1u W0 U O (Ext A W2 I) OP cb nb db pm nm _ d c.room c.proved n3 0 c.size E c.root D bc W.o.2 W.o.1 H.o.2.2.1 HE.o HS.o aX.o al.o.2.2.1 al.o.2.2.2 (fun b Q=>(HH.o.own b (.inr (.inl Q))).1) X K.o);rw [← zwi] at am;have aE:Hid (∀ o pr s1,qv (zu d.fs) zcd c n3 E D=(o,pr,s1)→zgq (zu d.fs) zcd c n3 (some (E,D))=match o with | .inl e=>(.inl e,c,s1) | .inr ps=>(.inr ps,{ c with size:=E,root:=D,proved:=pr },s1)):=by
     intro o pr s1 e;unfold zgq;simp only [e];cases o<;>rfl
    have aU:Hid (∀ e pr s1,qv (zu d.fs) zcd c n3 E D=(.inl e,pr,s1)→pr=c.proved):=fun e pr s1 h=>zwe h;clear Y an ai;unfold zo at am;generalize qv (zu d.fs) zcd c n3 E D=PC at *
    obtain⟨o,bd,n4⟩:=PC;simp only at *
    go_wp2_with fail;refine am.o.mono ?_;rintro r w5 ⟨ah,hr⟩;obtain⟨pv,ev,rfl,ba,hr⟩:=hr.join;obtain⟨A',aF,hA,hP,aJ,-⟩:=ah.cs;have aD:Hid (zg (fun b=>O b∨A b∨OP b∨b=cb) (qh::clT) W2 w5):=by
     refine a0.o.trans ((ve.turn (cb:=cb) ah.turn).mono (fun b Q=>?_) (fun _ h=>h));rcases Q with Q | Q | Q | Q
     ·exact .inl (.inl Q)
     ·exact(aj.o.2 b Q).imp (fun h=> .inr (.inl h)) id
     ·exact .inl (.inr (.inr (.inl Q)))
     ·exact .inl (.inr (.inr (.inr Q)))
    have az:=za a0.o.size;have av:Hid (ve A A' W2 w5):=⟨fun b Q=>hA.1 b (aj.o.1 b Q),fun b Q=>by
     have:=az.o;rcases hA.2 b Q with h | h
     ·exact(aj.o.2 b h).imp id (fun h=>⟨h.1,Nat.lt_of_lt_of_le h.2 ah.turn.size⟩)
     ·exact .inr ⟨by omega,h.2⟩⟩
    have ay:Hid (ve OP aF W2 w5):=⟨hP.1,fun b Q=>(hP.2 b Q).imp id (fun h=>⟨Nat.le_trans az.o h.1,h.2⟩)⟩
    have V:=za aJ;have HR:=za hr;have aY:=za (ah.turn.keep a2.o (by decide));clear ah hr hA hP aJ am K a0 aj a2 aN;have a6:Hid (w.heap.size≤X.heap.size):=by have:=az.o;have:=aC.o;show _≤_;omega
    rcases ba with ⟨rfl,ps,rfl⟩ | ⟨ty,p,er,rfl,rfl,rfl⟩
    ·have aN:(zmp (.pointer (some ⟨tb,0,none⟩))).run Tryz.prog w5= .ok (.agg (trC E D).toArray) w5:=zgv (y9 aY.o) W.o.1;obtain⟨bb,C',ao,a3,aL,aq,aO⟩:=z1s (n:=E) V.o.cli V.o.cells H.o.2.1 H.o.2.2.2 H.o.2.2.1 W.o.1;have aw:=za (And.intro a3 (And.intro aL (And.intro aq aO)));have a5:zg (fun b=>b=cb) [qh] w5 (w5.setCells cb 4 (trC E D)):=zg.setCells (O:=fun b=>b=cb) (T:=[qh]) (zg.refl _ _ w5) (.inl rfl) V.o.cli (by simp) _ _;have aV:Hid (W0.heap.size≤cb∧¬ A' cb∧¬ aF cb):=by
      have h1:=HH.o.own cb (.inr (.inr rfl));have h2:=aC.o;refine⟨h1.1,fun e=>?_,fun e=>?_⟩
      ·rcases av.o.2 cb e with h | h
       ·exact HH.o.cbA h
       ·omega
      ·rcases ay.o.2 cb e with h | h
       ·exact HH.o.cbP h
       ·omega
     have a7:=za (V.o.client a5 aV.o ao a3);have a1:=za a5;have HU:=za (za0 ⟨cb,0,none⟩ .returning (w5.setCells cb 4 (trC E D)) (zf ao 0 _ aq).1 (zf ao 0 _ aq).2);clear ao a3 aL aq aO a5;generalize w5.setCells cb 4 (trC E D)=W6 at *
     go_wp2_with fail;refine leaves_cons (f:=49) (args:=#[.pointer (some ⟨cb,0,none⟩)]) (by simp) (by simp [go_sem]) ?_;refine HU.o.mono ?_;rintro e u' w9 ⟨rfl,rfl,rfl⟩;simp only [Leaves,settle];refine⟨.tuple #[pv,.nilIface],by simp [results,Tryz.results21,go_sem],?_⟩;rw [ak.o];refine⟨some (E,D),⟨rfl,a9.o⟩,?_⟩;rw [aE.o _ _ _ rfl];have s6:=a1.o.size;refine⟨zcu (w8:=W6) (c':={ c with size:=E,root:=D,proved:=bd }) HH.o HT.o (aD.o.trans (a1.o.mono (fun b Q=> .inl (.inr (.inr (.inr Q)))) (by decide))) (av.o.below s6) (ay.o.below s6) a7.o aw.o.2.1 aw.o.2.2.2 aw.o.2.2.1 (fun _=>trivial),.inl ((HR.o (fun b=>b=cb) _ ?_).lower a6.o)⟩;exact a1.o.trans ((zg.set (O:=fun b=>b=cb) (T:=[qh]) (zg.refl _ _ W6) (.inl rfl) a7.o.cli (by simp) _).mono (fun _ h=> .inl h) (fun _ h=>h))
    ·obtain rfl:=aU.o _ _ _ rfl;have HU:=za (za0 ⟨cb,0,none⟩ .returning w5 (zf V.o.cli 0 _ H.o.2.2.2).1 (zf V.o.cli 0 _ H.o.2.2.2).2);go_wp2_with fail;refine leaves_cons (f:=49) (args:=#[.pointer (some ⟨cb,0,none⟩)]) (by simp) (by simp [go_sem]) ?_;refine HU.o.mono ?_;rintro e u' w9 ⟨rfl,rfl,rfl⟩;simp only [Leaves,settle];refine⟨.tuple #[.slice none 0 0,.iface ty p],by simp [results,Tryz.results21,go_sem],?_⟩;rw [ak.o];refine⟨some (E,D),⟨rfl,a9.o⟩,?_⟩;rw [aE.o _ _ _ rfl];refine⟨zcu (w8:=w5) (c':=c) HH.o HT.o aD.o av.o ay.o V.o H.o.2.1 H.o.2.2.1 H.o.2.2.2 (fun _=>trivial),.inl ((HR.o (fun b=>b=cb) _ ?_).lower a6.o)⟩;exact zg.set (O:=fun b=>b=cb) (T:=[qh]) (zg.refl _ _ w5) (.inl rfl) V.o.cli (by simp) _
end
section
attribute [local go_sem ↓] yv yl yy yo yj ym yx yk za2 zah
def z32 (h:Array (Nat×Value)):Sem Value:=Instr.build 95 h
theorem zt8 (h:Array (Nat×Value)):Instr.build 95 h=z32 h:=rfl
def z4b (h:Array (Nat×Value)):Sem Value:=Instr.build qh h
theorem zs2 (h:Array (Nat×Value)):Instr.build qh h=z4b h:=rfl
attribute [local go_sem ↓] zt8 zs2
theorem z03 (h:List UInt8)(r:h.length=8)(w:World):(z32 #[(1,.agg (hv h))]).run Tryz.prog w= .ok (.agg (trC 0 h).toArray) w:=by
 obtain⟨A,D,E,H,I,J,K,L,rfl⟩:=hv8 h r;kernel_rfl
def zxc (tv:Value)(key:List UInt8)(n:Nat)(root:List UInt8)(h nm:Nat):List Value:=[.int .i32 0,.int .u32 0,tv,txv key]++(trC n root++[zo h,zo nm])
theorem z2f (tv:Value)(r:tv= .nilIface∨∃ t p,tv= .iface t p)(key h:List UInt8)(D:h.length=8)(A nm:Nat)(w:World):(z4b #[(1,tv),(2,.string ⟨key.toArray⟩),(3,.agg (trC 0 h).toArray),(4,.pointer (some ⟨A,0,none⟩)),(5,.pointer (some ⟨nm,0,none⟩))]).run Tryz.prog w= .ok (.agg (zxc tv key 0 h A nm).toArray) w:=by
 obtain⟨E,H,I,J,K,L,Q,R,rfl⟩:=hv8 h D;rcases r with rfl | ⟨t,p,rfl⟩
 ·kernel_rfl
 ·kernel_rfl
theorem zt7 (tv:Value)(W:tv= .nilIface∨∃ t p,tv= .iface t p)(key:List UInt8)(room:Int)(w:World):
  Calls Tryz.prog 14 #[tv,txv key,.int .i64 room] w fun r w'=>∃(cb H nm:Nat) (A OP:Nat→Prop),r= .returned (zo cb)∧Below w.heap.size w w'∧cb < w'.heap.size∧w.heap.size≤cb∧(∀ k,A k→w.heap.size≤k∧k < cb)∧(∀ k,OP k→w.heap.size≤k∧k < cb∧¬ A k)∧zdh w' OP H room []∧zab w' A nm zbh []∧w'.heap[cb]?=some (.cells (zxc tv key 0 (xe 0 []) H nm).toArray qh (0,0)):=by
 have HR:=za (zji 0 (.slice none 0 0) [] w (by simp) (by simp) (by simp) ⟨none,0,rfl,by simp,.inl rfl⟩);have K:Hid ((xe 0 []).length=8):=qk _ _;have HV:=za W;clear W;generalize xe 0 []=R at *
 have ac:=fun X=>z03 R K.o X;have aa:=fun H nm X=>z2f tv HV.o key R K.o H nm X;unfold txv;go_enter Tryz.func14,Tryz.ntmps14;go_wp2_with fail;refine HR.o.mono ?_;rintro r w1 ⟨rfl,L⟩;have I:=za L;clear L HR;go_wp2_with fail;refine(z3k room w1).mono ?_;rintro r w2 ⟨H,rfl,Q,V⟩;have J:=za Q;have Z:=za V;clear Q V;unfold zo;go_wp2_with fail;refine(z50 zbh w2).mono ?_;rintro r w3 ⟨nm,rfl,S,U⟩;have D:=za S;have Y:=za U;clear S U;unfold zo;go_wp2_with fail;go_ret;have s1:=I.o.size;have s2:=J.o.size;have s3:=D.o.size;have E:=ze w3 (.cells (zxc tv key 0 R H nm).toArray qh);refine⟨w3.heap.size,H,nm,fun k=>w2.heap.size≤k∧k < w3.heap.size,fun k=>w1.heap.size≤k∧k < w2.heap.size,rfl,?_,by simp,by omega,fun k hk=>⟨by omega,hk.2⟩,fun k hk=>⟨by omega,by omega,fun h=>by omega⟩,(Z.o.below D.o (fun _ h=>h)).below E (fun _ h=>h),Y.o.below E (fun _ h=>h),heap_alloc_last _ _⟩;exact((I.o.trans (J.o.mono (by omega))).trans (D.o.mono (by omega))).trans (E.mono (by omega))
theorem z7a {D n r nm:Nat}{key root:List UInt8}(room:Int)(J:Mm)(h:root.length=8):CBl (zxc (znj D) key n root r nm).toArray D r nm ⟨key,n,root,room,J⟩:=by
 have E:=zca n h;have A:∀ j,(zxc (znj D) key n root r nm).toArray[4+j]?=(trC n root++[zo r,zo nm])[j]?:=fun j=>by
  rw [List.getElem?_toArray,zxc,List.getElem?_append_right (by simp)];congr 1;simp
 have I:(trC n root++[zo r,zo nm])[9]?=some (zo r):=by
  rw [List.getElem?_append_right (by omega),E];rfl
 have H:(trC n root++[zo r,zo nm])[10]?=some (zo nm):=by
  rw [List.getElem?_append_right (by omega),E];rfl
 refine⟨⟨rfl,(A 9).trans I,(A 10).trans H⟩,rfl,rfl,⟨(A 0).trans ?_,fun j v hv=>?_,h⟩⟩
 ·rw [List.getElem?_append_left (by omega)];rfl
 ·have K:j < 8:=by
   have:=(List.getElem?_eq_some_iff.1 hv).1;simp at this;omega
  rw [show 5+j=4+(j+1) by omega,A (j+1),List.getElem?_append_left (by omega)];exact hv
theorem z2r (R:World)(O:Nat→Prop)(L:Nat)(key:List UInt8)(room:Int)(w:World)(V:R.heap.size≤w.heap.size)(S:∀ b,O b→b < w.heap.size):
  Calls Tryz.prog 14 #[znj L,txv key,.int .i64 room] w fun r w'=>∃(cb Q nm:Nat) (A D:Nat→Prop),r= .returned (zo cb)∧Below w.heap.size w w'∧w.heap.size≤cb∧(∀ k,A k∨D k→w.heap.size≤k)∧Pv R w' O A D cb L Q nm ⟨key,0,xe 0 [],room,[]⟩:=by
 refine(zt7 (znj L) (.inr ⟨_,_,rfl⟩) key room w).mono ?_;rintro r w' ⟨cb,Q,nm,A,D,rfl,U,h1,h2,H,E,K,J,W⟩;refine⟨cb,Q,nm,A,D,rfl,U,h2,fun k X=>X.elim (fun h=>(H k h).1) (fun h=>(E k h).1),⟨fun b I=>?_,fun b h=>(E b h).2.2,fun h=>Nat.lt_irrefl _ (H cb h).2,fun h=>Nat.lt_irrefl _ (E cb h).2.1,⟨_,W,z7a room [] (qk _ _)⟩,⟨[],K,.nil⟩,J⟩⟩;have:w.heap.size≤b∧b≤cb:=by
  rcases I with h | h | rfl
  ·have:=H b h;omega
  ·have:=E b h;omega
  ·omega
 exact⟨by omega,by omega,fun h=>by have:=S b h;omega⟩
end
end Go.Proofs.YtndkblnpbjffhaaGreatDoor
