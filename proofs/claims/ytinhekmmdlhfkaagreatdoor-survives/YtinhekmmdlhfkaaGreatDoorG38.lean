import Derived.Test.YtinhekmmdlhfkaaGreatDoorG01
import Derived.Conc.MuLone
import Derived.KernelRfl
import Derived.Test.YtinhekmmdlhfkaaGreatDoorG37
namespace Go.Proofs.YtinhekmmdlhfkaaGreatDoor
section
open Go.RowKit
abbrev z8a:Go.Conc.Locks.MuLink:={ lock:=54,unlock:=55,ilock:=89,iunlock:=90,lockSlow:=131,unlockSlow:=134,disable:=127,enable:=129,acquire:=130,relMerge:=132,cas32:=128,add32:=133,tMutex:=140,tIMutex:=138,tPMutex:=197,tPIMutex:=248,tPI32:=250,tUP:=171,tNoCopy:=135,tU32:=136 }
theorem z7u:Go.Conc.Locks.MuLib Tryz.prog z8a :=
 ⟨Tryz.func54,Tryz.func55,Tryz.func89,Tryz.func90,Tryz.func127,Tryz.func129,Tryz.func130,Tryz.func132,Tryz.func128,Tryz.func133,
  Tryz.underlying138,Tryz.runUnderlying138,Tryz.sizeOf138,Tryz.isAgg138,Tryz.zeroValue138,
  Tryz.underlying140,Tryz.runUnderlying140,Tryz.sizeOf140,Tryz.isAgg140,Tryz.zeroValue140,
  Tryz.underlying197,Tryz.runUnderlying197,Tryz.sizeOf197,Tryz.isAgg197,Tryz.zeroValue197,
  Tryz.underlying248,Tryz.runUnderlying248,Tryz.sizeOf248,Tryz.isAgg248,Tryz.zeroValue248,
  Tryz.underlying250,Tryz.runUnderlying250,Tryz.sizeOf250,Tryz.isAgg250,Tryz.zeroValue250,
  Tryz.underlying171,Tryz.runUnderlying171,Tryz.sizeOf171,Tryz.isAgg171,Tryz.zeroValue171,
  Tryz.underlying135,Tryz.runUnderlying135,Tryz.sizeOf135,Tryz.isAgg135,Tryz.zeroValue135,
  Tryz.underlying21,Tryz.runUnderlying21,Tryz.sizeOf21,Tryz.isAgg21,Tryz.zeroValue21,(by kernel_rfl)⟩
theorem zne (a:Addr)(w:World)(hc:w.cell? a=some (.int .i32 0))(hz:w.frozen? a=false):Calls Tryz.prog 54 #[.pointer (some a)] w fun e w'=>e= .returned (.tuple #[])∧w'=w.setCell a (.int .i32 1):=Go.MuLone.lock_free z7u a w hc hz
theorem zca (a:Addr)(u:FrameMode)(w:World)(hc:w.cell? a=some (.int .i32 1))(hz:w.frozen? a=false):CallsD Tryz.prog 55 #[.pointer (some a)] u w fun e u' w'=>u'=u∧(e= .returned (.tuple #[])∧w'=w.setCell a (.int .i32 0)):=Go.MuLone.unlock_deferred z7u a u w hc hz
end
section
set_option maxHeartbeats 4000000
open Go.RowKit
set_option maxRecDepth 100000
attribute [local go_sem ↓] yq yk yt yp yn yo yu yl zay zae
structure CBl (C:Array Value)(nb pm nm:Nat)(c:Cl):Prop where
 ccs:CCs C nb pm nm
 mu:C[0]?=some (.int .i32 0)
 key:C[3]?=some (txv c.key)
 num:zjj C c.size c.root
structure Pv (W0 w:World)(O A OP:Nat→Prop)(cb nb pm nm:Nat)(c:Cl):Prop where
 own:∀ b,A b∨OP b∨b=cb→W0.heap.size≤b∧b < w.heap.size∧¬ O b
 sep:∀ b,OP b→¬ A b
 cbA:¬ A cb
 cbP:¬ OP cb
 cli:∃ C,w.heap[cb]?=some (.cells C qw (0,0))∧CBl C nb pm nm c
 prv:zgl w OP pm c.room c.proved
 nee:vt w A nm zbe []
structure Sh (W0 w:World)(O:Nat→Prop)(nb db:Nat)(d:Dk)(n:Nt):Prop where
 base:Below W0.heap.size W0 w
 own:∀ b,O b→W0.heap.size≤b∧b < w.heap.size
 disk:zm w O db d
 net:j5 w O nb db n
 st:NSt d n
theorem Pv.cs {W0 w:World}{O A OP:Nat→Prop}{cb nb db pm nm:Nat}{d:Dk}{c:Cl}{n:Nt}{k:Nat}{C:Array Value}(h:Pv W0 w O A OP cb nb pm nm c)(hs:Sh W0 w O nb db d n)(hC:w.heap[cb]?=some (.cells C qw (0,0)))(hcc:CCs C nb pm nm)(hk:n.fetches+2*k < 4611686018427387904)(hk2:k≤1000000000):CS W0 w O A OP cb nb db pm nm C d c.room c.proved ⟨n,[]⟩ k :=
 ⟨hs.base,fun b hb=>hb.elim (fun h=>(hs.own b h).1) (fun h'=>(h.own b (.inl h')).1),fun b hO hA=>(h.own b (.inl hA)).2.2 hO,fun b hb=>by
  rcases hb with hb | hb | hb
  ·exact(hs.own b hb).2
  ·exact(h.own b (.inl hb)).2.1
  ·exact(h.own b (.inr (.inl hb))).2.1,hs.disk,hs.net,hs.st,hk,hC,hcc,h.prv,fun b hP hb=>by
  rcases hb with hb | hb
  ·exact(h.own b (.inr (.inl hP))).2.2 hb
  ·exact h.sep b hP hb,⟨[],h.nee,.nil,by simp⟩,by simpa using hk2⟩
theorem Sh.drop {W0 w:World}{O A OP:Nat→Prop}{cb nb db pm nm:Nat}{C:Array Value}{d:Dk}{room:Int}{pr:Mm}{m:Ms Nt}{k:Nat}(h:CS W0 w O A OP cb nb db pm nm C d room pr m k):Sh W0 w O nb db d m.net :=
 ⟨h.base,fun b hb=>⟨h.own b (.inl hb),h.lt b (.inl hb)⟩,h.disk,h.net,h.st⟩
theorem CS.client {W0 w w':World}{O A OP:Nat→Prop}{cb nb db pm nm:Nat}{C C':Array Value}{d:Dk}{room:Int}{pr:Mm}{m:Ms Nt}{k:Nat}(h:CS W0 w O A OP cb nb db pm nm C d room pr m k)(ht:zf (fun b=>b=cb) [qw] w w')(hx:W0.heap.size≤cb∧¬ A cb∧¬ OP cb)(hC:w'.heap[cb]?=some (.cells C' qw (0,0)))(hcc:CCs C' nb pm nm):CS W0 w' O A OP cb nb db pm nm C' d room pr m k :=
 ⟨h.base.trans (ht.below (fun b hb=>by rw [hb];exact hx.1) h.base.size),h.own,h.apart,fun b hb=>Nat.lt_of_lt_of_le (h.lt b hb) ht.size,h.disk.stay ht (by decide) (by decide),h.net.turn ht (by decide) (by decide) (by decide),h.st,h.few,hC,hcc,h.prv.stay ht (fun b hb e=>hx.2.2 (by rw [← e];exact hb)) (by decide) (fun _ h=>h),h.away,h.nee.stay ht (fun b hb e=>hx.2.1 (by rw [← e];exact hb)) (by decide) (by decide) (fun _ h=>h),h.short⟩
theorem CCs.set {C:Array Value}{nb pm nm:Nat}(h:CCs C nb pm nm)(i:Nat)(v:Value)(hi:i≠2∧i≠13∧i≠14):CCs (C.setIfInBounds i v) nb pm nm :=
 ⟨by rw [Array.getElem?_setIfInBounds_ne hi.1];exact h.net,by rw [Array.getElem?_setIfInBounds_ne hi.2.1];exact h.prv,by rw [Array.getElem?_setIfInBounds_ne hi.2.2];exact h.nee⟩
theorem zjj.set0 {C:Array Value}{size:Nat}{root:List UInt8}(h:zjj C size root)(v:Value):zjj (C.setIfInBounds 0 v) size root :=
 ⟨by rw [Array.getElem?_setIfInBounds_ne (by omega)];exact h.sz,fun j u hu=>by rw [Array.getElem?_setIfInBounds_ne (by omega)];exact h.rt j u hu,h.r8⟩
theorem z4s {C:Array Value}{i:Nat}{v:Value}(h:C[i]?=some v):C.setIfInBounds i v=C:=by
 apply Array.ext_getElem?
 intro j
 by_cases hj:i=j
 ·subst hj
  rw [Array.getElem?_setIfInBounds_self_of_lt (Array.getElem?_eq_some_iff.1 h).1,h]
 ·rw [Array.getElem?_setIfInBounds_ne hj]
theorem ztm (W0:World)(O A OP:Nat→Prop)(cb nb pm nm:Nat)(c:Cl)(w:World)(h:Pv W0 w O A OP cb nb pm nm c):
  Calls Tryz.prog 34 #[zt cb] w fun r w'=>r= .returned (.agg (trC c.size c.root).toArray)∧zf (fun b=>b=cb) [qw] w w'∧w'.heap[cb]?=w.heap[cb]?:=by
 obtain⟨C,hC,hB⟩:=h.cli
 have HC:=za hC
 have HB:=za hB
 clear hC hB h
 unfold zt
 go_enter_defers Tryz.func34,Tryz.ntmps34
 go_wp2_with fail
 have HX:Hid ((w.alloc (.cells #[.int .i64 0,.int .u8 0,.int .u8 0,.int .u8 0,.int .u8 0,.int .u8 0,.int .u8 0,.int .u8 0,.int .u8 0] 93)).heap[cb]?=some (.cells C qw (0,0))∧(w.alloc (.cells #[.int .i64 0,.int .u8 0,.int .u8 0,.int .u8 0,.int .u8 0,.int .u8 0,.int .u8 0,.int .u8 0,.int .u8 0] 93)).heap[w.heap.size]?=some (.cells (trC 0 xd).toArray 93 (0,0))∧Below w.heap.size w (w.alloc (.cells #[.int .i64 0,.int .u8 0,.int .u8 0,.int .u8 0,.int .u8 0,.int .u8 0,.int .u8 0,.int .u8 0,.int .u8 0] 93))∧cb < w.heap.size):=⟨zc HC.o,heap_alloc_last _ _,ze _ _,zb HC.o⟩
 generalize w.alloc (.cells #[.int .i64 0,.int .u8 0,.int .u8 0,.int .u8 0,.int .u8 0,.int .u8 0,.int .u8 0,.int .u8 0,.int .u8 0] 93)=W1 at *
 have HL:=za (zne ⟨cb,0,none⟩ W1 (zg HX.o.1 0 _ HB.o.mu).1 (zg HX.o.1 0 _ HB.o.mu).2)
 refine HL.o.mono ?_
 rintro r w2 ⟨rfl,rfl⟩
 have HC2:Hid ((W1.setCell ⟨cb,0,none⟩ (.int .i32 1)).heap[cb]?=some (.cells (C.setIfInBounds 0 (.int .i32 1)) qw (0,0))):=qj HX.o.1 0 _
 have HR2:Hid ((W1.setCell ⟨cb,0,none⟩ (.int .i32 1)).heap[w.heap.size]?=some (.cells (trC 0 xd).toArray 93 (0,0))):=by
  show _=_
  rw [heap_setCell_other _ _ _ _ (by show w.heap.size≠cb;have:=HX.o.2.2.2;omega)];exact HX.o.2.1
 have HT2:Hid (zf (fun b=>b=cb) [qw] w (W1.setCell ⟨cb,0,none⟩ (.int .i32 1))):=zf.set (O:=fun b=>b=cb) (T:=[qw]) (zf.of_below HX.o.2.2.1) (.inl rfl) HX.o.1 (by simp) _
 generalize W1.setCell ⟨cb,0,none⟩ (.int .i32 1)=W2 at *
 have hN:zjj (C.setIfInBounds 0 (.int .i32 1)) c.size c.root:=HB.o.num.set0 _
 have hld:(zmh (.pointer (some ⟨cb,4,none⟩))).run Tryz.prog W2= .ok (.agg (trC c.size c.root).toArray) W2:=zf2 (hN.range HC2.o) hN.r8
 have hst:(ze6 (.pointer (some ⟨w.heap.size,0,none⟩)) (.agg (trC c.size c.root).toArray)).run Tryz.prog W2= .ok () (W2.setCells w.heap.size 0 (trC c.size c.root)):=zdd (jb HR2.o) hN.r8
 have HR3:Hid ((W2.setCells w.heap.size 0 (trC c.size c.root)).heap[w.heap.size]?=some (.cells (trC c.size c.root).toArray 93 (0,0))):=qz HR2.o (by rw [zb7 _ hN.r8];rfl)
 have HC3:Hid ((W2.setCells w.heap.size 0 (trC c.size c.root)).heap[cb]?=some (.cells (C.setIfInBounds 0 (.int .i32 1)) qw (0,0))):=by
  show _=_
  rw [xy _ _ (by have:=HX.o.2.2.2;omega)];exact HC2.o
 have HT3:Hid (zf (fun b=>b=cb) [qw] w (W2.setCells w.heap.size 0 (trC c.size c.root))):=HT2.o.setCellsNew (Nat.le_refl _) _ _
 have HLT:=za HX.o.2.2.2
 have HN:=za hN
 clear HL HX HR2 hN
 generalize hV:W2.setCells w.heap.size 0 (trC c.size c.root)=V at *
 have hs0:(C.setIfInBounds 0 (.int .i32 1))[0]?=some (.int .i32 1):=Array.getElem?_setIfInBounds_self_of_lt (Array.getElem?_eq_some_iff.1 HB.o.mu).1
 have HU:=za (zca ⟨cb,0,none⟩ .returning V (zg HC3.o 0 _ hs0).1 (zg HC3.o 0 _ hs0).2)
 clear hs0
 go_wp2_with fail
 refine leaves_cons (f:=55) (args:=#[.pointer (some ⟨cb,0,none⟩)]) (by simp) (by simp [go_sem]) ?_
 refine HU.o.mono ?_
 rintro e u' w9 ⟨rfl,rfl,rfl⟩
 simp only [Leaves,settle]
 have h9:(V.setCell ⟨cb,0,none⟩ (.int .i32 0)).heap[w.heap.size]?=some (.cells (trC c.size c.root).toArray 93 (0,0)):=by
  rw [heap_setCell_other _ _ _ _ (by show w.heap.size≠cb;have:=HLT.o;omega)];exact HR3.o
 refine⟨.agg (trC c.size c.root).toArray,?_,rfl,?_,?_⟩
 ·exact zhy Tryz.results34 _ _ w.heap.size _ _ (0,0) _ rfl h9 Tryz.underlying93 rfl (by rw [zt4,List.size_toArray,zb7 _ HN.o.r8])
 ·exact zf.set (O:=fun b=>b=cb) (T:=[qw]) HT3.o (.inl rfl) HC3.o (by simp) _
 ·rw [qj HC3.o,HC.o]
  rw [Array.setIfInBounds_setIfInBounds,z4s HB.o.mu]
end
section
open Go.RowKit
set_option maxRecDepth 100000
attribute [local go_sem ↓] yq yk yt yp yn yo yu yl zay zae
structure CR (W0 w w':World)(O A OP:Nat→Prop)(cb nb db pm nm:Nat)(d:Dk)(c':Cl)(n':Nt)(P:(Nat→Prop)→Prop):Prop where
 turn:zf (fun b=>O b∨A b∨OP b∨b=cb) (qw::clT) w w'
 rest:∃ A' OP',vf A A' w w'∧vf OP OP' w w'∧Pv W0 w' O A' OP' cb nb pm nm c'∧P OP'
 sh:Sh W0 w' O nb db d n'
theorem zo8 {σ:Type}{fe:σ→List UInt8→(List UInt8×Bool)×σ}{inc:List UInt8→Nat→Nat→List (List UInt8)→List UInt8→Bool}(c:Cl)(s:σ)(i:Nat):jd fe inc c s i=((jd fe inc (ju c.size c.root c.room c.proved) s i).1,{ c with proved:=(jd fe inc (ju c.size c.root c.room c.proved) s i).2.1.proved },(jd fe inc (ju c.size c.root c.room c.proved) s i).2.2):=by
 cases hn:xu fe c.proved c.size ⟨s,[]⟩ (-1) i with
 | mk o m =>
  cases o with
  | inl p=>rw [zlo hn,zlo (c:=ju c.size c.root c.room c.proved) hn];rfl
  | inr own =>
   cases hr:yh fe c.proved c.size m (xp 64 0 c.size i) with
   | mk o2 m2 =>
    cases o2 with
    | inl p=>rw [zlh hn hr,zlh (c:=ju c.size c.root c.room c.proved) hn hr];rfl
    | inr ps =>
     cases hi:inc own.hash i c.size ps c.root with
     | false=>rw [zle hn hr hi,zle (c:=ju c.size c.root c.room c.proved) hn hr hi];rfl
     | true=>rw [zlj hn hr hi,zlj (c:=ju c.size c.root c.room c.proved) hn hr hi];rfl
theorem CBl.locked {C:Array Value}{nb pm nm:Nat}{c:Cl}(h:CBl C nb pm nm c):CCs (C.setIfInBounds 0 (.int .i32 1)) nb pm nm∧(C.setIfInBounds 0 (.int .i32 1))[3]?=some (txv c.key)∧zjj (C.setIfInBounds 0 (.int .i32 1)) c.size c.root∧(C.setIfInBounds 0 (.int .i32 1))[0]?=some (.int .i32 1) :=
 ⟨h.ccs.set 0 _ (by omega),by rw [Array.getElem?_setIfInBounds_ne (by omega)];exact h.key,h.num.set0 _,Array.getElem?_setIfInBounds_self_of_lt (Array.getElem?_eq_some_iff.1 h.mu).1⟩
theorem CBl.free {C:Array Value}{nb pm nm:Nat}{c:Cl}(h1:CCs C nb pm nm)(h2:C[3]?=some (txv c.key))(h3:zjj C c.size c.root)(h4:C[0]?=some (.int .i32 1)):CBl (C.setIfInBounds 0 (.int .i32 0)) nb pm nm c :=
 ⟨h1.set 0 _ (by omega),Array.getElem?_setIfInBounds_self_of_lt (Array.getElem?_eq_some_iff.1 h4).1,by rw [Array.getElem?_setIfInBounds_ne (by omega)];exact h2,h3.set0 _⟩
theorem zwu {W0 w w1:World}{O A OP:Nat→Prop}{cb nb db pm nm:Nat}{d:Dk}{c:Cl}{n:Nt}{k:Nat}{C:Array Value}(h:Pv W0 w O A OP cb nb pm nm c)(hs:Sh W0 w O nb db d n)(hC:w.heap[cb]?=some (.cells C qw (0,0)))(hB:CBl C nb pm nm c)(hb:Below w.heap.size w w1)(hk:n.fetches+2*k < 4611686018427387904)(hk2:k≤1000000000):
  CS W0 (w1.setCell ⟨cb,0,none⟩ (.int .i32 1)) O A OP cb nb db pm nm (C.setIfInBounds 0 (.int .i32 1)) d c.room c.proved ⟨n,[]⟩ k∧zf (fun b=>b=cb) [qw] w (w1.setCell ⟨cb,0,none⟩ (.int .i32 1)):=by
 have hC1:w1.heap[cb]?=some (.cells C qw (0,0)):=(hb.block _ (zb hC)).trans hC
 have ht:zf (fun b=>b=cb) [qw] w1 (w1.setCell ⟨cb,0,none⟩ (.int .i32 1)):=zf.set (O:=fun b=>b=cb) (T:=[qw]) (zf.refl _ _ _) (.inl rfl) hC1 (by simp) _
 refine⟨((h.cs hs hC hB.ccs hk hk2).below hb).client ht ⟨(h.own cb (.inr (.inr rfl))).1,h.cbA,h.cbP⟩ (qj hC1 0 _) hB.locked.1,?_⟩
 exact(zf.of_below hb).trans (ht.mono (fun _ h=> .inl h) (fun _ h=>h))
theorem zer {W0 w w2 w8:World}{O A OP:Nat→Prop}{cb nb db pm nm:Nat}{d:Dk}{c c':Cl}{n':Nt}{k:Nat}{C:Array Value}(h:Pv W0 w O A OP cb nb pm nm c)(ht:zf (fun b=>b=cb) [qw] w w2){A' OP':Nat→Prop}(ht8:zf (fun b=>O b∨A b∨OP b∨b=cb) (qw::clT) w2 w8)(hA:vf A A' w2 w8)(hP:vf OP OP' w2 w8)(hcs:CS W0 w8 O A' OP' cb nb db pm nm C d c'.room c'.proved ⟨n',[]⟩ k)
  (h2:C[3]?=some (txv c'.key)) (h3:zjj C c'.size c'.root) (h4:C[0]?=some (.int .i32 1)) {P:(Nat→Prop)→Prop} (hQ:¬ OP' cb→P OP'):CR W0 w (w8.setCell ⟨cb,0,none⟩ (.int .i32 0)) O A OP cb nb db pm nm d c' n' P:=by
 have hcb:=h.own cb (.inr (.inr rfl))
 have s1:=ht.size
 have s2:=ht8.size
 have hcA:¬ A' cb:=fun e=>by
  rcases hA.2 cb e with e | e
  ·exact h.cbA e
  ·omega
 have hcP:¬ OP' cb:=fun e=>by
  rcases hP.2 cb e with e | e
  ·exact h.cbP e
  ·omega
 have ht9:zf (fun b=>b=cb) [qw] w8 (w8.setCell ⟨cb,0,none⟩ (.int .i32 0)):=zf.set (O:=fun b=>b=cb) (T:=[qw]) (zf.refl _ _ _) (.inl rfl) hcs.cli (by simp) _
 have hc9:=hcs.client ht9 ⟨hcb.1,hcA,hcP⟩ (qj hcs.cli 0 _) (hcs.cells.set 0 _ (by omega))
 have s3:(w8.setCell ⟨cb,0,none⟩ (.int .i32 0)).heap.size=w8.heap.size:=by simp [World.setCell]
 refine⟨?_,⟨A',OP',⟨hA.1,fun b hb=>(hA.2 b hb).imp id (fun h=>⟨by omega,by omega⟩)⟩,⟨hP.1,fun b hb=>(hP.2 b hb).imp id (fun h=>⟨by omega,by omega⟩)⟩,?_,hQ hcP⟩,Sh.drop hc9⟩
 ·refine(ht.mono (fun b hb=> .inr (.inr (.inr hb))) (by decide)).trans ((ht8.mono (fun _ h=> .inl h) (fun _ h=>h)).trans (ht9.mono (fun b hb=> .inl (.inl (.inr (.inr (.inr hb))))) (by decide)))
 ·refine⟨fun b hb=>?_,fun b hP' hA'=>hcs.away b hP' (.inr hA'),hcA,hcP,⟨_,qj hcs.cli 0 _,CBl.free hcs.cells h2 h3 h4⟩,hc9.prv,?_⟩
  ·rcases hb with hb | hb | rfl
   ·exact⟨hcs.own b (.inr hb),hc9.lt b (.inr (.inl hb)),fun e=>hcs.apart b e hb⟩
   ·refine⟨?_,hc9.lt b (.inr (.inr hb)),fun e=>hcs.away b hb (.inl e)⟩
    rcases hP.2 b hb with e | e
    ·exact(h.own b (.inr (.inl e))).1
    ·have:=hcs.base.size;have:=h.own cb (.inr (.inr rfl));omega
   ·exact⟨hcb.1,by omega,hcb.2.2⟩
  ·obtain⟨L,hm,h0,-⟩:=hc9.nee
   obtain rfl:L=[]:=h0.empty
   exact hm
end
section
set_option maxHeartbeats 4000000
open Go.RowKit
set_option maxRecDepth 100000
attribute [local go_sem ↓] yq yk yt yp yn yo yu yl zay zae
theorem zgv.join {at_:Nat→Addr}{B:Nat}{w':World}{o:Sum Er (List UInt8×List (List UInt8))}{r:Ending}(h:zgv at_ B w' o r):∃ x v e,r= .returned (.tuple #[x,v,e])∧∀(N:Nat→Prop) (w'':World),zf N [qw] w' w''→zgv at_ B w'' o r:=by
 rcases h with ⟨e,ps,x,v,h1,h2,h3,h4,h5⟩ | ⟨p,g,h1,h2,h3⟩ | ⟨h1,h2⟩
 ·refine⟨x,v,_,h5,fun N w'' ht=> .inl ⟨e,ps,x,v,h1,?_,zo h3 ht (by decide),h4,h5⟩⟩
  rcases h2 with h2 | h2
  ·exact .inl h2
  ·exact .inr ⟨zo h2.1 ht (by decide),h2.2⟩
 ·exact⟨_,_,_,h3,fun N w'' ht=> .inr (.inl ⟨p,g,h1,ht.keep h2 (by decide),h3⟩)⟩
 ·exact⟨_,_,_,h2,fun N w'' ht=> .inr (.inr ⟨h1,h2⟩)⟩
theorem vf.turn {O A OP:Nat→Prop}{cb:Nat}{w w':World}(h:zf (fun b=>O b∨A b∨OP b) clT w w'):zf (fun b=>O b∨A b∨OP b∨b=cb) (qw::clT) w w':=h.mono (fun _ hb=>hb.imp id (fun h=>h.imp id .inl)) (fun _ ht=>List.mem_cons_of_mem _ ht)
theorem z5i (W0:World)(at_:Nat→Addr)(O A OP:Nat→Prop)(cb nb db pm nm:Nat)(d:Dk)(c:Cl)(n:Nt)(i:Nat)(w:World)(hE:Env W0)(hS:qm W0 at_)(hTb:zdn W0)(h:Pv W0 w O A OP cb nb pm nm c)(hs:Sh W0 w O nb db d n)(hf:n.fetches+20000 < 4611686018427387904)(hsz:c.size < 9223372036854775808)(hi:i < c.size)
  (hent:∀ p m',xu (zq d.fs) c.proved c.size ⟨n,[]⟩ (-1) i=(.inr p,m')→p.entry.length≤1000000) (hpl:c.proved.length≤100000000000) (hwf:WfM c.proved) :
  Calls Tryz.prog 35 #[zt cb,.int .i64 i] w fun r w'=>CR W0 w w' O A OP cb nb db pm nm d (jd (zq d.fs) zav c n i).2.1 (jd (zq d.fs) zav c n i).2.2 (zls w' pm c.room (jd (zq d.fs) zav c n i).2.1.proved r)∧zgv at_ w.heap.size w' (jd (zq d.fs) zav c n i).1 r:=by
 obtain⟨C,hC,hB⟩:=h.cli
 have HL:=za (zne ⟨cb,0,none⟩ w (zg hC 0 _ hB.mu).1 (zg hC 0 _ hB.mu).2)
 obtain⟨hcs,ht⟩:=zwu (k:=8401) h hs hC hB (Below.refl _ w) (by omega) (by omega)
 have HT:=za ht
 have HH:=za h
 have HBL:=za hB.locked
 have HSZ:Hid ((w.setCell ⟨cb,0,none⟩ (.int .i32 1)).heap.size=w.heap.size):=by show _=_;simp [World.setCell]
 have c4:(w.setCell ⟨cb,0,none⟩ (.int .i32 1)).cell? ⟨cb,4,none⟩=some (.int .i64 c.size):=(zg hcs.cli 4 _ hB.locked.2.2.1.sz).1
 have HRP:=za (zl8 W0 at_ O A OP cb nb db pm nm _ d c.room c.proved n 0 c.size i c.root hsz hi hB.locked.2.2.1 hE hS hTb (fun A' OP' pr' k' m' w'=>zjn W0 O A' OP' cb nb db pm nm _ d c.room pr' k' m' w') hent hpl hwf (fun b hb=>(h.own b (.inr (.inl hb))).1) _ (hcs.less (by have:=zkk c.size i (by omega);unfold rPl;omega)))
 have HKEY:=za (zo8 (fe:=zq d.fs) (inc:=zav) c n i)
 have hlt:¬(i:Int) < 0:=by omega
 have hlt2:(i:Int) < (c.size:Int):=by omega
 clear hC hB h hs hcs ht hS hE hTb hent hpl hwf hf
 generalize jd (zq d.fs) zav (ju c.size c.root c.room c.proved) n i=RC at *
 obtain⟨o,c2,n2⟩:=RC
 simp only at *
 unfold zt at HRP ⊢
 go_enter_defers Tryz.func35,Tryz.ntmps35
 go_wp2_with fail
 refine HL.o.mono ?_
 rintro r w2 ⟨rfl,rfl⟩
 clear HL
 generalize w.setCell ⟨cb,0,none⟩ (.int .i32 1)=W2 at *
 go_wp2_with fail
 refine HRP.o.mono ?_
 rintro r w8 ⟨hout,hr⟩
 obtain⟨x,v,e,rfl,hr⟩:=hr.join
 obtain⟨A',OP',hA,hP,hc8,hfr⟩:=hout.cs
 have HFR:=za hfr
 have HU:=za (zca ⟨cb,0,none⟩ .returning w8 (zg hc8.cli 0 _ HBL.o.2.2.2).1 (zg hc8.cli 0 _ HBL.o.2.2.2).2)
 have HOUT:=za hout
 have HR:=za hr
 have HA:=za hA
 have HP:=za hP
 have HC8:=za hc8
 clear hout hr hA hP hc8 hfr HRP c4 hlt hlt2
 go_wp2_with fail
 refine leaves_cons (f:=55) (args:=#[.pointer (some ⟨cb,0,none⟩)]) (by simp) (by simp [go_sem]) ?_
 refine HU.o.mono ?_
 rintro e u' w9 ⟨rfl,rfl,rfl⟩
 simp only [Leaves,settle]
 refine⟨.tuple #[x,v,e],by simp [results,Tryz.results35,go_sem],?_⟩
 rw [HKEY.o]
 have ht9:zf (fun b=>b=cb) [qw] w8 (w8.setCell ⟨cb,0,none⟩ (.int .i32 0)):=zf.set (O:=fun b=>b=cb) (T:=[qw]) (zf.refl _ _ w8) (.inl rfl) HC8.o.cli (by simp) (.int .i32 0) (o:=0)
 refine⟨zer (w8:=w8) (c':={ c with proved:=c2.proved }) HH.o HT.o (vf.turn HOUT.o.turn) HA.o HP.o HC8.o HBL.o.2.1 HBL.o.2.2.1 HBL.o.2.2.2 (fun hcP x' v' e' he=>zi4.on (HFR.o x' v' e' he) ht9 (fun k hk e=>hcP (e▸hk)) (by decide)),?_⟩
 have:=HR.o _ _ (zf.set (O:=fun b=>b=cb) (T:=[qw]) (zf.refl _ _ w8) (.inl rfl) HC8.o.cli (by simp) (.int .i32 0) (o:=0))
 rw [HSZ.o] at this
 exact this
end
end Go.Proofs.YtinhekmmdlhfkaaGreatDoor
