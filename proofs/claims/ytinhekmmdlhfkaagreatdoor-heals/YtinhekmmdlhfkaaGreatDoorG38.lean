import Derived.Test.YtinhekmmdlhfkaaGreatDoorG01
import Derived.Conc.MuLone
import Derived.KernelRfl
import Derived.Test.YtinhekmmdlhfkaaGreatDoorG37
namespace Go.Proofs.YtinhekmmdlhfkaaGreatDoor
section
open Go.RowKit
abbrev muLink:Go.Conc.Locks.MuLink:={ lock:=54,unlock:=55,ilock:=89,iunlock:=90,lockSlow:=131,unlockSlow:=134,disable:=127,enable:=129,acquire:=130,relMerge:=132,cas32:=128,add32:=133,tMutex:=140,tIMutex:=138,tPMutex:=197,tPIMutex:=248,tPI32:=250,tUP:=171,tNoCopy:=135,tU32:=136 }
theorem muLib:Go.Conc.Locks.MuLib Tryz.prog muLink :=
 ⟨Tryz.func54,Tryz.func55,Tryz.func89,Tryz.func90,Tryz.func127,Tryz.func129,Tryz.func130,Tryz.func132,Tryz.func128,Tryz.func133,
  Tryz.underlying138,Tryz.runUnderlying138,Tryz.sizeOf138,Tryz.isAgg138,Tryz.zeroValue138,
  Tryz.underlying140,Tryz.runUnderlying140,Tryz.sizeOf140,Tryz.isAgg140,Tryz.zeroValue140,
  Tryz.underlying197,Tryz.runUnderlying197,Tryz.sizeOf197,Tryz.isAgg197,Tryz.zeroValue197,
  Tryz.underlying248,Tryz.runUnderlying248,Tryz.sizeOf248,Tryz.isAgg248,Tryz.zeroValue248,
  Tryz.underlying250,Tryz.runUnderlying250,Tryz.sizeOf250,Tryz.isAgg250,Tryz.zeroValue250,
  Tryz.underlying171,Tryz.runUnderlying171,Tryz.sizeOf171,Tryz.isAgg171,Tryz.zeroValue171,
  Tryz.underlying135,Tryz.runUnderlying135,Tryz.sizeOf135,Tryz.isAgg135,Tryz.zeroValue135,
  Tryz.underlying21,Tryz.runUnderlying21,Tryz.sizeOf21,Tryz.isAgg21,Tryz.zeroValue21,(by kernel_rfl)⟩
theorem lock_any (a:Addr)(w:World)(hc:w.cell? a=some (.int .i32 0))(hz:w.frozen? a=false):Calls Tryz.prog 54 #[.pointer (some a)] w fun e w'=>e= .returned (.tuple #[])∧w'=w.setCell a (.int .i32 1):=Go.MuLone.lock_free muLib a w hc hz
theorem unlock_def (a:Addr)(u:FrameMode)(w:World)(hc:w.cell? a=some (.int .i32 1))(hz:w.frozen? a=false):CallsD Tryz.prog 55 #[.pointer (some a)] u w fun e u' w'=>u'=u∧(e= .returned (.tuple #[])∧w'=w.setCell a (.int .i32 0)):=Go.MuLone.unlock_deferred muLib a u w hc hz
end
section
set_option maxHeartbeats 4000000
open Go.RowKit
set_option maxRecDepth 100000
attribute [local go_sem ↓] loadM_fold storeM_fold loadP_fold storeP_fold buildP_fold buildF_fold loadH_fold storeH_fold loadT_fold storeT_fold
structure CBl (C:Array Value)(nb pm nm:Nat)(c:Cl):Prop where
 ccs:CCs C nb pm nm
 mu:C[0]?=some (.int .i32 0)
 key:C[3]?=some (txv c.key)
 num:CNum C c.size c.root
structure Pv (W0 w:World)(O A OP:Nat→Prop)(cb nb pm nm:Nat)(c:Cl):Prop where
 own:∀ b,A b∨OP b∨b=cb→W0.heap.size≤b∧b < w.heap.size∧¬ O b
 sep:∀ b,OP b→¬ A b
 cbA:¬ A cb
 cbP:¬ OP cb
 cli:∃ C,w.heap[cb]?=some (.cells C TCli (0,0))∧CBl C nb pm nm c
 prv:PrIs w OP pm c.room c.proved
 nee:MemN w A nm maxI []
structure Sh (W0 w:World)(O:Nat→Prop)(nb db:Nat)(d:Dk)(n:Nt):Prop where
 base:Below W0.heap.size W0 w
 own:∀ b,O b→W0.heap.size≤b∧b < w.heap.size
 disk:DiskAt w O db d
 net:NetAt w O nb db n
 st:NSt d n
theorem Pv.cs {W0 w:World}{O A OP:Nat→Prop}{cb nb db pm nm:Nat}{d:Dk}{c:Cl}{n:Nt}{k:Nat}{C:Array Value}(h:Pv W0 w O A OP cb nb pm nm c)(hs:Sh W0 w O nb db d n)(hC:w.heap[cb]?=some (.cells C TCli (0,0)))(hcc:CCs C nb pm nm)(hk:n.fetches+2*k < 4611686018427387904)(hk2:k≤1000000000):CS W0 w O A OP cb nb db pm nm C d c.room c.proved ⟨n,[]⟩ k :=
 ⟨hs.base,fun b hb=>hb.elim (fun h=>(hs.own b h).1) (fun h'=>(h.own b (.inl h')).1),fun b hO hA=>(h.own b (.inl hA)).2.2 hO,fun b hb=>by
  rcases hb with hb | hb | hb
  ·exact(hs.own b hb).2
  ·exact(h.own b (.inl hb)).2.1
  ·exact(h.own b (.inr (.inl hb))).2.1,hs.disk,hs.net,hs.st,hk,hC,hcc,h.prv,fun b hP hb=>by
  rcases hb with hb | hb
  ·exact(h.own b (.inr (.inl hP))).2.2 hb
  ·exact h.sep b hP hb,⟨[],h.nee,.nil,by simp⟩,by simpa using hk2⟩
theorem Sh.drop {W0 w:World}{O A OP:Nat→Prop}{cb nb db pm nm:Nat}{C:Array Value}{d:Dk}{room:Int}{pr:Mm}{m:Ms Nt}{k:Nat}(h:CS W0 w O A OP cb nb db pm nm C d room pr m k):Sh W0 w O nb db d m.net :=
 ⟨h.base,fun b hb=>⟨h.own b (.inl hb),h.lt b (.inl hb)⟩,h.disk,h.net,h.st⟩
theorem CS.client {W0 w w':World}{O A OP:Nat→Prop}{cb nb db pm nm:Nat}{C C':Array Value}{d:Dk}{room:Int}{pr:Mm}{m:Ms Nt}{k:Nat}(h:CS W0 w O A OP cb nb db pm nm C d room pr m k)(ht:Turn (fun b=>b=cb) [TCli] w w')(hx:W0.heap.size≤cb∧¬ A cb∧¬ OP cb)(hC:w'.heap[cb]?=some (.cells C' TCli (0,0)))(hcc:CCs C' nb pm nm):CS W0 w' O A OP cb nb db pm nm C' d room pr m k :=
 ⟨h.base.trans (ht.below (fun b hb=>by rw [hb];exact hx.1) h.base.size),h.own,h.apart,fun b hb=>Nat.lt_of_lt_of_le (h.lt b hb) ht.size,h.disk.stay ht (by decide) (by decide),h.net.turn ht (by decide) (by decide) (by decide),h.st,h.few,hC,hcc,h.prv.stay ht (fun b hb e=>hx.2.2 (by rw [← e];exact hb)) (by decide) (fun _ h=>h),h.away,h.nee.stay ht (fun b hb e=>hx.2.1 (by rw [← e];exact hb)) (by decide) (by decide) (fun _ h=>h),h.short⟩
theorem CCs.set {C:Array Value}{nb pm nm:Nat}(h:CCs C nb pm nm)(i:Nat)(v:Value)(hi:i≠2∧i≠13∧i≠14):CCs (C.setIfInBounds i v) nb pm nm :=
 ⟨by rw [Array.getElem?_setIfInBounds_ne hi.1];exact h.net,by rw [Array.getElem?_setIfInBounds_ne hi.2.1];exact h.prv,by rw [Array.getElem?_setIfInBounds_ne hi.2.2];exact h.nee⟩
theorem CNum.set0 {C:Array Value}{size:Nat}{root:List UInt8}(h:CNum C size root)(v:Value):CNum (C.setIfInBounds 0 v) size root :=
 ⟨by rw [Array.getElem?_setIfInBounds_ne (by omega)];exact h.sz,fun j u hu=>by rw [Array.getElem?_setIfInBounds_ne (by omega)];exact h.rt j u hu,h.r8⟩
theorem set_same {C:Array Value}{i:Nat}{v:Value}(h:C[i]?=some v):C.setIfInBounds i v=C:=by
 apply Array.ext_getElem?
 intro j
 by_cases hj:i=j
 ·subst hj
  rw [Array.getElem?_setIfInBounds_self_of_lt (Array.getElem?_eq_some_iff.1 h).1,h]
 ·rw [Array.getElem?_setIfInBounds_ne hj]
theorem trusted_any (W0:World)(O A OP:Nat→Prop)(cb nb pm nm:Nat)(c:Cl)(w:World)(h:Pv W0 w O A OP cb nb pm nm c):
  Calls Tryz.prog 34 #[ptrV cb] w fun r w'=>r= .returned (.agg (trC c.size c.root).toArray)∧Turn (fun b=>b=cb) [TCli] w w'∧w'.heap[cb]?=w.heap[cb]?:=by
 obtain⟨C,hC,hB⟩:=h.cli
 have HC:=hide hC
 have HB:=hide hB
 clear hC hB h
 unfold ptrV
 go_enter_defers Tryz.func34,Tryz.ntmps34
 go_wp2_with fail
 have HX:Hid ((w.alloc (.cells #[.int .i64 0,.int .u8 0,.int .u8 0,.int .u8 0,.int .u8 0,.int .u8 0,.int .u8 0,.int .u8 0,.int .u8 0] 93)).heap[cb]?=some (.cells C TCli (0,0))∧(w.alloc (.cells #[.int .i64 0,.int .u8 0,.int .u8 0,.int .u8 0,.int .u8 0,.int .u8 0,.int .u8 0,.int .u8 0,.int .u8 0] 93)).heap[w.heap.size]?=some (.cells (trC 0 none8).toArray 93 (0,0))∧Below w.heap.size w (w.alloc (.cells #[.int .i64 0,.int .u8 0,.int .u8 0,.int .u8 0,.int .u8 0,.int .u8 0,.int .u8 0,.int .u8 0,.int .u8 0] 93))∧cb < w.heap.size):=⟨heap_alloc_old HC.out,heap_alloc_last _ _,below_alloc _ _,heap_some_lt HC.out⟩
 generalize w.alloc (.cells #[.int .i64 0,.int .u8 0,.int .u8 0,.int .u8 0,.int .u8 0,.int .u8 0,.int .u8 0,.int .u8 0,.int .u8 0] 93)=W1 at *
 have HL:=hide (lock_any ⟨cb,0,none⟩ W1 (dcell HX.out.1 0 _ HB.out.mu).1 (dcell HX.out.1 0 _ HB.out.mu).2)
 refine HL.out.mono ?_
 rintro r w2 ⟨rfl,rfl⟩
 have HC2:Hid ((W1.setCell ⟨cb,0,none⟩ (.int .i32 1)).heap[cb]?=some (.cells (C.setIfInBounds 0 (.int .i32 1)) TCli (0,0))):=dset HX.out.1 0 _
 have HR2:Hid ((W1.setCell ⟨cb,0,none⟩ (.int .i32 1)).heap[w.heap.size]?=some (.cells (trC 0 none8).toArray 93 (0,0))):=by
  show _=_
  rw [heap_setCell_other _ _ _ _ (by show w.heap.size≠cb;have:=HX.out.2.2.2;omega)];exact HX.out.2.1
 have HT2:Hid (Turn (fun b=>b=cb) [TCli] w (W1.setCell ⟨cb,0,none⟩ (.int .i32 1))):=Turn.set (O:=fun b=>b=cb) (T:=[TCli]) (Turn.of_below HX.out.2.2.1) (.inl rfl) HX.out.1 (by simp) _
 generalize W1.setCell ⟨cb,0,none⟩ (.int .i32 1)=W2 at *
 have hN:CNum (C.setIfInBounds 0 (.int .i32 1)) c.size c.root:=HB.out.num.set0 _
 have hld:(loadT (.pointer (some ⟨cb,4,none⟩))).run Tryz.prog W2= .ok (.agg (trC c.size c.root).toArray) W2:=loadT_of (hN.range HC2.out) hN.r8
 have hst:(storeT (.pointer (some ⟨w.heap.size,0,none⟩)) (.agg (trC c.size c.root).toArray)).run Tryz.prog W2= .ok () (W2.setCells w.heap.size 0 (trC c.size c.root)):=storeT_of (row_there HR2.out) hN.r8
 have HR3:Hid ((W2.setCells w.heap.size 0 (trC c.size c.root)).heap[w.heap.size]?=some (.cells (trC c.size c.root).toArray 93 (0,0))):=row_whole HR2.out (by rw [trC_len _ hN.r8];rfl)
 have HC3:Hid ((W2.setCells w.heap.size 0 (trC c.size c.root)).heap[cb]?=some (.cells (C.setIfInBounds 0 (.int .i32 1)) TCli (0,0))):=by
  show _=_
  rw [setCells_away _ _ (by have:=HX.out.2.2.2;omega)];exact HC2.out
 have HT3:Hid (Turn (fun b=>b=cb) [TCli] w (W2.setCells w.heap.size 0 (trC c.size c.root))):=HT2.out.setCellsNew (Nat.le_refl _) _ _
 have HLT:=hide HX.out.2.2.2
 have HN:=hide hN
 clear HL HX HR2 hN
 generalize hV:W2.setCells w.heap.size 0 (trC c.size c.root)=V at *
 have hs0:(C.setIfInBounds 0 (.int .i32 1))[0]?=some (.int .i32 1):=Array.getElem?_setIfInBounds_self_of_lt (Array.getElem?_eq_some_iff.1 HB.out.mu).1
 have HU:=hide (unlock_def ⟨cb,0,none⟩ .returning V (dcell HC3.out 0 _ hs0).1 (dcell HC3.out 0 _ hs0).2)
 clear hs0
 go_wp2_with fail
 refine leaves_cons (f:=55) (args:=#[.pointer (some ⟨cb,0,none⟩)]) (by simp) (by simp [go_sem]) ?_
 refine HU.out.mono ?_
 rintro e u' w9 ⟨rfl,rfl,rfl⟩
 simp only [Leaves,settle]
 have h9:(V.setCell ⟨cb,0,none⟩ (.int .i32 0)).heap[w.heap.size]?=some (.cells (trC c.size c.root).toArray 93 (0,0)):=by
  rw [heap_setCell_other _ _ _ _ (by show w.heap.size≠cb;have:=HLT.out;omega)];exact HR3.out
 refine⟨.agg (trC c.size c.root).toArray,?_,rfl,?_,?_⟩
 ·exact results_cell1 Tryz.results34 _ _ w.heap.size _ _ (0,0) _ rfl h9 Tryz.underlying93 rfl (by rw [infoT9,List.size_toArray,trC_len _ HN.out.r8])
 ·exact Turn.set (O:=fun b=>b=cb) (T:=[TCli]) HT3.out (.inl rfl) HC3.out (by simp) _
 ·rw [dset HC3.out,HC.out]
  rw [Array.setIfInBounds_setIfInBounds,set_same HB.out.mu]
end
section
open Go.RowKit
set_option maxRecDepth 100000
attribute [local go_sem ↓] loadM_fold storeM_fold loadP_fold storeP_fold buildP_fold buildF_fold loadH_fold storeH_fold loadT_fold storeT_fold
structure CR (W0 w w':World)(O A OP:Nat→Prop)(cb nb db pm nm:Nat)(d:Dk)(c':Cl)(n':Nt)(P:(Nat→Prop)→Prop):Prop where
 turn:Turn (fun b=>O b∨A b∨OP b∨b=cb) (TCli::clT) w w'
 rest:∃ A' OP',AInc A A' w w'∧AInc OP OP' w w'∧Pv W0 w' O A' OP' cb nb pm nm c'∧P OP'
 sh:Sh W0 w' O nb db d n'
theorem readC_key {σ:Type}{fe:σ→List UInt8→(List UInt8×Bool)×σ}{inc:List UInt8→Nat→Nat→List (List UInt8)→List UInt8→Bool}(c:Cl)(s:σ)(i:Nat):readC fe inc c s i=((readC fe inc (clOf c.size c.root c.room c.proved) s i).1,{ c with proved:=(readC fe inc (clOf c.size c.root c.room c.proved) s i).2.1.proved },(readC fe inc (clOf c.size c.root c.room c.proved) s i).2.2):=by
 cases hn:needM fe c.proved c.size ⟨s,[]⟩ (-1) i with
 | mk o m =>
  cases o with
  | inl p=>rw [readC_1 hn,readC_1 (c:=clOf c.size c.root c.room c.proved) hn];rfl
  | inr own =>
   cases hr:rootsM fe c.proved c.size m (pathS 64 0 c.size i) with
   | mk o2 m2 =>
    cases o2 with
    | inl p=>rw [readC_2 hn hr,readC_2 (c:=clOf c.size c.root c.room c.proved) hn hr];rfl
    | inr ps =>
     cases hi:inc own.hash i c.size ps c.root with
     | false=>rw [readC_3 hn hr hi,readC_3 (c:=clOf c.size c.root c.room c.proved) hn hr hi];rfl
     | true=>rw [readC_4 hn hr hi,readC_4 (c:=clOf c.size c.root c.room c.proved) hn hr hi];rfl
theorem CBl.locked {C:Array Value}{nb pm nm:Nat}{c:Cl}(h:CBl C nb pm nm c):CCs (C.setIfInBounds 0 (.int .i32 1)) nb pm nm∧(C.setIfInBounds 0 (.int .i32 1))[3]?=some (txv c.key)∧CNum (C.setIfInBounds 0 (.int .i32 1)) c.size c.root∧(C.setIfInBounds 0 (.int .i32 1))[0]?=some (.int .i32 1) :=
 ⟨h.ccs.set 0 _ (by omega),by rw [Array.getElem?_setIfInBounds_ne (by omega)];exact h.key,h.num.set0 _,Array.getElem?_setIfInBounds_self_of_lt (Array.getElem?_eq_some_iff.1 h.mu).1⟩
theorem CBl.free {C:Array Value}{nb pm nm:Nat}{c:Cl}(h1:CCs C nb pm nm)(h2:C[3]?=some (txv c.key))(h3:CNum C c.size c.root)(h4:C[0]?=some (.int .i32 1)):CBl (C.setIfInBounds 0 (.int .i32 0)) nb pm nm c :=
 ⟨h1.set 0 _ (by omega),Array.getElem?_setIfInBounds_self_of_lt (Array.getElem?_eq_some_iff.1 h4).1,by rw [Array.getElem?_setIfInBounds_ne (by omega)];exact h2,h3.set0 _⟩
theorem lock_cs {W0 w w1:World}{O A OP:Nat→Prop}{cb nb db pm nm:Nat}{d:Dk}{c:Cl}{n:Nt}{k:Nat}{C:Array Value}(h:Pv W0 w O A OP cb nb pm nm c)(hs:Sh W0 w O nb db d n)(hC:w.heap[cb]?=some (.cells C TCli (0,0)))(hB:CBl C nb pm nm c)(hb:Below w.heap.size w w1)(hk:n.fetches+2*k < 4611686018427387904)(hk2:k≤1000000000):
  CS W0 (w1.setCell ⟨cb,0,none⟩ (.int .i32 1)) O A OP cb nb db pm nm (C.setIfInBounds 0 (.int .i32 1)) d c.room c.proved ⟨n,[]⟩ k∧Turn (fun b=>b=cb) [TCli] w (w1.setCell ⟨cb,0,none⟩ (.int .i32 1)):=by
 have hC1:w1.heap[cb]?=some (.cells C TCli (0,0)):=(hb.block _ (heap_some_lt hC)).trans hC
 have ht:Turn (fun b=>b=cb) [TCli] w1 (w1.setCell ⟨cb,0,none⟩ (.int .i32 1)):=Turn.set (O:=fun b=>b=cb) (T:=[TCli]) (Turn.refl _ _ _) (.inl rfl) hC1 (by simp) _
 refine⟨((h.cs hs hC hB.ccs hk hk2).below hb).client ht ⟨(h.own cb (.inr (.inr rfl))).1,h.cbA,h.cbP⟩ (dset hC1 0 _) hB.locked.1,?_⟩
 exact(Turn.of_below hb).trans (ht.mono (fun _ h=> .inl h) (fun _ h=>h))
theorem unlock_cr {W0 w w2 w8:World}{O A OP:Nat→Prop}{cb nb db pm nm:Nat}{d:Dk}{c c':Cl}{n':Nt}{k:Nat}{C:Array Value}(h:Pv W0 w O A OP cb nb pm nm c)(ht:Turn (fun b=>b=cb) [TCli] w w2){A' OP':Nat→Prop}(ht8:Turn (fun b=>O b∨A b∨OP b∨b=cb) (TCli::clT) w2 w8)(hA:AInc A A' w2 w8)(hP:AInc OP OP' w2 w8)(hcs:CS W0 w8 O A' OP' cb nb db pm nm C d c'.room c'.proved ⟨n',[]⟩ k)
  (h2:C[3]?=some (txv c'.key)) (h3:CNum C c'.size c'.root) (h4:C[0]?=some (.int .i32 1)) {P:(Nat→Prop)→Prop} (hQ:¬ OP' cb→P OP'):CR W0 w (w8.setCell ⟨cb,0,none⟩ (.int .i32 0)) O A OP cb nb db pm nm d c' n' P:=by
 have hcb:=h.own cb (.inr (.inr rfl))
 have s1:=ht.size
 have s2:=ht8.size
 have hcA:¬ A' cb:=fun e=>by
  rcases hA.2 cb e with e | e
  ·exact h.cbA e
  ·omega
 have hcP:¬ OP' cb:=fun e=>by
  rcases hP.2 cb e with e | e
  ·exact h.cbP e
  ·omega
 have ht9:Turn (fun b=>b=cb) [TCli] w8 (w8.setCell ⟨cb,0,none⟩ (.int .i32 0)):=Turn.set (O:=fun b=>b=cb) (T:=[TCli]) (Turn.refl _ _ _) (.inl rfl) hcs.cli (by simp) _
 have hc9:=hcs.client ht9 ⟨hcb.1,hcA,hcP⟩ (dset hcs.cli 0 _) (hcs.cells.set 0 _ (by omega))
 have s3:(w8.setCell ⟨cb,0,none⟩ (.int .i32 0)).heap.size=w8.heap.size:=by simp [World.setCell]
 refine⟨?_,⟨A',OP',⟨hA.1,fun b hb=>(hA.2 b hb).imp id (fun h=>⟨by omega,by omega⟩)⟩,⟨hP.1,fun b hb=>(hP.2 b hb).imp id (fun h=>⟨by omega,by omega⟩)⟩,?_,hQ hcP⟩,Sh.drop hc9⟩
 ·refine(ht.mono (fun b hb=> .inr (.inr (.inr hb))) (by decide)).trans ((ht8.mono (fun _ h=> .inl h) (fun _ h=>h)).trans (ht9.mono (fun b hb=> .inl (.inl (.inr (.inr (.inr hb))))) (by decide)))
 ·refine⟨fun b hb=>?_,fun b hP' hA'=>hcs.away b hP' (.inr hA'),hcA,hcP,⟨_,dset hcs.cli 0 _,CBl.free hcs.cells h2 h3 h4⟩,hc9.prv,?_⟩
  ·rcases hb with hb | hb | rfl
   ·exact⟨hcs.own b (.inr hb),hc9.lt b (.inr (.inl hb)),fun e=>hcs.apart b e hb⟩
   ·refine⟨?_,hc9.lt b (.inr (.inr hb)),fun e=>hcs.away b hb (.inl e)⟩
    rcases hP.2 b hb with e | e
    ·exact(h.own b (.inr (.inl e))).1
    ·have:=hcs.base.size;have:=h.own cb (.inr (.inr rfl));omega
   ·exact⟨hcb.1,by omega,hcb.2.2⟩
  ·obtain⟨L,hm,h0,-⟩:=hc9.nee
   obtain rfl:L=[]:=h0.empty
   exact hm
end
section
set_option maxHeartbeats 4000000
open Go.RowKit
set_option maxRecDepth 100000
attribute [local go_sem ↓] loadM_fold storeM_fold loadP_fold storeP_fold buildP_fold buildF_fold loadH_fold storeH_fold loadT_fold storeT_fold
theorem ReadR.join {at_:Nat→Addr}{B:Nat}{w':World}{o:Sum Er (List UInt8×List (List UInt8))}{r:Ending}(h:ReadR at_ B w' o r):∃ x v e,r= .returned (.tuple #[x,v,e])∧∀(N:Nat→Prop) (w'':World),Turn N [TCli] w' w''→ReadR at_ B w'' o r:=by
 rcases h with ⟨e,ps,x,v,h1,h2,h3,h4,h5⟩ | ⟨p,g,h1,h2,h3⟩ | ⟨h1,h2⟩
 ·refine⟨x,v,_,h5,fun N w'' ht=> .inl ⟨e,ps,x,v,h1,?_,ownsRow_turn h3 ht (by decide),h4,h5⟩⟩
  rcases h2 with h2 | h2
  ·exact .inl h2
  ·exact .inr ⟨ownsRow_turn h2.1 ht (by decide),h2.2⟩
 ·exact⟨_,_,_,h3,fun N w'' ht=> .inr (.inl ⟨p,g,h1,ht.keep h2 (by decide),h3⟩)⟩
 ·exact⟨_,_,_,h2,fun N w'' ht=> .inr (.inr ⟨h1,h2⟩)⟩
theorem AInc.turn {O A OP:Nat→Prop}{cb:Nat}{w w':World}(h:Turn (fun b=>O b∨A b∨OP b) clT w w'):Turn (fun b=>O b∨A b∨OP b∨b=cb) (TCli::clT) w w':=h.mono (fun _ hb=>hb.imp id (fun h=>h.imp id .inl)) (fun _ ht=>List.mem_cons_of_mem _ ht)
theorem read_in (W0:World)(at_:Nat→Addr)(O A OP:Nat→Prop)(cb nb db pm nm:Nat)(d:Dk)(c:Cl)(n:Nt)(i:Nat)(w:World)(hE:Env W0)(hS:Sents W0 at_)(hTb:Tabs W0)(h:Pv W0 w O A OP cb nb pm nm c)(hs:Sh W0 w O nb db d n)(hf:n.fetches+20000 < 4611686018427387904)(hsz:c.size < 9223372036854775808)(hi:i < c.size)
  (hent:∀ p m',needM (netF d.fs) c.proved c.size ⟨n,[]⟩ (-1) i=(.inr p,m')→p.entry.length≤1000000) (hpl:c.proved.length≤100000000000) (hwf:WfM c.proved) :
  Calls Tryz.prog 35 #[ptrV cb,.int .i64 i] w fun r w'=>CR W0 w w' O A OP cb nb db pm nm d (readC (netF d.fs) incC c n i).2.1 (readC (netF d.fs) incC c n i).2.2 (FreshR w' pm c.room (readC (netF d.fs) incC c n i).2.1.proved r)∧ReadR at_ w.heap.size w' (readC (netF d.fs) incC c n i).1 r:=by
 obtain⟨C,hC,hB⟩:=h.cli
 have HL:=hide (lock_any ⟨cb,0,none⟩ w (dcell hC 0 _ hB.mu).1 (dcell hC 0 _ hB.mu).2)
 obtain⟨hcs,ht⟩:=lock_cs (k:=8401) h hs hC hB (Below.refl _ w) (by omega) (by omega)
 have HT:=hide ht
 have HH:=hide h
 have HBL:=hide hB.locked
 have HSZ:Hid ((w.setCell ⟨cb,0,none⟩ (.int .i32 1)).heap.size=w.heap.size):=by show _=_;simp [World.setCell]
 have c4:(w.setCell ⟨cb,0,none⟩ (.int .i32 1)).cell? ⟨cb,4,none⟩=some (.int .i64 c.size):=(dcell hcs.cli 4 _ hB.locked.2.2.1.sz).1
 have HRP:=hide (readProved_any W0 at_ O A OP cb nb db pm nm _ d c.room c.proved n 0 c.size i c.root hsz hi hB.locked.2.2.1 hE hS hTb (fun A' OP' pr' k' m' w'=>remember_any W0 O A' OP' cb nb db pm nm _ d c.room pr' k' m' w') hent hpl hwf (fun b hb=>(h.own b (.inr (.inl hb))).1) _ (hcs.less (by have:=path_cost c.size i (by omega);unfold rPl;omega)))
 have HKEY:=hide (readC_key (fe:=netF d.fs) (inc:=incC) c n i)
 have hlt:¬(i:Int) < 0:=by omega
 have hlt2:(i:Int) < (c.size:Int):=by omega
 clear hC hB h hs hcs ht hS hE hTb hent hpl hwf hf
 generalize readC (netF d.fs) incC (clOf c.size c.root c.room c.proved) n i=RC at *
 obtain⟨o,c2,n2⟩:=RC
 simp only at *
 unfold ptrV at HRP ⊢
 go_enter_defers Tryz.func35,Tryz.ntmps35
 go_wp2_with fail
 refine HL.out.mono ?_
 rintro r w2 ⟨rfl,rfl⟩
 clear HL
 generalize w.setCell ⟨cb,0,none⟩ (.int .i32 1)=W2 at *
 go_wp2_with fail
 refine HRP.out.mono ?_
 rintro r w8 ⟨hout,hr⟩
 obtain⟨x,v,e,rfl,hr⟩:=hr.join
 obtain⟨A',OP',hA,hP,hc8,hfr⟩:=hout.cs
 have HFR:=hide hfr
 have HU:=hide (unlock_def ⟨cb,0,none⟩ .returning w8 (dcell hc8.cli 0 _ HBL.out.2.2.2).1 (dcell hc8.cli 0 _ HBL.out.2.2.2).2)
 have HOUT:=hide hout
 have HR:=hide hr
 have HA:=hide hA
 have HP:=hide hP
 have HC8:=hide hc8
 clear hout hr hA hP hc8 hfr HRP c4 hlt hlt2
 go_wp2_with fail
 refine leaves_cons (f:=55) (args:=#[.pointer (some ⟨cb,0,none⟩)]) (by simp) (by simp [go_sem]) ?_
 refine HU.out.mono ?_
 rintro e u' w9 ⟨rfl,rfl,rfl⟩
 simp only [Leaves,settle]
 refine⟨.tuple #[x,v,e],by simp [results,Tryz.results35,go_sem],?_⟩
 rw [HKEY.out]
 have ht9:Turn (fun b=>b=cb) [TCli] w8 (w8.setCell ⟨cb,0,none⟩ (.int .i32 0)):=Turn.set (O:=fun b=>b=cb) (T:=[TCli]) (Turn.refl _ _ w8) (.inl rfl) HC8.out.cli (by simp) (.int .i32 0) (o:=0)
 refine⟨unlock_cr (w8:=w8) (c':={ c with proved:=c2.proved }) HH.out HT.out (AInc.turn HOUT.out.turn) HA.out HP.out HC8.out HBL.out.2.1 HBL.out.2.2.1 HBL.out.2.2.2 (fun hcP x' v' e' he=>Fresh.on (HFR.out x' v' e' he) ht9 (fun k hk e=>hcP (e▸hk)) (by decide)),?_⟩
 have:=HR.out _ _ (Turn.set (O:=fun b=>b=cb) (T:=[TCli]) (Turn.refl _ _ w8) (.inl rfl) HC8.out.cli (by simp) (.int .i32 0) (o:=0))
 rw [HSZ.out] at this
 exact this
end
end Go.Proofs.YtinhekmmdlhfkaaGreatDoor
