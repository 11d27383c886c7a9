import Derived.Test.YtinhekmmdlhfkaaGreatDoorG31
import Derived.Test.YtinhekmmdlhfkaaGreatDoorG32
import Derived.Test.YtinhekmmdlhfkaaGreatDoorG05
import Derived.Deep.CutRange
namespace Go.Proofs.YtinhekmmdlhfkaaGreatDoor
section
open Go.RowKit
set_option maxRecDepth 100000
attribute [local go_sem ↓] loadM_fold storeM_fold loadP_fold storeP_fold buildP_fold buildF_fold loadH_fold storeH_fold
theorem CS.forget {W0 w w':World}{O A OP:Nat→Prop}{cb nb db pm nm:Nat}{C:Array Value}{d:Dk}{room:Int}{pr:Mm}{m:Ms Nt}{k:Nat}(h:CS W0 w O A OP cb nb db pm nm C d room pr m k)(ht:Turn A [LkN] w w')(hm:MemN w' A nm maxI []):CS W0 w' O A OP cb nb db pm nm C d room pr { m with needed:=[] } k :=
 ⟨h.base.trans (ht.below (fun b hb=>h.own b (.inr hb)) h.base.size),h.own,h.apart,fun b hb=>Nat.lt_of_lt_of_le (h.lt b hb) ht.size,h.disk.stay ht (by decide) (by decide),h.net.turn ht (by decide) (by decide) (by decide),h.st,h.few,ht.keep h.cli (by decide),h.cells,h.prv.stay ht (fun b hb e=>h.away b hb (.inr e)) (by decide) (fun _ h=>h),h.away,⟨[],hm,.nil,by simp⟩,by have:=h.short;simp only [List.length_nil];omega⟩
theorem CS.mem {W0 w:World}{O A OP:Nat→Prop}{cb nb db pm nm:Nat}{C:Array Value}{d:Dk}{room:Int}{pr:Mm}{m:Ms Nt}{k:Nat}(h:CS W0 w O A OP cb nb db pm nm C d room pr m k):∃ L,MemN w A nm maxI L:=by
 obtain⟨L,hm,-⟩:=h.nee
 exact⟨L,hm⟩
theorem clone_nil (w:World):Calls Tryz.prog 49 #[.slice none 0 0] w fun r w'=>r= .returned (.slice none 0 0)∧w'=w:=by
 have q:∀(w:World) (a:Option Addr) (n c n' c':Nat),(binOp .eql 76 (.slice a n c) (.slice none n' c')).run Tryz.prog w= .ok (.bool a.isNone) w:=fun w a n c n' c'=>Lib.run_eql_slice_nil w _ _ a n c n' c' Tryz.underlying76
 go_enter Tryz.func49,Tryz.ntmps49
 go_wp2_with fail
 go_ret
 exact⟨rfl,rfl⟩
def EntV (B:Nat)(w:World)(v:Value)(l:List UInt8):Prop:=(v= .slice none 0 0∧l=[])∨OB w B v l
theorem clone_ent (v:Value)(l:List UInt8)(w:World)(h:EntIs w v l)(hl:l.length≤1000000):Calls Tryz.prog 49 #[v] w fun r w'=>∃ x,r= .returned x∧EntV w.heap.size w' x l∧Below w.heap.size w w':=by
 rcases h with ⟨rfl,rfl⟩ | ⟨g,cap,C,fr,rfl,hcap,hg,hc⟩
 ·refine(clone_nil w).mono ?_
  rintro r w' ⟨rfl,rfl⟩
  exact⟨_,rfl,.inl ⟨rfl,rfl⟩,Below.refl _ _⟩
 ·refine(clone_any ⟨g,0,none⟩ l.length cap l w rfl hl (fun j u hu=>?_)).mono ?_
  ·rw [List.getElem?_map] at hu
   obtain⟨y,hy,rfl⟩:=Option.map_eq_some_iff.1 hu
   obtain⟨hj,ej⟩:=List.getElem?_eq_some_iff.1 hy
   have:=hc j hj
   rw [Addr.add_mid,Nat.zero_add]
   rw [← ej]
   simp [World.cell?,hg,this]
  ·rintro r w' ⟨x,rfl,hx,hb⟩
   exact⟨x,rfl,.inr hx,hb⟩
def incC (leaf:List UInt8)(i n:Nat)(ps:List (List UInt8))(root:List UInt8):Bool:=incB 1001 leaf i n ps root
def ReadR (at_:Nat→Addr)(B:Nat)(w':World)(o:Sum Er (List UInt8×List (List UInt8)))(r:Ending):Prop :=
 (∃ e ps x v,o= .inr (e,ps)∧EntV B w' x e∧OwnHs B w' v ps∧(∀ p∈ps,p.length=8)∧r= .returned (.tuple #[x,v,.nilIface])) ∨
 (∃ p g,o= .inl (.tile p)∧w'.heap[g]?=some (.cells #[txv p,errS at_ 5] 115 (0,0))∧r= .returned (.tuple #[.slice none 0 0,.slice none 0 0,pathE g])) ∨
 (o= .inl .proof∧r= .returned (.tuple #[.slice none 0 0,.slice none 0 0,errS at_ 4]))
abbrev clT:List Nat:=[85,3,LkN,TFile,LkP]
end
section
set_option maxHeartbeats 4000000
open Go.RowKit
set_option maxRecDepth 100000
attribute [local go_sem ↓] loadM_fold storeM_fold loadP_fold storeP_fold buildP_fold buildF_fold loadH_fold storeH_fold
abbrev RemOk (W0:World)(O:Nat→Prop)(cb nb db pm nm:Nat)(C:Array Value)(d:Dk)(room:Int):Prop :=
 ∀(A OP:Nat→Prop) (pr:Mm) (k:Nat) (m:Ms Nt) (w:World),pr.length≤100000000000→(∀ b,OP b→W0.heap.size≤b)→CS W0 w O A OP cb nb db pm nm C d room pr m k →
  Calls Tryz.prog 100 #[ptrV cb] w fun r w'=>r= .returned (.tuple #[])∧Turn OP [LkP] w w'∧CS W0 w' O A (Ext OP w w') cb nb db pm nm C d room (rememberM room pr m.needed) m k
structure CNum (C:Array Value)(size:Nat)(root:List UInt8):Prop where
 sz:C[4]?=some (.int .i64 size)
 rt:∀ j v,(root.map bv)[j]?=some v→C[5+j]?=some v
 r8:root.length=8
structure Out (W0 w w':World)(O A OP:Nat→Prop)(cb nb db pm nm:Nat)(C:Array Value)(d:Dk)(room:Int)(pr:Mm)(n:Nt)(k:Nat)(P:(Nat→Prop)→Prop):Prop where
 turn:Turn (fun b=>O b∨A b∨OP b) clT w w'
 cs:∃ A' OP',AInc A A' w w'∧AInc OP OP' w w'∧CS W0 w' O A' OP' cb nb db pm nm C d room pr ⟨n,[]⟩ k∧P OP'
def Fresh (w':World)(pm:Nat)(room:Int)(pr:Mm)(v:Value)(OP:Nat→Prop):Prop :=
 ∃ Wm N T,PrIs Wm OP pm room pr∧Turn N T Wm w'∧(∀ k,OP k→¬ N k)∧5∉T∧∀ g,v.ownBlock=some g→Wm.heap.size≤g
def FreshR (w':World)(pm:Nat)(room:Int)(pr:Mm)(r:Ending)(OP:Nat→Prop):Prop :=
 ∀ x v e,r= .returned (.tuple #[x,v,e])→Fresh w' pm room pr x OP
theorem fresh_nil {w:World}{OP:Nat→Prop}{pm:Nat}{room:Int}{pr:Mm}(h:PrIs w OP pm room pr):Fresh w pm room pr (.slice none 0 0) OP :=
 ⟨w,fun _=>False,[],h,Turn.refl _ _ _,fun _ _ h=>h,by simp,fun g hg=>by simp [Value.ownBlock] at hg⟩
theorem freshR_nil {w:World}{OP:Nat→Prop}{pm:Nat}{room:Int}{pr:Mm}{v e:Value}(h:PrIs w OP pm room pr):FreshR w pm room pr (.returned (.tuple #[.slice none 0 0,v,e])) OP:=by
 intro x v' e' he
 simp only [Ending.returned.injEq,Value.tuple.injEq] at he
 have:=congrArg (fun a:Array Value=>a[0]?) he
 simp only [List.getElem?_toArray,List.getElem?_cons_zero,Option.some.injEq] at this
 subst this
 exact fresh_nil h
theorem Turn.apart {N G:Nat→Prop}{T T':List Nat}{a b c:World}(h:Turn N T a b)(ht:Turn G T' b c)(hg:∀ k,G k→a.heap.size≤k):Turn N T a c :=
 ⟨ht.os.trans h.os,ht.tape.trans h.tape,ht.output.trans h.output,Nat.le_trans h.size ht.size,fun k hk=>by
  rcases ht.block k (Nat.lt_of_lt_of_le hk h.size) with e | ⟨g,-⟩
  ·rw [e];exact h.block k hk
  ·have:=hg k g;omega⟩
theorem Fresh.on {w w':World}{pm:Nat}{room:Int}{pr:Mm}{v:Value}{OP N':Nat→Prop}{T':List Nat}(h:Fresh w pm room pr v OP)(ht:Turn N' T' w w')(hn:∀ k,OP k→¬ N' k)(hu:5∉T'):Fresh w' pm room pr v OP:=by
 obtain⟨Wm,N,T,h1,h2,h3,h4,h5⟩:=h
 refine⟨Wm,fun k=>N k∨N' k,T++T',h1,(h2.mono (fun _ h=> .inl h) (fun t ht=>by simp [ht])).trans (ht.mono (fun _ h=> .inl (.inr h)) (fun t ht=>by simp [ht])),fun k hk=>?_,?_,h5⟩
 ·rintro(h | h)
  ·exact h3 k hk h
  ·exact hn k hk h
 ·simp [h4,hu]
theorem Fresh.clear {w w':World}{pm:Nat}{room:Int}{pr:Mm}{v:Value}{OP G:Nat→Prop}{T':List Nat}(h:Fresh w pm room pr v OP)(ht:Turn G T' w w')(hg:∀ k,G k→v.ownBlock=some k):PrIs w' OP pm room pr:=by
 obtain⟨Wm,N,T,h1,h2,h3,h4,h5⟩:=h
 exact h1.stay (h2.apart ht fun k hk=>h5 k (hg k hk)) h3 h4 (fun _ h=>h)
def clOf (size:Nat)(root:List UInt8)(room:Int)(pr:Mm):Cl:=⟨[],size,root,room,pr⟩
section
variable {σ : Type} {fe : σ → List UInt8 → (List UInt8 × Bool) × σ} {inc : List UInt8 → Nat → Nat → List (List UInt8) → List UInt8 → Bool} {c : Cl} {s : σ} {i : Nat}
theorem readC_1 {p:List UInt8}{m:Ms σ}(h:needM fe c.proved c.size ⟨s,[]⟩ (-1) i=(.inl p,m)):readC fe inc c s i=(.inl (.tile p),c,m.net):=by unfold readC;rw [h]
theorem readC_2 {own:Pc}{m m':Ms σ}{p:List UInt8}(h:needM fe c.proved c.size ⟨s,[]⟩ (-1) i=(.inr own,m))(h2:rootsM fe c.proved c.size m (pathS 64 0 c.size i)=(.inl p,m')):readC fe inc c s i=(.inl (.tile p),c,m'.net):=by unfold readC;rw [h];simp only [h2]
theorem readC_3 {own:Pc}{m m':Ms σ}{ps:List (List UInt8)}(h:needM fe c.proved c.size ⟨s,[]⟩ (-1) i=(.inr own,m))(h2:rootsM fe c.proved c.size m (pathS 64 0 c.size i)=(.inr ps,m'))(h3:inc own.hash i c.size ps c.root=false):readC fe inc c s i=(.inl .proof,c,m'.net):=by unfold readC;rw [h];simp only [h2,h3,Bool.false_eq_true,if_false]
theorem readC_4 {own:Pc}{m m':Ms σ}{ps:List (List UInt8)}(h:needM fe c.proved c.size ⟨s,[]⟩ (-1) i=(.inr own,m))(h2:rootsM fe c.proved c.size m (pathS 64 0 c.size i)=(.inr ps,m'))(h3:inc own.hash i c.size ps c.root=true):readC fe inc c s i=(.inr (own.entry,ps),{ c with proved:=rememberM c.room c.proved (settleE c.size m'.needed i own.hash) },m'.net):=by unfold readC;rw [h];simp only [h2,h3,if_true]
end
theorem base_cell {W0 w:World}(h:Below W0.heap.size W0 w){b o:Nat}{v:Value}(hc:W0.cell? ⟨b,o,none⟩=some v):w.cell? ⟨b,o,none⟩=some v:=by
 have h1:b < W0.heap.size:=cell_lt hc
 simp only [World.cell?] at *
 rw [h.block _ h1];exact hc
theorem piece_ent {x:Px}(h:x.ok):x.cs.toArray[10]?=some x.ent:=by
 obtain⟨h8,-⟩:=h
 simp only [Px.cs,List.getElem?_toArray,List.getElem?_cons_succ]
 rw [List.getElem?_append_right (by simp [h8])]
 simp [h8]
theorem owns_low {w:World}{B B':Nat}{e:TypeId}{s:Nat}{v:Value}{n:Nat}{xs:List Value}(h:w.ownsRow B e s v n xs)(hb:B'≤B):w.ownsRow B' e s v n xs:=by
 obtain⟨h0,h1 | ⟨g,cap,cur,e1,hB,h2⟩⟩:=h
 ·exact⟨h0,.inl h1⟩
 ·exact⟨h0,.inr ⟨g,cap,cur,e1,Nat.le_trans hb hB,h2⟩⟩
theorem wfM_nil:WfM []:=⟨List.Pairwise.nil,fun x hx=>by simp at hx⟩
theorem rootsM_len {σ:Type}{fe:σ→List UInt8→(List UInt8×Bool)×σ}{pr:Mm}{size:Nat}:∀ {ss:List (Nat×Nat)} {m m':Ms σ} {xs:List (List UInt8)},rootsM fe pr size m ss=(.inr xs,m')→xs.length=ss.length:=by
 intro ss
 induction ss with
 | nil =>
  intro m m' xs h
  simp only [rootsM,Prod.mk.injEq] at h
  obtain⟨h,-⟩:=h
  cases h
  rfl
 | cons s r ih =>
  intro m m' xs h
  simp only [rootsM] at h
  split at h
  ·simp at h
  ·rename_i x m1 _
   cases h2:rootsM fe pr size m1 r with
   | mk o m2 =>
    cases o with
    | inl e =>
     rw [h2] at h
     simp at h
    | inr ys =>
     rw [h2] at h
     simp only [Prod.mk.injEq,Sum.inr.injEq] at h
     obtain⟨rfl,-⟩:=h
     simp [ih h2]
theorem SeqN.wd {σ:Type}{fe:σ→List UInt8→(List UInt8×Bool)×σ}{proved:Mm}{size:Nat}{m m':Ms σ}{ps:List (Pl×Nat)}(h:SeqN fe proved size m ps m'):∀ q∈ps,1≤q.1.2.2:=by
 induction h using SeqN.ind with
 | nil m=>intro q hq;simp at hq
 | cons hj e _ ih =>
  intro q hq
  rcases List.mem_cons.1 hq with rfl | hq
  ·unfold placeN
   simp only
   omega
  ·exact ih q hq
theorem SeqN.wdN {σ:Type}{fe:σ→List UInt8→(List UInt8×Bool)×σ}{proved:Mm}{size:Nat}{m m':Ms σ}{ps:List (Pl×Nat)}(h:SeqN fe proved size m ps m')(hp:WfM proved)(hm:m.needed=[]):WdN m'.needed:=by
 intro x hx
 rcases h.keys hp (by rw [hm];exact wfM_nil) x hx with ⟨y,hy,-⟩ | ⟨q,hq,eq⟩
 ·rw [hm] at hy;simp at hy
 ·rw [← eq];exact h.wd q hq
theorem read_ready {σ:Type}{fe:σ→List UInt8→(List UInt8×Bool)×σ}{pr:Mm}{size i:Nat}{n:σ}{c:Pc}{m1 m2:Ms σ}{ps:List (List UInt8)}(hs:size < 9223372036854775808)(hi:i < size)(hwf:WfM pr)(hn:needM fe pr size ⟨n,[]⟩ (-1) i=(.inr c,m1))(hr:rootsM fe pr size m1 (pathS 64 0 size i)=(.inr ps,m2)):WdN m2.needed∧(m2.needed.get (placeN size (-1) i)).isSome=true:=by
 have hS:SeqN fe pr size ⟨n,[]⟩ _ m2:=SeqN.cons (by simpa [cntL] using hi) hn (rootsM_seq (by omega) _ _ _ _ (fun s hs'=>by have:=pathS_in 64 0 size i (by omega) s hs';omega) hr)
 refine⟨hS.wdN hwf rfl,?_⟩
 obtain⟨f,hf,-⟩:=(hS.has hwf wfM_nil).1 (placeN size (-1) i,i % 4) (by simp)
 exact Option.isSome_iff_exists.2 ⟨f,hf⟩
theorem out_end {W0 w V w9:World}{O A A1 OP OP1:Nat→Prop}{cb nb db pm nm:Nat}{C:Array Value}{d:Dk}{room:Int}{pr:Mm}{m:Ms Nt}{k k1:Nat}(ht:Turn (fun b=>O b∨A b∨OP b) clT w V)(hA:AInc A A1 w V)(hP:AInc OP OP1 w V)(hc:CS W0 V O A1 OP1 cb nb db pm nm C d room pr m k1)(ht9:Turn A1 [LkN] V w9)(hm9:MemN w9 A1 nm maxI [])(hk:k≤k1){P:(Nat→Prop)→Prop}(hQ:PrIs w9 OP1 pm room pr→P OP1):Out W0 w w9 O A OP cb nb db pm nm C d room pr m.net k P:=by
 have hs:=ht9.size
 refine⟨?_,A1,OP1,⟨hA.1,fun b hb'=>(hA.2 b hb').imp id (fun h=>⟨h.1,by omega⟩)⟩,⟨hP.1,fun b hb'=>(hP.2 b hb').imp id (fun h=>⟨h.1,by omega⟩)⟩,(hc.forget ht9 hm9).less hk,hQ (hc.forget ht9 hm9).prv⟩
 refine ht.trans (ht9.mono (fun b hb'=>?_) (by decide))
 rcases hA.2 b hb' with h | h
 ·exact .inl (.inr (.inl h))
 ·exact .inr h
theorem turn_on {w V V':World}{O A A1 OP:Nat→Prop}(h:Turn (fun b=>O b∨A b∨OP b) clT w V)(hA:AInc A A1 w V)(ht:Turn (fun b=>O b∨A1 b) qT V V'):Turn (fun b=>O b∨A b∨OP b) clT w V':=by
 refine h.trans (ht.mono (fun b hb'=>?_) (by decide))
 rcases hb' with hb' | hb'
 ·exact .inl (.inl hb')
 ·exact(hA.2 b hb').imp (fun h=> .inr (.inl h)) id
theorem AInc.ext {A A1:Nat→Prop}{w V V':World}(h:AInc A A1 w V)(h1:w.heap.size≤V.heap.size)(h2:V.heap.size≤V'.heap.size):AInc A (Ext A1 V V') w V':=by
 refine⟨fun b hb=> .inl (h.1 b hb),fun b hb=>?_⟩
 rcases hb with hb | hb
 ·exact(h.2 b hb).imp id (fun h=>⟨h.1,by omega⟩)
 ·exact .inr ⟨by omega,hb.2⟩
theorem AInc.below {A A1:Nat→Prop}{w V V':World}(h:AInc A A1 w V)(h2:V.heap.size≤V'.heap.size):AInc A A1 w V' :=
 ⟨h.1,fun b hb=>(h.2 b hb).imp id (fun h=>⟨h.1,by omega⟩)⟩
theorem AInc.refl (A:Nat→Prop)(w w':World):AInc A A w w':=⟨fun _ h=>h,fun _ h=> .inl h⟩
theorem ainc_ext (A:Nat→Prop)(w w':World):AInc A (Ext A w w') w w':=⟨fun _ h=> .inl h,fun _ h=>h⟩
theorem readProved_any (W0:World)(at_:Nat→Addr)(O A OP:Nat→Prop)(cb nb db pm nm:Nat)(C:Array Value)(d:Dk)(room:Int)(pr:Mm)(n:Nt)(k size i:Nat)(root:List UInt8)(hsz:size < 9223372036854775808)(hi:i < size)(hC:CNum C size root)(hE:Env W0)(hS:Sents W0 at_)(hTb:Tabs W0)(hrem:RemOk W0 O cb nb db pm nm C d room)
  (hent:∀ c m',needM (netF d.fs) pr size ⟨n,[]⟩ (-1) i=(.inr c,m')→c.entry.length≤1000000) (hpl:pr.length≤100000000000) (hwf:WfM pr) (hop:∀ b,OP b→W0.heap.size≤b) (w:World) (h:CS W0 w O A OP cb nb db pm nm C d room pr ⟨n,[]⟩ (rPl size (pathS 64 0 size i)+k+1)) :
  Calls Tryz.prog 59 #[ptrV cb,.int .i64 i] w fun r w' =>
   Out W0 w w' O A OP cb nb db pm nm C d room (readC (netF d.fs) incC (clOf size root room pr) n i).2.1.proved (readC (netF d.fs) incC (clOf size root room pr) n i).2.2 k (FreshR w' pm room (readC (netF d.fs) incC (clOf size root room pr) n i).2.1.proved r)∧ReadR at_ w.heap.size w' (readC (netF d.fs) incC (clOf size root room pr) n i).1 r:=by
 have HNEED:=hide (need_any W0 at_ O A OP cb nb db pm nm C d room pr ⟨n,[]⟩ (rPl size (pathS 64 0 size i)+k) size (-1) i hsz (by omega) (by omega) (by simpa [cntL] using hi) w hE hS h)
 have HH:=hide h
 have HC:=hide hC
 have HE:=hide hE
 have HS:=hide hS
 have HTB:=hide hTb
 have HREM:=hide hrem
 have HENT:=hide hent
 have HPL:=hide hpl
 have HOP:=hide hop
 have HRDY:Hid (∀ own m ps m',needM (netF d.fs) pr size ⟨n,[]⟩ (-1) i=(.inr own,m)→rootsM (netF d.fs) pr size m (pathS 64 0 size i)=(.inr ps,m')→WdN m'.needed∧(m'.needed.get (placeN size (-1) i)).isSome=true):=fun own m ps m' e e'=>read_ready hsz hi hwf e e'
 have HR1:Hid (∀ p m,needM (netF d.fs) pr size ⟨n,[]⟩ (-1) i=(.inl p,m)→readC (netF d.fs) incC (clOf size root room pr) n i=(.inl (.tile p),clOf size root room pr,m.net)):=fun p m e=>readC_1 e
 have HR2:Hid (∀ own m p m',needM (netF d.fs) pr size ⟨n,[]⟩ (-1) i=(.inr own,m)→rootsM (netF d.fs) pr size m (pathS 64 0 size i)=(.inl p,m')→readC (netF d.fs) incC (clOf size root room pr) n i=(.inl (.tile p),clOf size root room pr,m'.net)):=fun own m p m' e e'=>readC_2 e e'
 have HR3:Hid (∀ own m ps m',needM (netF d.fs) pr size ⟨n,[]⟩ (-1) i=(.inr own,m)→rootsM (netF d.fs) pr size m (pathS 64 0 size i)=(.inr ps,m')→incC own.hash i size ps root=false→readC (netF d.fs) incC (clOf size root room pr) n i=(.inl .proof,clOf size root room pr,m'.net)):=fun own m ps m' e e' e''=>readC_3 e e' e''
 have HR4:Hid (∀ own m ps m',needM (netF d.fs) pr size ⟨n,[]⟩ (-1) i=(.inr own,m)→rootsM (netF d.fs) pr size m (pathS 64 0 size i)=(.inr ps,m')→incC own.hash i size ps root=true→readC (netF d.fs) incC (clOf size root room pr) n i=(.inr (own.entry,ps),{ clOf size root room pr with proved:=rememberM room pr (settleE size m'.needed i own.hash) },m'.net)):=fun own m ps m' e e' e''=>readC_4 e e' e''
 have c14:w.cell? ⟨cb,14,none⟩=some (.pointer (some ⟨nm,0,none⟩)):=(dcell h.cli 14 _ h.cells.nee).1
 have c4:w.cell? ⟨cb,4,none⟩=some (.int .i64 size):=(dcell h.cli 4 _ hC.sz).1
 clear h hC hE hS hTb hrem hent hpl hop hwf
 unfold ptrV at HNEED ⊢
 go_enter_defers Tryz.func59,Tryz.ntmps59
 go_wp2_with fail
 refine HNEED.out.mono ?_
 rintro r w1 ⟨ht1,hcs1,hr1⟩
 have HT1:=hide ht1
 have HCS1:=hide hcs1
 clear ht1 hcs1 HNEED c14 c4
 generalize needM (netF d.fs) pr size ⟨n,[]⟩ (-1) i=NM at *
 obtain⟨o,m1⟩:=NM
 simp only at *
 have HG:Hid (∀ x:Px,x.ok→(storeP (.pointer (some ⟨w1.heap.size,0,none⟩)) (.agg x.cs.toArray)).run Tryz.prog (w1.alloc (.cells noPA' TPiece))= .ok () ((w1.alloc (.cells noPA' TPiece)).setCells w1.heap.size 0 x.cs)∧((w1.alloc (.cells noPA' TPiece)).setCells w1.heap.size 0 x.cs).heap[w1.heap.size]?=some (.cells x.cs.toArray TPiece (0,0))∧Below w1.heap.size w1 ((w1.alloc (.cells noPA' TPiece)).setCells w1.heap.size 0 x.cs)):=by
  intro x hx
  have hf4:(w1.alloc (.cells noPA' TPiece)).heap[w1.heap.size]?=some (.cells Px.no.cs.toArray TPiece (0,0)):=heap_alloc_last _ _
  have hf5:=row_whole hf4 (ds:=x.cs) (by rw [Px.cs_len hx,Px.cs_len Px.no_ok])
  exact⟨storeP_of (row_there hf4) (Px.cs_len hx) (Px.cs_one hx),hf5,below_setCells (below_alloc _ _) (Nat.le_refl _) _ _⟩
 rcases hr1 with ⟨x,c,rfl,hxk,hxi,rfl⟩ | ⟨p,g,rfl,hgb,rfl⟩
 ·obtain⟨hst,hf2,hb2⟩:=HG.out x hxk
  have HB2:=hide hb2
  have HF2:=hide hf2
  have HXK:=hide hxk
  have HXI:=hide hxi
  have HC2:=hide (HCS1.out.below hb2)
  have HT2:Hid (Turn (fun b=>O b∨A b∨OP b) clT w ((w1.alloc (.cells noPA' TPiece)).setCells w1.heap.size 0 x.cs)):=(HT1.out.mono (fun b hb'=>hb'.imp id .inl) (by decide)).then_below hb2
  have HA2:Hid (AInc A (Ext A w w1) w ((w1.alloc (.cells noPA' TPiece)).setCells w1.heap.size 0 x.cs)):=(ainc_ext A w w1).below hb2.size
  have HSTO:=hide hst
  clear hf2 hb2 hxk hxi HG HT1 HCS1 hst
  generalize hV1:(w1.alloc (.cells noPA' TPiece)).setCells w1.heap.size 0 x.cs=V1 at *
  have hst:=HSTO.out
  have HPATH:=hide (pathTo_any 64 (by omega) 0 size i V1 (by omega) (by omega) (by omega) (by omega) (by omega))
  go_wp2_with fail
  refine HPATH.out.mono ?_
  rintro r V2 ⟨sv,rfl,hb3,hsp⟩
  have HB3:=hide hb3
  have HC3:=hide (HC2.out.below hb3)
  have HT3:=hide (HT2.out.then_below hb3)
  have HA3:=hide (HA2.out.below hb3.size)
  have HF3:=hide ((hb3.block _ (heap_some_lt HF2.out)).trans HF2.out)
  have HXI3:Hid (PxIs V2 x c):=PxIs.turn (O:=fun _=>False) (T:=[]) (PxIs.turn (O:=fun _=>False) (T:=[]) HXI.out (.of_below HB2.out) (by decide)) (.of_below hb3) (by decide)
  have HROOTS:=hide (roots_any W0 at_ O (Ext A w w1) OP cb nb db pm nm C d room pr m1 k size hsz HE.out HS.out HTB.out sv (pathS 64 0 size i) V1.heap.size V2 hsp (by have:=pathS_count 64 0 size i;omega) (fun s hs=>by have:=pathS_in 64 0 size i (by omega) s hs;omega) HC3.out)
  clear hb3 hsp HPATH HF2 HXI HC2 HT2 HA2 HSTO hst HB2
  unfold ptrV at HROOTS
  go_wp2_with fail
  refine HROOTS.out.mono ?_
  rintro r w3 ⟨ht3,hcs3,hr3⟩
  have HT4:=hide (turn_on HT3.out HA3.out ht3)
  have HA4:=hide (HA3.out.ext HT3.out.size ht3.size)
  have HV2:=hide HT3.out.size
  have HC4:=hide hcs3
  have HF4:=hide (ht3.keep HF3.out (by decide))
  have HXI4:Hid (PxIs w3 x c):=PxIs.turn HXI3.out ht3 (by decide)
  clear ht3 hcs3 HROOTS HT3 HA3 HF3 HXI3 HC3 HB3
  have HR2':Hid (∀ p m',rootsM (netF d.fs) pr size m1 (pathS 64 0 size i)=(.inl p,m')→readC (netF d.fs) incC (clOf size root room pr) n i=(.inl (.tile p),clOf size root room pr,m'.net)):=fun p m' e=>HR2.out c m1 p m' rfl e
  have HR3':Hid (∀ ps m',rootsM (netF d.fs) pr size m1 (pathS 64 0 size i)=(.inr ps,m')→incC c.hash i size ps root=false→readC (netF d.fs) incC (clOf size root room pr) n i=(.inl .proof,clOf size root room pr,m'.net)):=fun ps m' e e'=>HR3.out c m1 ps m' rfl e e'
  have HR4':Hid (∀ ps m',rootsM (netF d.fs) pr size m1 (pathS 64 0 size i)=(.inr ps,m')→incC c.hash i size ps root=true→readC (netF d.fs) incC (clOf size root room pr) n i=(.inr (c.entry,ps),{ clOf size root room pr with proved:=rememberM room pr (settleE size m'.needed i c.hash) },m'.net)):=fun ps m' e e'=>HR4.out c m1 ps m' rfl e e'
  have HRDY':Hid (∀ ps m',rootsM (netF d.fs) pr size m1 (pathS 64 0 size i)=(.inr ps,m')→WdN m'.needed∧(m'.needed.get (placeN size (-1) i)).isSome=true):=fun ps m' e=>HRDY.out c m1 ps m' rfl e
  have HENT':Hid (c.entry.length≤1000000):=HENT.out c m1 rfl
  have HPSL:Hid (∀ ps m',rootsM (netF d.fs) pr size m1 (pathS 64 0 size i)=(.inr ps,m')→ps.length≤64):=fun ps m' e=>by
   rw [rootsM_len e]
   exact pathS_count 64 0 size i
  clear HR1 HR2 HR3 HR4 HRDY HENT
  generalize rootsM (netF d.fs) pr size m1 (pathS 64 0 size i)=RM at *
  obtain⟨o,m2⟩:=RM
  simp only at *
  rcases hr3 with ⟨ps,pv,rfl,hown,h8,rfl⟩ | ⟨p,g,rfl,hgb,rfl⟩
  ·have HOWN:=hide hown
   have H8:=hide h8
   have HPSL2:=hide (HPSL.out ps m2 rfl)
   have HRDY2:=hide (HRDY'.out ps m2 rfl)
   have HR3b:=hide (HR3'.out ps m2 rfl)
   have HR4b:=hide (HR4'.out ps m2 rfl)
   have HLD:Hid (∀ w',Below w3.heap.size w3 w'→(loadH (.pointer (some ⟨w1.heap.size,2,none⟩))).run Tryz.prog w'= .ok (.agg (hv c.hash)) w'∧(loadH (.pointer (some ⟨cb,5,none⟩))).run Tryz.prog w'= .ok (.agg (hv root)) w'):=by
    intro w' hb
    rw [← HXI4.out.hash]
    refine⟨loadH_of (piece_hash ((hb.block _ (heap_some_lt HF4.out)).trans HF4.out)) HXK.out.1,loadH_of (fun j v hv=>?_) HC.out.r8⟩
    have h1:=HC.out.rt j v hv
    exact(dcell ((hb.block _ (heap_some_lt HC4.out.cli)).trans HC4.out.cli) (5+j) v h1).1
   have hcur:Below w3.heap.size w3 w3.drew:=(Below.refl _ _).drew
   have HINC:=hide (inc_any 1001 c.hash root i size (by omega) pv ps w3.drew (by have:=HPSL2.out;omega) (by have:=HPSL2.out;omega) (by rw [← HXI4.out.hash];exact HXK.out.1) HC.out.r8 (Hss.of_owns (w:=w3.drew) h8 (ownsRow_turn (O:=fun _=>False) (T:=[]) hown (Turn.refl _ _ _).drew (by decide))))
   clear hown h8 HPSL HRDY' HR2' HR3' HR4'
   go_wp2_with fail
   go_region_held3 (fun w'=>(loadH (.pointer (some ⟨w1.heap.size,2,none⟩))).run Tryz.prog w'= .ok (.agg (hv c.hash)) w'∧(loadH (.pointer (some ⟨cb,5,none⟩))).run Tryz.prog w'= .ok (.agg (hv root)) w') (exact HLD.out _ hcur) (first
    | (go_at_call 64;refine HINC.out.mono ?_;rintro r w4 ⟨rfl,hb4⟩;have hnew:=below_undrew hb4;clear hcur hb4;have hcur:=hnew;clear hnew))
   rename_i hheld
   clear hheld
   have HB4:=hide hcur
   have HC5:=hide (HC4.out.below hcur)
   have HT5:=hide (HT4.out.then_below hcur)
   have HA5:=hide (HA4.out.below hcur.size)
   have HF5:=hide ((hcur.block _ (heap_some_lt HF4.out)).trans HF4.out)
   have HXI5:Hid (PxIs w4 x c):=PxIs.turn (O:=fun _=>False) (T:=[]) HXI4.out (.of_below hcur) (by decide)
   have HOWN5:Hid (OwnHs V2.heap.size w4 pv ps):=ownsRow_turn (O:=fun _=>False) (T:=[]) HOWN.out (.of_below hcur) (by decide)
   clear hcur HC4 HT4 HA4 HF4 HXI4 HOWN HINC
   have HR3c:Hid (incB 1001 c.hash (i:Int) (size:Int) ps root=false→readC (netF d.fs) incC (clOf size root room pr) n i=(.inl .proof,clOf size root room pr,m2.net)):=HR3b.out
   have HR4c:Hid (incB 1001 c.hash (i:Int) (size:Int) ps root=true→readC (netF d.fs) incC (clOf size root room pr) n i=(.inr (c.entry,ps),{ clOf size root room pr with proved:=rememberM room pr (settleE size m2.needed i c.hash) },m2.net)):=HR4b.out
   clear HR3b HR4b
   generalize incB 1001 c.hash (i:Int) (size:Int) ps root=B at *
   cases B with
   | false =>
    have hR:=HR3c.out rfl
    clear HR3c HR4c HLD
    have qe:w4.cell? ⟨5,0,none⟩=some (.iface 326 (.pointer (some (at_ 4)))):=by
     exact base_cell HC5.out.base HS.out.proof
    have HC6:=hide (HC5.out.below (Below.refl _ w4).drew)
    obtain⟨L2,hm2⟩:=HC6.out.mem
    have HFG:=hide (forgetN_def .returning _ nm maxI L2 _ hm2)
    clear hm2
    have HRR:=hide hR
    clear hR
    unfold ptrV at HFG
    go_wp2_with fail
    go_region_held3 (fun w'=>w'.cell? ⟨5,0,none⟩=some (.iface 326 (.pointer (some (at_ 4))))) (go_keep) (fail)
    rename_i hheld
    clear hheld
    go_wp2_with fail
    refine leaves_cons (f:=88) (args:=#[.pointer (some ⟨nm,0,none⟩)]) (by simp) (by simp [go_sem]) ?_
    refine HFG.out.mono ?_
    rintro e u' w9 ⟨rfl,rfl,ht9,hm9,hs9⟩
    simp only [Leaves,settle]
    refine⟨.tuple #[.slice none 0 0,.slice none 0 0,errS at_ 4],by simp [results,Tryz.results59,go_sem,errS],?_⟩
    rw [HRR.out]
    exact⟨out_end (HT5.out.then_below (Below.refl _ w4).drew) (HA5.out.below (Nat.le_refl _)) (AInc.refl _ _ _) HC6.out ht9 hm9 (Nat.le_refl _) freshR_nil,.inr (.inr ⟨rfl,rfl⟩)⟩
   | true =>
    have HRR:=hide (HR4c.out rfl)
    clear HR3c HR4c
    have hlx:=(HLD.out w4 HB4.out).1
    have HSET:=hide (settleEntry_any W0 O (Ext (Ext A w w1) V2 w3) OP cb nb db pm nm C d room pr size k i hsz hi c.hash (by rw [← HXI5.out.hash];exact HXK.out.1) m2 w4 HRDY2.out.1 HRDY2.out.2 HC5.out)
    unfold ptrV at HSET
    go_wp2_with fail
    refine HSET.out.mono ?_
    rintro r w6 ⟨rfl,ht6,hcs6⟩
    have HT6:Hid (Turn (fun b=>O b∨A b∨OP b) clT w w6):=turn_on HT5.out HA5.out (ht6.mono (fun _ h=> .inr h) (by decide))
    have HA6:=hide (HA5.out.below ht6.size)
    have HC6:=hide hcs6
    have HF6:=hide (ht6.keep HF5.out (by decide))
    have HXI6:Hid (PxIs w6 x c):=PxIs.turn HXI5.out ht6 (by decide)
    have HOWN6:Hid (OwnHs V2.heap.size w6 pv ps):=ownsRow_turn HOWN5.out ht6 (by decide)
    clear ht6 hcs6 HSET HT5 HA5 HC5 HF5 HXI5 HOWN5 hlx HLD
    have HRM:=hide (HREM.out _ OP pr k _ w6 HPL.out HOP.out HC6.out)
    unfold ptrV at HRM
    go_wp2_with fail
    refine HRM.out.mono ?_
    rintro r w7 ⟨rfl,ht7,hcs7⟩
    have HT7:Hid (Turn (fun b=>O b∨A b∨OP b) clT w w7):=HT6.out.trans (ht7.mono (fun b h=> .inl (.inr (.inr h))) (by decide))
    have HA7:=hide (HA6.out.below ht7.size)
    have HP7:Hid (AInc OP (Ext OP w6 w7) w w7):=⟨fun _ h=> .inl h,fun b hb=>hb.imp id (fun h=>⟨Nat.le_trans HT6.out.size h.1,h.2⟩)⟩
    have HC7:=hide hcs7
    have HF7:=hide (ht7.keep HF6.out (by decide))
    have HXI7:Hid (PxIs w7 x c):=PxIs.turn HXI6.out ht7 (by decide)
    have HOWN7:Hid (OwnHs V2.heap.size w7 pv ps):=ownsRow_turn HOWN6.out ht7 (by decide)
    clear ht7 hcs7 HRM HT6 HA6 HC6 HF6 HXI6 HOWN6
    have q10:w7.cell? ⟨w1.heap.size,10,none⟩=some x.ent:=(dcell HF7.out 10 _ (piece_ent HXK.out)).1
    have HCLN:=hide (clone_ent x.ent c.entry w7 HXI7.out.ent HENT'.out)
    go_wp2_with fail
    refine HCLN.out.mono ?_
    rintro r w8 ⟨ev,rfl,hev,hb8⟩
    have HSZ:Hid (w.heap.size≤V2.heap.size∧w.heap.size≤w7.heap.size):=⟨HV2.out,HT7.out.size⟩
    have HT8:=hide (HT7.out.then_below hb8)
    have HA8:=hide (HA7.out.below hb8.size)
    have HP8:=hide (HP7.out.below hb8.size)
    have HC8:=hide (HC7.out.below hb8)
    have HEV:=hide hev
    have HPRV:=hide HC7.out.prv
    have HAW:=hide HC7.out.away
    have HB8:=hide hb8
    have HOWN8:Hid (OwnHs V2.heap.size w8 pv ps):=ownsRow_turn (O:=fun _=>False) (T:=[]) HOWN7.out (.of_below hb8) (by decide)
    clear hev hb8 q10 HCLN HT7 HA7 HC7 HF7 HXI7 HOWN7 HP7
    obtain⟨L2,hm2⟩:=HC8.out.mem
    have HFG:=hide (forgetN_def .returning _ nm maxI L2 _ hm2)
    clear hm2
    unfold ptrV at HFG
    go_wp2_with fail
    refine leaves_cons (f:=88) (args:=#[.pointer (some ⟨nm,0,none⟩)]) (by simp) (by simp [go_sem]) ?_
    refine HFG.out.mono ?_
    rintro e u' w9 ⟨rfl,rfl,ht9,hm9,hs9⟩
    simp only [Leaves,settle]
    refine⟨.tuple #[ev,pv,.nilIface],by simp [results,Tryz.results59,go_sem],?_⟩
    rw [HRR.out]
    have hfr:FreshR w9 pm room (rememberM room pr (settleE size m2.needed i c.hash)) (.returned (.tuple #[ev,pv,.nilIface])) (Ext OP w6 w7):=by
     intro x' v' e' he
     simp only [Ending.returned.injEq,Value.tuple.injEq] at he
     have:=congrArg (fun a:Array Value=>a[0]?) he
     simp only [List.getElem?_toArray,List.getElem?_cons_zero,Option.some.injEq] at this
     subst this
     refine⟨w7,_,[LkN],HPRV.out,(Turn.of_below HB8.out).trans (ht9.mono (fun _ h=> .inl h) (fun _ h=>h)),fun b hb hb'=>HAW.out b hb (.inr hb'),by decide,fun g hg=>?_⟩
     rcases HEV.out with ⟨h,-⟩ | h
     ·rw [h] at hg;simp [Value.ownBlock] at hg
     ·rcases h.1.2 with ⟨h,-⟩ | ⟨g',cap,cur,h,hB,-⟩
      ·rw [h] at hg;simp [Value.ownBlock] at hg
      ·rw [h] at hg
       simp only [Value.ownBlock,Option.some.injEq] at hg
       omega
    have hout:=out_end HT8.out HA8.out HP8.out HC8.out ht9 hm9 (Nat.le_refl _) (fun _=>hfr)
    refine⟨hout,.inl ⟨c.entry,ps,ev,pv,rfl,?_,?_,H8.out,rfl⟩⟩
    ·rcases HEV.out with h | h
     ·exact .inl h
     ·exact .inr ⟨owns_low (ownsRow_turn h.1 ht9 (by decide)) HSZ.out.2,h.2⟩
    ·exact owns_low (ownsRow_turn HOWN8.out ht9 (by decide)) HSZ.out.1
  ·have HGB:=hide hgb
   obtain⟨L2,hm2⟩:=HC4.out.mem
   have HFG:=hide (forgetN_def .returning _ nm maxI L2 _ hm2)
   clear hgb hm2
   unfold pathE
   unfold ptrV at HFG
   go_wp2_with fail
   refine leaves_cons (f:=88) (args:=#[.pointer (some ⟨nm,0,none⟩)]) (by simp) (by simp [go_sem]) ?_
   refine HFG.out.mono ?_
   rintro e u' w9 ⟨rfl,rfl,ht9,hm9,hs9⟩
   simp only [Leaves,settle]
   refine⟨.tuple #[.slice none 0 0,.slice none 0 0,pathE g],by simp [results,Tryz.results59,go_sem,pathE],?_⟩
   rw [HR2'.out _ _ rfl]
   exact⟨out_end HT4.out HA4.out (AInc.refl _ _ _) HC4.out ht9 hm9 (Nat.le_refl _) freshR_nil,.inr (.inl ⟨p,g,rfl,ht9.keep HGB.out (by decide),rfl⟩)⟩
 ·obtain⟨hst,hf2,hb2⟩:=HG.out .no Px.no_ok
  have HB2:=hide hb2
  have HGB:Hid (((w1.alloc (.cells noPA' TPiece)).setCells w1.heap.size 0 Px.no.cs).heap[g]?=some (.cells #[txv p,errS at_ 5] 115 (0,0))):=(hb2.block _ (heap_some_lt hgb)).trans hgb
  have HC2:=hide (HCS1.out.below hb2)
  obtain⟨L2,hm2⟩:=HC2.out.mem
  have HM2:=hide hm2
  have HFG:=hide (forgetN_def .returning _ nm maxI L2 _ hm2)
  clear hf2 hb2 hgb hm2 HG
  unfold pathE
  unfold ptrV at HFG
  go_wp2_with fail
  refine leaves_cons (f:=88) (args:=#[.pointer (some ⟨nm,0,none⟩)]) (by simp) (by simp [go_sem]) ?_
  refine HFG.out.mono ?_
  rintro e u' w9 ⟨rfl,rfl,ht9,hm9,hs9⟩
  simp only [Leaves,settle]
  refine⟨.tuple #[.slice none 0 0,.slice none 0 0,pathE g],by simp [results,Tryz.results59,go_sem,pathE],?_⟩
  rw [HR1.out _ _ rfl]
  exact⟨out_end ((HT1.out.mono (fun b hb'=>hb'.imp id .inl) (by decide)).then_below HB2.out) ((ainc_ext A w w1).below HB2.out.size) (AInc.refl _ _ _) HC2.out ht9 hm9 (by omega) freshR_nil,.inr (.inl ⟨p,g,rfl,ht9.keep HGB.out (by decide),rfl⟩)⟩
end
end Go.Proofs.YtinhekmmdlhfkaaGreatDoor
