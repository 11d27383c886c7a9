import Derived.Test.YtinhekmmdlhfkaaGreatDoorG31
import Derived.Test.YtinhekmmdlhfkaaGreatDoorG32
import Derived.Test.YtinhekmmdlhfkaaGreatDoorG05
import Derived.Deep.CutRange
namespace Go.Proofs.YtinhekmmdlhfkaaGreatDoor
section
open Go.RowKit
set_option maxRecDepth 100000
attribute [local go_sem ↓] yq yk yt yp yn yo yu yl
theorem CS.forget {W0 w w':World}{O A OP:Nat→Prop}{cb nb db pm nm:Nat}{C:Array Value}{d:Dk}{room:Int}{pr:Mm}{m:Ms Nt}{k:Nat}(h:CS W0 w O A OP cb nb db pm nm C d room pr m k)(ht:zf A [LkN] w w')(hm:vt w' A nm zbe []):CS W0 w' O A OP cb nb db pm nm C d room pr { m with needed:=[] } k :=
 ⟨h.base.trans (ht.below (fun b hb=>h.own b (.inr hb)) h.base.size),h.own,h.apart,fun b hb=>Nat.lt_of_lt_of_le (h.lt b hb) ht.size,h.disk.stay ht (by decide) (by decide),h.net.turn ht (by decide) (by decide) (by decide),h.st,h.few,ht.keep h.cli (by decide),h.cells,h.prv.stay ht (fun b hb e=>h.away b hb (.inr e)) (by decide) (fun _ h=>h),h.away,⟨[],hm,.nil,by simp⟩,by have:=h.short;simp only [List.length_nil];omega⟩
theorem CS.mem {W0 w:World}{O A OP:Nat→Prop}{cb nb db pm nm:Nat}{C:Array Value}{d:Dk}{room:Int}{pr:Mm}{m:Ms Nt}{k:Nat}(h:CS W0 w O A OP cb nb db pm nm C d room pr m k):∃ L,vt w A nm zbe L:=by
 obtain⟨L,hm,-⟩:=h.nee
 exact⟨L,hm⟩
theorem zyu (w:World):Calls Tryz.prog 49 #[.slice none 0 0] w fun r w'=>r= .returned (.slice none 0 0)∧w'=w:=by
 have q:∀(w:World) (a:Option Addr) (n c n' c':Nat),(binOp .eql 76 (.slice a n c) (.slice none n' c')).run Tryz.prog w= .ok (.bool a.isNone) w:=fun w a n c n' c'=>Lib.run_eql_slice_nil w _ _ a n c n' c' Tryz.underlying76
 go_enter Tryz.func49,Tryz.ntmps49
 go_wp2_with fail
 go_ret
 exact⟨rfl,rfl⟩
def z5k (B:Nat)(w:World)(v:Value)(l:List UInt8):Prop:=(v= .slice none 0 0∧l=[])∨OB w B v l
theorem z0j (v:Value)(l:List UInt8)(w:World)(h:zte w v l)(hl:l.length≤1000000):Calls Tryz.prog 49 #[v] w fun r w'=>∃ x,r= .returned x∧z5k w.heap.size w' x l∧Below w.heap.size w w':=by
 rcases h with ⟨rfl,rfl⟩ | ⟨g,cap,C,fr,rfl,hcap,hg,hc⟩
 ·refine(zyu w).mono ?_
  rintro r w' ⟨rfl,rfl⟩
  exact⟨_,rfl,.inl ⟨rfl,rfl⟩,Below.refl _ _⟩
 ·refine(zew ⟨g,0,none⟩ l.length cap l w rfl hl (fun j u hu=>?_)).mono ?_
  ·rw [List.getElem?_map] at hu
   obtain⟨y,hy,rfl⟩:=Option.map_eq_some_iff.1 hu
   obtain⟨hj,ej⟩:=List.getElem?_eq_some_iff.1 hy
   have:=hc j hj
   rw [Addr.add_mid,Nat.zero_add]
   rw [← ej]
   simp [World.cell?,hg,this]
  ·rintro r w' ⟨x,rfl,hx,hb⟩
   exact⟨x,rfl,.inr hx,hb⟩
def zav (leaf:List UInt8)(i n:Nat)(ps:List (List UInt8))(root:List UInt8):Bool:=zqe 1001 leaf i n ps root
def zgv (at_:Nat→Addr)(B:Nat)(w':World)(o:Sum Er (List UInt8×List (List UInt8)))(r:Ending):Prop :=
 (∃ e ps x v,o= .inr (e,ps)∧z5k B w' x e∧zbh B w' v ps∧(∀ p∈ps,p.length=8)∧r= .returned (.tuple #[x,v,.nilIface])) ∨
 (∃ p g,o= .inl (.tile p)∧w'.heap[g]?=some (.cells #[txv p,jo at_ 5] 115 (0,0))∧r= .returned (.tuple #[.slice none 0 0,.slice none 0 0,xm g])) ∨
 (o= .inl .proof∧r= .returned (.tuple #[.slice none 0 0,.slice none 0 0,jo at_ 4]))
abbrev clT:List Nat:=[85,3,LkN,zr,LkP]
end
section
set_option maxHeartbeats 4000000
open Go.RowKit
set_option maxRecDepth 100000
attribute [local go_sem ↓] yq yk yt yp yn yo yu yl
abbrev z9b (W0:World)(O:Nat→Prop)(cb nb db pm nm:Nat)(C:Array Value)(d:Dk)(room:Int):Prop :=
 ∀(A OP:Nat→Prop) (pr:Mm) (k:Nat) (m:Ms Nt) (w:World),pr.length≤100000000000→(∀ b,OP b→W0.heap.size≤b)→CS W0 w O A OP cb nb db pm nm C d room pr m k →
  Calls Tryz.prog 100 #[zt cb] w fun r w'=>r= .returned (.tuple #[])∧zf OP [LkP] w w'∧CS W0 w' O A (Ext OP w w') cb nb db pm nm C d room (ym room pr m.needed) m k
structure zjj (C:Array Value)(size:Nat)(root:List UInt8):Prop where
 sz:C[4]?=some (.int .i64 size)
 rt:∀ j v,(root.map bv)[j]?=some v→C[5+j]?=some v
 r8:root.length=8
structure Out (W0 w w':World)(O A OP:Nat→Prop)(cb nb db pm nm:Nat)(C:Array Value)(d:Dk)(room:Int)(pr:Mm)(n:Nt)(k:Nat)(P:(Nat→Prop)→Prop):Prop where
 turn:zf (fun b=>O b∨A b∨OP b) clT w w'
 cs:∃ A' OP',vf A A' w w'∧vf OP OP' w w'∧CS W0 w' O A' OP' cb nb db pm nm C d room pr ⟨n,[]⟩ k∧P OP'
def zi4 (w':World)(pm:Nat)(room:Int)(pr:Mm)(v:Value)(OP:Nat→Prop):Prop :=
 ∃ Wm N T,zgl Wm OP pm room pr∧zf N T Wm w'∧(∀ k,OP k→¬ N k)∧5∉T∧∀ g,v.ownBlock=some g→Wm.heap.size≤g
def zls (w':World)(pm:Nat)(room:Int)(pr:Mm)(r:Ending)(OP:Nat→Prop):Prop :=
 ∀ x v e,r= .returned (.tuple #[x,v,e])→zi4 w' pm room pr x OP
theorem zxe {w:World}{OP:Nat→Prop}{pm:Nat}{room:Int}{pr:Mm}(h:zgl w OP pm room pr):zi4 w pm room pr (.slice none 0 0) OP :=
 ⟨w,fun _=>False,[],h,zf.refl _ _ _,fun _ _ h=>h,by simp,fun g hg=>by simp [Value.ownBlock] at hg⟩
theorem zih {w:World}{OP:Nat→Prop}{pm:Nat}{room:Int}{pr:Mm}{v e:Value}(h:zgl w OP pm room pr):zls w pm room pr (.returned (.tuple #[.slice none 0 0,v,e])) OP:=by
 intro x v' e' he
 simp only [Ending.returned.injEq,Value.tuple.injEq] at he
 have:=congrArg (fun a:Array Value=>a[0]?) he
 simp only [List.getElem?_toArray,List.getElem?_cons_zero,Option.some.injEq] at this
 subst this
 exact zxe h
theorem zf.apart {N G:Nat→Prop}{T T':List Nat}{a b c:World}(h:zf N T a b)(ht:zf G T' b c)(hg:∀ k,G k→a.heap.size≤k):zf N T a c :=
 ⟨ht.os.trans h.os,ht.tape.trans h.tape,ht.output.trans h.output,Nat.le_trans h.size ht.size,fun k hk=>by
  rcases ht.block k (Nat.lt_of_lt_of_le hk h.size) with e | ⟨g,-⟩
  ·rw [e];exact h.block k hk
  ·have:=hg k g;omega⟩
theorem zi4.on {w w':World}{pm:Nat}{room:Int}{pr:Mm}{v:Value}{OP N':Nat→Prop}{T':List Nat}(h:zi4 w pm room pr v OP)(ht:zf N' T' w w')(hn:∀ k,OP k→¬ N' k)(hu:5∉T'):zi4 w' pm room pr v OP:=by
 obtain⟨Wm,N,T,h1,h2,h3,h4,h5⟩:=h
 refine⟨Wm,fun k=>N k∨N' k,T++T',h1,(h2.mono (fun _ h=> .inl h) (fun t ht=>by simp [ht])).trans (ht.mono (fun _ h=> .inl (.inr h)) (fun t ht=>by simp [ht])),fun k hk=>?_,?_,h5⟩
 ·rintro(h | h)
  ·exact h3 k hk h
  ·exact hn k hk h
 ·simp [h4,hu]
theorem zi4.clear {w w':World}{pm:Nat}{room:Int}{pr:Mm}{v:Value}{OP G:Nat→Prop}{T':List Nat}(h:zi4 w pm room pr v OP)(ht:zf G T' w w')(hg:∀ k,G k→v.ownBlock=some k):zgl w' OP pm room pr:=by
 obtain⟨Wm,N,T,h1,h2,h3,h4,h5⟩:=h
 exact h1.stay (h2.apart ht fun k hk=>h5 k (hg k hk)) h3 h4 (fun _ h=>h)
def ju (size:Nat)(root:List UInt8)(room:Int)(pr:Mm):Cl:=⟨[],size,root,room,pr⟩
section
variable {σ : Type} {fe : σ → List UInt8 → (List UInt8 × Bool) × σ} {inc : List UInt8 → Nat → Nat → List (List UInt8) → List UInt8 → Bool} {c : Cl} {s : σ} {i : Nat}
theorem zlo {p:List UInt8}{m:Ms σ}(h:xu fe c.proved c.size ⟨s,[]⟩ (-1) i=(.inl p,m)):jd fe inc c s i=(.inl (.tile p),c,m.net):=by unfold jd;rw [h]
theorem zlh {own:Pc}{m m':Ms σ}{p:List UInt8}(h:xu fe c.proved c.size ⟨s,[]⟩ (-1) i=(.inr own,m))(h2:yh fe c.proved c.size m (xp 64 0 c.size i)=(.inl p,m')):jd fe inc c s i=(.inl (.tile p),c,m'.net):=by unfold jd;rw [h];simp only [h2]
theorem zle {own:Pc}{m m':Ms σ}{ps:List (List UInt8)}(h:xu fe c.proved c.size ⟨s,[]⟩ (-1) i=(.inr own,m))(h2:yh fe c.proved c.size m (xp 64 0 c.size i)=(.inr ps,m'))(h3:inc own.hash i c.size ps c.root=false):jd fe inc c s i=(.inl .proof,c,m'.net):=by unfold jd;rw [h];simp only [h2,h3,Bool.false_eq_true,if_false]
theorem zlj {own:Pc}{m m':Ms σ}{ps:List (List UInt8)}(h:xu fe c.proved c.size ⟨s,[]⟩ (-1) i=(.inr own,m))(h2:yh fe c.proved c.size m (xp 64 0 c.size i)=(.inr ps,m'))(h3:inc own.hash i c.size ps c.root=true):jd fe inc c s i=(.inr (own.entry,ps),{ c with proved:=ym c.room c.proved (jw c.size m'.needed i own.hash) },m'.net):=by unfold jd;rw [h];simp only [h2,h3,if_true]
end
theorem zde {W0 w:World}(h:Below W0.heap.size W0 w){b o:Nat}{v:Value}(hc:W0.cell? ⟨b,o,none⟩=some v):w.cell? ⟨b,o,none⟩=some v:=by
 have h1:b < W0.heap.size:=zj hc
 simp only [World.cell?] at *
 rw [h.block _ h1];exact hc
theorem zxx {x:Px}(h:x.ok):x.cs.toArray[10]?=some x.ent:=by
 obtain⟨h8,-⟩:=h
 simp only [Px.cs,List.getElem?_toArray,List.getElem?_cons_succ]
 rw [List.getElem?_append_right (by simp [h8])]
 simp [h8]
theorem zdu {w:World}{B B':Nat}{e:TypeId}{s:Nat}{v:Value}{n:Nat}{xs:List Value}(h:w.ownsRow B e s v n xs)(hb:B'≤B):w.ownsRow B' e s v n xs:=by
 obtain⟨h0,h1 | ⟨g,cap,cur,e1,hB,h2⟩⟩:=h
 ·exact⟨h0,.inl h1⟩
 ·exact⟨h0,.inr ⟨g,cap,cur,e1,Nat.le_trans hb hB,h2⟩⟩
theorem zwd:WfM []:=⟨List.Pairwise.nil,fun x hx=>by simp at hx⟩
theorem zfj {σ:Type}{fe:σ→List UInt8→(List UInt8×Bool)×σ}{pr:Mm}{size:Nat}:∀ {ss:List (Nat×Nat)} {m m':Ms σ} {xs:List (List UInt8)},yh fe pr size m ss=(.inr xs,m')→xs.length=ss.length:=by
 intro ss
 induction ss with
 | nil =>
  intro m m' xs h
  simp only [yh,Prod.mk.injEq] at h
  obtain⟨h,-⟩:=h
  cases h
  rfl
 | cons s r ih =>
  intro m m' xs h
  simp only [yh] at h
  split at h
  ·simp at h
  ·rename_i x m1 _
   cases h2:yh fe pr size m1 r with
   | mk o m2 =>
    cases o with
    | inl e =>
     rw [h2] at h
     simp at h
    | inr ys =>
     rw [h2] at h
     simp only [Prod.mk.injEq,Sum.inr.injEq] at h
     obtain⟨rfl,-⟩:=h
     simp [ih h2]
theorem jt.wd {σ:Type}{fe:σ→List UInt8→(List UInt8×Bool)×σ}{proved:Mm}{size:Nat}{m m':Ms σ}{ps:List (Pl×Nat)}(h:jt fe proved size m ps m'):∀ q∈ps,1≤q.1.2.2:=by
 induction h using jt.ind with
 | nil m=>intro q hq;simp at hq
 | cons hj e _ ih =>
  intro q hq
  rcases List.mem_cons.1 hq with rfl | hq
  ·unfold zi
   simp only
   omega
  ·exact ih q hq
theorem jt.wdN {σ:Type}{fe:σ→List UInt8→(List UInt8×Bool)×σ}{proved:Mm}{size:Nat}{m m':Ms σ}{ps:List (Pl×Nat)}(h:jt fe proved size m ps m')(hp:WfM proved)(hm:m.needed=[]):WdN m'.needed:=by
 intro x hx
 rcases h.keys hp (by rw [hm];exact zwd) x hx with ⟨y,hy,-⟩ | ⟨q,hq,eq⟩
 ·rw [hm] at hy;simp at hy
 ·rw [← eq];exact h.wd q hq
theorem zv5 {σ:Type}{fe:σ→List UInt8→(List UInt8×Bool)×σ}{pr:Mm}{size i:Nat}{n:σ}{c:Pc}{m1 m2:Ms σ}{ps:List (List UInt8)}(hs:size < 9223372036854775808)(hi:i < size)(hwf:WfM pr)(hn:xu fe pr size ⟨n,[]⟩ (-1) i=(.inr c,m1))(hr:yh fe pr size m1 (xp 64 0 size i)=(.inr ps,m2)):WdN m2.needed∧(m2.needed.get (zi size (-1) i)).isSome=true:=by
 have hS:jt fe pr size ⟨n,[]⟩ _ m2:=jt.cons (by simpa [zz] using hi) hn (zdv (by omega) _ _ _ _ (fun s hs'=>by have:=zgp 64 0 size i (by omega) s hs';omega) hr)
 refine⟨hS.wdN hwf rfl,?_⟩
 obtain⟨f,hf,-⟩:=(hS.has hwf zwd).1 (zi size (-1) i,i % 4) (by simp)
 exact Option.isSome_iff_exists.2 ⟨f,hf⟩
theorem zfm {W0 w V w9:World}{O A A1 OP OP1:Nat→Prop}{cb nb db pm nm:Nat}{C:Array Value}{d:Dk}{room:Int}{pr:Mm}{m:Ms Nt}{k k1:Nat}(ht:zf (fun b=>O b∨A b∨OP b) clT w V)(hA:vf A A1 w V)(hP:vf OP OP1 w V)(hc:CS W0 V O A1 OP1 cb nb db pm nm C d room pr m k1)(ht9:zf A1 [LkN] V w9)(hm9:vt w9 A1 nm zbe [])(hk:k≤k1){P:(Nat→Prop)→Prop}(hQ:zgl w9 OP1 pm room pr→P OP1):Out W0 w w9 O A OP cb nb db pm nm C d room pr m.net k P:=by
 have hs:=ht9.size
 refine⟨?_,A1,OP1,⟨hA.1,fun b hb'=>(hA.2 b hb').imp id (fun h=>⟨h.1,by omega⟩)⟩,⟨hP.1,fun b hb'=>(hP.2 b hb').imp id (fun h=>⟨h.1,by omega⟩)⟩,(hc.forget ht9 hm9).less hk,hQ (hc.forget ht9 hm9).prv⟩
 refine ht.trans (ht9.mono (fun b hb'=>?_) (by decide))
 rcases hA.2 b hb' with h | h
 ·exact .inl (.inr (.inl h))
 ·exact .inr h
theorem zlk {w V V':World}{O A A1 OP:Nat→Prop}(h:zf (fun b=>O b∨A b∨OP b) clT w V)(hA:vf A A1 w V)(ht:zf (fun b=>O b∨A1 b) qT V V'):zf (fun b=>O b∨A b∨OP b) clT w V':=by
 refine h.trans (ht.mono (fun b hb'=>?_) (by decide))
 rcases hb' with hb' | hb'
 ·exact .inl (.inl hb')
 ·exact(hA.2 b hb').imp (fun h=> .inr (.inl h)) id
theorem vf.ext {A A1:Nat→Prop}{w V V':World}(h:vf A A1 w V)(h1:w.heap.size≤V.heap.size)(h2:V.heap.size≤V'.heap.size):vf A (Ext A1 V V') w V':=by
 refine⟨fun b hb=> .inl (h.1 b hb),fun b hb=>?_⟩
 rcases hb with hb | hb
 ·exact(h.2 b hb).imp id (fun h=>⟨h.1,by omega⟩)
 ·exact .inr ⟨by omega,hb.2⟩
theorem vf.below {A A1:Nat→Prop}{w V V':World}(h:vf A A1 w V)(h2:V.heap.size≤V'.heap.size):vf A A1 w V' :=
 ⟨h.1,fun b hb=>(h.2 b hb).imp id (fun h=>⟨h.1,by omega⟩)⟩
theorem vf.refl (A:Nat→Prop)(w w':World):vf A A w w':=⟨fun _ h=>h,fun _ h=> .inl h⟩
theorem znl (A:Nat→Prop)(w w':World):vf A (Ext A w w') w w':=⟨fun _ h=> .inl h,fun _ h=>h⟩
theorem zl8 (W0:World)(at_:Nat→Addr)(O A OP:Nat→Prop)(cb nb db pm nm:Nat)(C:Array Value)(d:Dk)(room:Int)(pr:Mm)(n:Nt)(k size i:Nat)(root:List UInt8)(hsz:size < 9223372036854775808)(hi:i < size)(hC:zjj C size root)(hE:Env W0)(hS:qm W0 at_)(hTb:zdn W0)(hrem:z9b W0 O cb nb db pm nm C d room)
  (hent:∀ c m',xu (zq d.fs) pr size ⟨n,[]⟩ (-1) i=(.inr c,m')→c.entry.length≤1000000) (hpl:pr.length≤100000000000) (hwf:WfM pr) (hop:∀ b,OP b→W0.heap.size≤b) (w:World) (h:CS W0 w O A OP cb nb db pm nm C d room pr ⟨n,[]⟩ (rPl size (xp 64 0 size i)+k+1)) :
  Calls Tryz.prog 59 #[zt cb,.int .i64 i] w fun r w' =>
   Out W0 w w' O A OP cb nb db pm nm C d room (jd (zq d.fs) zav (ju size root room pr) n i).2.1.proved (jd (zq d.fs) zav (ju size root room pr) n i).2.2 k (zls w' pm room (jd (zq d.fs) zav (ju size root room pr) n i).2.1.proved r)∧zgv at_ w.heap.size w' (jd (zq d.fs) zav (ju size root room pr) n i).1 r:=by
 have HNEED:=za (zro W0 at_ O A OP cb nb db pm nm C d room pr ⟨n,[]⟩ (rPl size (xp 64 0 size i)+k) size (-1) i hsz (by omega) (by omega) (by simpa [zz] using hi) w hE hS h)
 have HH:=za h
 have HC:=za hC
 have HE:=za hE
 have HS:=za hS
 have HTB:=za hTb
 have HREM:=za hrem
 have HENT:=za hent
 have HPL:=za hpl
 have HOP:=za hop
 have HRDY:Hid (∀ own m ps m',xu (zq d.fs) pr size ⟨n,[]⟩ (-1) i=(.inr own,m)→yh (zq d.fs) pr size m (xp 64 0 size i)=(.inr ps,m')→WdN m'.needed∧(m'.needed.get (zi size (-1) i)).isSome=true):=fun own m ps m' e e'=>zv5 hsz hi hwf e e'
 have HR1:Hid (∀ p m,xu (zq d.fs) pr size ⟨n,[]⟩ (-1) i=(.inl p,m)→jd (zq d.fs) zav (ju size root room pr) n i=(.inl (.tile p),ju size root room pr,m.net)):=fun p m e=>zlo e
 have HR2:Hid (∀ own m p m',xu (zq d.fs) pr size ⟨n,[]⟩ (-1) i=(.inr own,m)→yh (zq d.fs) pr size m (xp 64 0 size i)=(.inl p,m')→jd (zq d.fs) zav (ju size root room pr) n i=(.inl (.tile p),ju size root room pr,m'.net)):=fun own m p m' e e'=>zlh e e'
 have HR3:Hid (∀ own m ps m',xu (zq d.fs) pr size ⟨n,[]⟩ (-1) i=(.inr own,m)→yh (zq d.fs) pr size m (xp 64 0 size i)=(.inr ps,m')→zav own.hash i size ps root=false→jd (zq d.fs) zav (ju size root room pr) n i=(.inl .proof,ju size root room pr,m'.net)):=fun own m ps m' e e' e''=>zle e e' e''
 have HR4:Hid (∀ own m ps m',xu (zq d.fs) pr size ⟨n,[]⟩ (-1) i=(.inr own,m)→yh (zq d.fs) pr size m (xp 64 0 size i)=(.inr ps,m')→zav own.hash i size ps root=true→jd (zq d.fs) zav (ju size root room pr) n i=(.inr (own.entry,ps),{ ju size root room pr with proved:=ym room pr (jw size m'.needed i own.hash) },m'.net)):=fun own m ps m' e e' e''=>zlj e e' e''
 have c14:w.cell? ⟨cb,14,none⟩=some (.pointer (some ⟨nm,0,none⟩)):=(zg h.cli 14 _ h.cells.nee).1
 have c4:w.cell? ⟨cb,4,none⟩=some (.int .i64 size):=(zg h.cli 4 _ hC.sz).1
 clear h hC hE hS hTb hrem hent hpl hop hwf
 unfold zt at HNEED ⊢
 go_enter_defers Tryz.func59,Tryz.ntmps59
 go_wp2_with fail
 refine HNEED.o.mono ?_
 rintro r w1 ⟨ht1,hcs1,hr1⟩
 have HT1:=za ht1
 have HCS1:=za hcs1
 clear ht1 hcs1 HNEED c14 c4
 generalize xu (zq d.fs) pr size ⟨n,[]⟩ (-1) i=NM at *
 obtain⟨o,m1⟩:=NM
 simp only at *
 have HG:Hid (∀ x:Px,x.ok→(zgm (.pointer (some ⟨w1.heap.size,0,none⟩)) (.agg x.cs.toArray)).run Tryz.prog (w1.alloc (.cells zbw qr))= .ok () ((w1.alloc (.cells zbw qr)).setCells w1.heap.size 0 x.cs)∧((w1.alloc (.cells zbw qr)).setCells w1.heap.size 0 x.cs).heap[w1.heap.size]?=some (.cells x.cs.toArray qr (0,0))∧Below w1.heap.size w1 ((w1.alloc (.cells zbw qr)).setCells w1.heap.size 0 x.cs)):=by
  intro x hx
  have hf4:(w1.alloc (.cells zbw qr)).heap[w1.heap.size]?=some (.cells Px.no.cs.toArray qr (0,0)):=heap_alloc_last _ _
  have hf5:=qz hf4 (ds:=x.cs) (by rw [Px.cs_len hx,Px.cs_len Px.no_ok])
  exact⟨zbr (jb hf4) (Px.cs_len hx) (Px.cs_one hx),hf5,zu (ze _ _) (Nat.le_refl _) _ _⟩
 rcases hr1 with ⟨x,c,rfl,hxk,hxi,rfl⟩ | ⟨p,g,rfl,hgb,rfl⟩
 ·obtain⟨hst,hf2,hb2⟩:=HG.o x hxk
  have HB2:=za hb2
  have HF2:=za hf2
  have HXK:=za hxk
  have HXI:=za hxi
  have HC2:=za (HCS1.o.below hb2)
  have HT2:Hid (zf (fun b=>O b∨A b∨OP b) clT w ((w1.alloc (.cells zbw qr)).setCells w1.heap.size 0 x.cs)):=(HT1.o.mono (fun b hb'=>hb'.imp id .inl) (by decide)).then_below hb2
  have HA2:Hid (vf A (Ext A w w1) w ((w1.alloc (.cells zbw qr)).setCells w1.heap.size 0 x.cs)):=(znl A w w1).below hb2.size
  have HSTO:=za hst
  clear hf2 hb2 hxk hxi HG HT1 HCS1 hst
  generalize hV1:(w1.alloc (.cells zbw qr)).setCells w1.heap.size 0 x.cs=V1 at *
  have hst:=HSTO.o
  have HPATH:=za (zt5 64 (by omega) 0 size i V1 (by omega) (by omega) (by omega) (by omega) (by omega))
  go_wp2_with fail
  refine HPATH.o.mono ?_
  rintro r V2 ⟨sv,rfl,hb3,hsp⟩
  have HB3:=za hb3
  have HC3:=za (HC2.o.below hb3)
  have HT3:=za (HT2.o.then_below hb3)
  have HA3:=za (HA2.o.below hb3.size)
  have HF3:=za ((hb3.block _ (zb HF2.o)).trans HF2.o)
  have HXI3:Hid (zcq V2 x c):=zcq.turn (O:=fun _=>False) (T:=[]) (zcq.turn (O:=fun _=>False) (T:=[]) HXI.o (.of_below HB2.o) (by decide)) (.of_below hb3) (by decide)
  have HROOTS:=za (zpk W0 at_ O (Ext A w w1) OP cb nb db pm nm C d room pr m1 k size hsz HE.o HS.o HTB.o sv (xp 64 0 size i) V1.heap.size V2 hsp (by have:=za3 64 0 size i;omega) (fun s hs=>by have:=zgp 64 0 size i (by omega) s hs;omega) HC3.o)
  clear hb3 hsp HPATH HF2 HXI HC2 HT2 HA2 HSTO hst HB2
  unfold zt at HROOTS
  go_wp2_with fail
  refine HROOTS.o.mono ?_
  rintro r w3 ⟨ht3,hcs3,hr3⟩
  have HT4:=za (zlk HT3.o HA3.o ht3)
  have HA4:=za (HA3.o.ext HT3.o.size ht3.size)
  have HV2:=za HT3.o.size
  have HC4:=za hcs3
  have HF4:=za (ht3.keep HF3.o (by decide))
  have HXI4:Hid (zcq w3 x c):=zcq.turn HXI3.o ht3 (by decide)
  clear ht3 hcs3 HROOTS HT3 HA3 HF3 HXI3 HC3 HB3
  have HR2':Hid (∀ p m',yh (zq d.fs) pr size m1 (xp 64 0 size i)=(.inl p,m')→jd (zq d.fs) zav (ju size root room pr) n i=(.inl (.tile p),ju size root room pr,m'.net)):=fun p m' e=>HR2.o c m1 p m' rfl e
  have HR3':Hid (∀ ps m',yh (zq d.fs) pr size m1 (xp 64 0 size i)=(.inr ps,m')→zav c.hash i size ps root=false→jd (zq d.fs) zav (ju size root room pr) n i=(.inl .proof,ju size root room pr,m'.net)):=fun ps m' e e'=>HR3.o c m1 ps m' rfl e e'
  have HR4':Hid (∀ ps m',yh (zq d.fs) pr size m1 (xp 64 0 size i)=(.inr ps,m')→zav c.hash i size ps root=true→jd (zq d.fs) zav (ju size root room pr) n i=(.inr (c.entry,ps),{ ju size root room pr with proved:=ym room pr (jw size m'.needed i c.hash) },m'.net)):=fun ps m' e e'=>HR4.o c m1 ps m' rfl e e'
  have HRDY':Hid (∀ ps m',yh (zq d.fs) pr size m1 (xp 64 0 size i)=(.inr ps,m')→WdN m'.needed∧(m'.needed.get (zi size (-1) i)).isSome=true):=fun ps m' e=>HRDY.o c m1 ps m' rfl e
  have HENT':Hid (c.entry.length≤1000000):=HENT.o c m1 rfl
  have HPSL:Hid (∀ ps m',yh (zq d.fs) pr size m1 (xp 64 0 size i)=(.inr ps,m')→ps.length≤64):=fun ps m' e=>by
   rw [zfj e]
   exact za3 64 0 size i
  clear HR1 HR2 HR3 HR4 HRDY HENT
  generalize yh (zq d.fs) pr size m1 (xp 64 0 size i)=RM at *
  obtain⟨o,m2⟩:=RM
  simp only at *
  rcases hr3 with ⟨ps,pv,rfl,hown,h8,rfl⟩ | ⟨p,g,rfl,hgb,rfl⟩
  ·have HOWN:=za hown
   have H8:=za h8
   have HPSL2:=za (HPSL.o ps m2 rfl)
   have HRDY2:=za (HRDY'.o ps m2 rfl)
   have HR3b:=za (HR3'.o ps m2 rfl)
   have HR4b:=za (HR4'.o ps m2 rfl)
   have HLD:Hid (∀ w',Below w3.heap.size w3 w'→(vx (.pointer (some ⟨w1.heap.size,2,none⟩))).run Tryz.prog w'= .ok (.agg (hv c.hash)) w'∧(vx (.pointer (some ⟨cb,5,none⟩))).run Tryz.prog w'= .ok (.agg (hv root)) w'):=by
    intro w' hb
    rw [← HXI4.o.hash]
    refine⟨qg (zl9 ((hb.block _ (zb HF4.o)).trans HF4.o)) HXK.o.1,qg (fun j v hv=>?_) HC.o.r8⟩
    have h1:=HC.o.rt j v hv
    exact(zg ((hb.block _ (zb HC4.o.cli)).trans HC4.o.cli) (5+j) v h1).1
   have hcur:Below w3.heap.size w3 w3.drew:=(Below.refl _ _).drew
   have HINC:=za (z5t 1001 c.hash root i size (by omega) pv ps w3.drew (by have:=HPSL2.o;omega) (by have:=HPSL2.o;omega) (by rw [← HXI4.o.hash];exact HXK.o.1) HC.o.r8 (Hss.of_owns (w:=w3.drew) h8 (zo (O:=fun _=>False) (T:=[]) hown (zf.refl _ _ _).drew (by decide))))
   clear hown h8 HPSL HRDY' HR2' HR3' HR4'
   go_wp2_with fail
   go_region_held3 (fun w'=>(vx (.pointer (some ⟨w1.heap.size,2,none⟩))).run Tryz.prog w'= .ok (.agg (hv c.hash)) w'∧(vx (.pointer (some ⟨cb,5,none⟩))).run Tryz.prog w'= .ok (.agg (hv root)) w') (exact HLD.o _ hcur) (first
    | (go_at_call 64;refine HINC.o.mono ?_;rintro r w4 ⟨rfl,hb4⟩;have hnew:=qk hb4;clear hcur hb4;have hcur:=hnew;clear hnew))
   rename_i hheld
   clear hheld
   have HB4:=za hcur
   have HC5:=za (HC4.o.below hcur)
   have HT5:=za (HT4.o.then_below hcur)
   have HA5:=za (HA4.o.below hcur.size)
   have HF5:=za ((hcur.block _ (zb HF4.o)).trans HF4.o)
   have HXI5:Hid (zcq w4 x c):=zcq.turn (O:=fun _=>False) (T:=[]) HXI4.o (.of_below hcur) (by decide)
   have HOWN5:Hid (zbh V2.heap.size w4 pv ps):=zo (O:=fun _=>False) (T:=[]) HOWN.o (.of_below hcur) (by decide)
   clear hcur HC4 HT4 HA4 HF4 HXI4 HOWN HINC
   have HR3c:Hid (zqe 1001 c.hash (i:Int) (size:Int) ps root=false→jd (zq d.fs) zav (ju size root room pr) n i=(.inl .proof,ju size root room pr,m2.net)):=HR3b.o
   have HR4c:Hid (zqe 1001 c.hash (i:Int) (size:Int) ps root=true→jd (zq d.fs) zav (ju size root room pr) n i=(.inr (c.entry,ps),{ ju size root room pr with proved:=ym room pr (jw size m2.needed i c.hash) },m2.net)):=HR4b.o
   clear HR3b HR4b
   generalize zqe 1001 c.hash (i:Int) (size:Int) ps root=B at *
   cases B with
   | false =>
    have hR:=HR3c.o rfl
    clear HR3c HR4c HLD
    have qe:w4.cell? ⟨5,0,none⟩=some (.iface 326 (.pointer (some (at_ 4)))):=by
     exact zde HC5.o.base HS.o.proof
    have HC6:=za (HC5.o.below (Below.refl _ w4).drew)
    obtain⟨L2,hm2⟩:=HC6.o.mem
    have HFG:=za (za0 .returning _ nm zbe L2 _ hm2)
    clear hm2
    have HRR:=za hR
    clear hR
    unfold zt at HFG
    go_wp2_with fail
    go_region_held3 (fun w'=>w'.cell? ⟨5,0,none⟩=some (.iface 326 (.pointer (some (at_ 4))))) (go_keep) (fail)
    rename_i hheld
    clear hheld
    go_wp2_with fail
    refine leaves_cons (f:=88) (args:=#[.pointer (some ⟨nm,0,none⟩)]) (by simp) (by simp [go_sem]) ?_
    refine HFG.o.mono ?_
    rintro e u' w9 ⟨rfl,rfl,ht9,hm9,hs9⟩
    simp only [Leaves,settle]
    refine⟨.tuple #[.slice none 0 0,.slice none 0 0,jo at_ 4],by simp [results,Tryz.results59,go_sem,jo],?_⟩
    rw [HRR.o]
    exact⟨zfm (HT5.o.then_below (Below.refl _ w4).drew) (HA5.o.below (Nat.le_refl _)) (vf.refl _ _ _) HC6.o ht9 hm9 (Nat.le_refl _) zih,.inr (.inr ⟨rfl,rfl⟩)⟩
   | true =>
    have HRR:=za (HR4c.o rfl)
    clear HR3c HR4c
    have hlx:=(HLD.o w4 HB4.o).1
    have HSET:=za (zlc W0 O (Ext (Ext A w w1) V2 w3) OP cb nb db pm nm C d room pr size k i hsz hi c.hash (by rw [← HXI5.o.hash];exact HXK.o.1) m2 w4 HRDY2.o.1 HRDY2.o.2 HC5.o)
    unfold zt at HSET
    go_wp2_with fail
    refine HSET.o.mono ?_
    rintro r w6 ⟨rfl,ht6,hcs6⟩
    have HT6:Hid (zf (fun b=>O b∨A b∨OP b) clT w w6):=zlk HT5.o HA5.o (ht6.mono (fun _ h=> .inr h) (by decide))
    have HA6:=za (HA5.o.below ht6.size)
    have HC6:=za hcs6
    have HF6:=za (ht6.keep HF5.o (by decide))
    have HXI6:Hid (zcq w6 x c):=zcq.turn HXI5.o ht6 (by decide)
    have HOWN6:Hid (zbh V2.heap.size w6 pv ps):=zo HOWN5.o ht6 (by decide)
    clear ht6 hcs6 HSET HT5 HA5 HC5 HF5 HXI5 HOWN5 hlx HLD
    have HRM:=za (HREM.o _ OP pr k _ w6 HPL.o HOP.o HC6.o)
    unfold zt at HRM
    go_wp2_with fail
    refine HRM.o.mono ?_
    rintro r w7 ⟨rfl,ht7,hcs7⟩
    have HT7:Hid (zf (fun b=>O b∨A b∨OP b) clT w w7):=HT6.o.trans (ht7.mono (fun b h=> .inl (.inr (.inr h))) (by decide))
    have HA7:=za (HA6.o.below ht7.size)
    have HP7:Hid (vf OP (Ext OP w6 w7) w w7):=⟨fun _ h=> .inl h,fun b hb=>hb.imp id (fun h=>⟨Nat.le_trans HT6.o.size h.1,h.2⟩)⟩
    have HC7:=za hcs7
    have HF7:=za (ht7.keep HF6.o (by decide))
    have HXI7:Hid (zcq w7 x c):=zcq.turn HXI6.o ht7 (by decide)
    have HOWN7:Hid (zbh V2.heap.size w7 pv ps):=zo HOWN6.o ht7 (by decide)
    clear ht7 hcs7 HRM HT6 HA6 HC6 HF6 HXI6 HOWN6
    have q10:w7.cell? ⟨w1.heap.size,10,none⟩=some x.ent:=(zg HF7.o 10 _ (zxx HXK.o)).1
    have HCLN:=za (z0j x.ent c.entry w7 HXI7.o.ent HENT'.o)
    go_wp2_with fail
    refine HCLN.o.mono ?_
    rintro r w8 ⟨ev,rfl,hev,hb8⟩
    have HSZ:Hid (w.heap.size≤V2.heap.size∧w.heap.size≤w7.heap.size):=⟨HV2.o,HT7.o.size⟩
    have HT8:=za (HT7.o.then_below hb8)
    have HA8:=za (HA7.o.below hb8.size)
    have HP8:=za (HP7.o.below hb8.size)
    have HC8:=za (HC7.o.below hb8)
    have HEV:=za hev
    have HPRV:=za HC7.o.prv
    have HAW:=za HC7.o.away
    have HB8:=za hb8
    have HOWN8:Hid (zbh V2.heap.size w8 pv ps):=zo (O:=fun _=>False) (T:=[]) HOWN7.o (.of_below hb8) (by decide)
    clear hev hb8 q10 HCLN HT7 HA7 HC7 HF7 HXI7 HOWN7 HP7
    obtain⟨L2,hm2⟩:=HC8.o.mem
    have HFG:=za (za0 .returning _ nm zbe L2 _ hm2)
    clear hm2
    unfold zt at HFG
    go_wp2_with fail
    refine leaves_cons (f:=88) (args:=#[.pointer (some ⟨nm,0,none⟩)]) (by simp) (by simp [go_sem]) ?_
    refine HFG.o.mono ?_
    rintro e u' w9 ⟨rfl,rfl,ht9,hm9,hs9⟩
    simp only [Leaves,settle]
    refine⟨.tuple #[ev,pv,.nilIface],by simp [results,Tryz.results59,go_sem],?_⟩
    rw [HRR.o]
    have hfr:zls w9 pm room (ym room pr (jw size m2.needed i c.hash)) (.returned (.tuple #[ev,pv,.nilIface])) (Ext OP w6 w7):=by
     intro x' v' e' he
     simp only [Ending.returned.injEq,Value.tuple.injEq] at he
     have:=congrArg (fun a:Array Value=>a[0]?) he
     simp only [List.getElem?_toArray,List.getElem?_cons_zero,Option.some.injEq] at this
     subst this
     refine⟨w7,_,[LkN],HPRV.o,(zf.of_below HB8.o).trans (ht9.mono (fun _ h=> .inl h) (fun _ h=>h)),fun b hb hb'=>HAW.o b hb (.inr hb'),by decide,fun g hg=>?_⟩
     rcases HEV.o with ⟨h,-⟩ | h
     ·rw [h] at hg;simp [Value.ownBlock] at hg
     ·rcases h.1.2 with ⟨h,-⟩ | ⟨g',cap,cur,h,hB,-⟩
      ·rw [h] at hg;simp [Value.ownBlock] at hg
      ·rw [h] at hg
       simp only [Value.ownBlock,Option.some.injEq] at hg
       omega
    have hout:=zfm HT8.o HA8.o HP8.o HC8.o ht9 hm9 (Nat.le_refl _) (fun _=>hfr)
    refine⟨hout,.inl ⟨c.entry,ps,ev,pv,rfl,?_,?_,H8.o,rfl⟩⟩
    ·rcases HEV.o with h | h
     ·exact .inl h
     ·exact .inr ⟨zdu (zo h.1 ht9 (by decide)) HSZ.o.2,h.2⟩
    ·exact zdu (zo HOWN8.o ht9 (by decide)) HSZ.o.1
  ·have HGB:=za hgb
   obtain⟨L2,hm2⟩:=HC4.o.mem
   have HFG:=za (za0 .returning _ nm zbe L2 _ hm2)
   clear hgb hm2
   unfold xm
   unfold zt at HFG
   go_wp2_with fail
   refine leaves_cons (f:=88) (args:=#[.pointer (some ⟨nm,0,none⟩)]) (by simp) (by simp [go_sem]) ?_
   refine HFG.o.mono ?_
   rintro e u' w9 ⟨rfl,rfl,ht9,hm9,hs9⟩
   simp only [Leaves,settle]
   refine⟨.tuple #[.slice none 0 0,.slice none 0 0,xm g],by simp [results,Tryz.results59,go_sem,xm],?_⟩
   rw [HR2'.o _ _ rfl]
   exact⟨zfm HT4.o HA4.o (vf.refl _ _ _) HC4.o ht9 hm9 (Nat.le_refl _) zih,.inr (.inl ⟨p,g,rfl,ht9.keep HGB.o (by decide),rfl⟩)⟩
 ·obtain⟨hst,hf2,hb2⟩:=HG.o .no Px.no_ok
  have HB2:=za hb2
  have HGB:Hid (((w1.alloc (.cells zbw qr)).setCells w1.heap.size 0 Px.no.cs).heap[g]?=some (.cells #[txv p,jo at_ 5] 115 (0,0))):=(hb2.block _ (zb hgb)).trans hgb
  have HC2:=za (HCS1.o.below hb2)
  obtain⟨L2,hm2⟩:=HC2.o.mem
  have HM2:=za hm2
  have HFG:=za (za0 .returning _ nm zbe L2 _ hm2)
  clear hf2 hb2 hgb hm2 HG
  unfold xm
  unfold zt at HFG
  go_wp2_with fail
  refine leaves_cons (f:=88) (args:=#[.pointer (some ⟨nm,0,none⟩)]) (by simp) (by simp [go_sem]) ?_
  refine HFG.o.mono ?_
  rintro e u' w9 ⟨rfl,rfl,ht9,hm9,hs9⟩
  simp only [Leaves,settle]
  refine⟨.tuple #[.slice none 0 0,.slice none 0 0,xm g],by simp [results,Tryz.results59,go_sem,xm],?_⟩
  rw [HR1.o _ _ rfl]
  exact⟨zfm ((HT1.o.mono (fun b hb'=>hb'.imp id .inl) (by decide)).then_below HB2.o) ((znl A w w1).below HB2.o.size) (vf.refl _ _ _) HC2.o ht9 hm9 (by omega) zih,.inr (.inl ⟨p,g,rfl,ht9.keep HGB.o (by decide),rfl⟩)⟩
end
end Go.Proofs.YtinhekmmdlhfkaaGreatDoor
