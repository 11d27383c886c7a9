import Derived.Test.YtinhekmmdlhfkaaGreatDoorG27
import Derived.Test.YtinhekmmdlhfkaaGreatDoorG28
namespace Go.Proofs.YtinhekmmdlhfkaaGreatDoor
section
set_option maxHeartbeats 1000000
open Go.RowKit
set_option maxRecDepth 100000
attribute [local go_sem ↓] yq yk yt yp yn yo yu yl zf3
theorem zdn.below {W w:World}(h:zdn W)(hb:Below W.heap.size W w):zdn w:=fun j hj=>by
 have:=h j hj
 rw [hb.cell (p:=⟨_,j,none⟩) (zj this)]
 exact this
def zw5 (at_:Nat→Addr)(w':World)(o:Sum (List UInt8) (List UInt8))(r:Ending):Prop :=
 (∃ h,o= .inr h∧h.length=8∧r= .returned (.tuple #[.agg (hv h),.nilIface])) ∨
 (∃ p g,o= .inl p∧w'.heap[g]?=some (.cells #[txv p,jo at_ 5] 115 (0,0))∧r= .returned (.tuple #[.agg (hv xd),xm g]))
theorem CS.less {W0 w:World}{O A OP:Nat→Prop}{cb nb db pm nm:Nat}{C:Array Value}{d:Dk}{room:Int}{pr:Mm}{m:Ms Nt}{k k':Nat}(h:CS W0 w O A OP cb nb db pm nm C d room pr m k)(hk:k'≤k):CS W0 w O A OP cb nb db pm nm C d room pr m k' :=
 ⟨h.base,h.own,h.apart,h.lt,h.disk,h.net,h.st,by have:=h.few;omega,h.cli,h.cells,h.prv,h.away,h.nee,by have:=h.short;omega⟩
theorem CS.below {W0 w w':World}{O A OP:Nat→Prop}{cb nb db pm nm:Nat}{C:Array Value}{d:Dk}{room:Int}{pr:Mm}{m:Ms Nt}{k:Nat}(h:CS W0 w O A OP cb nb db pm nm C d room pr m k)(hb:Below w.heap.size w w'):CS W0 w' O A OP cb nb db pm nm C d room pr m k:=by
 have ht:zf (fun _=>False) [] w w':= .of_below hb
 exact⟨h.base.trans (hb.mono h.base.size),h.own,h.apart,fun b hb'=>Nat.lt_of_lt_of_le (h.lt b hb') hb.size,h.disk.stay ht (by simp) (by simp),h.net.below hb,h.st,h.few,ht.keep h.cli (by simp),h.cells,h.prv.stay ht (fun _ _ h=>h) (by simp) (fun _ h=>h),h.away,h.nee.stay ht (fun _ _ h=>h) (by simp) (by simp) (fun _ h=>h),h.short⟩
theorem CS.mono {W0 w:World}{O A A' OP:Nat→Prop}{cb nb db pm nm:Nat}{C:Array Value}{d:Dk}{room:Int}{pr:Mm}{m:Ms Nt}{k:Nat}(h:CS W0 w O A OP cb nb db pm nm C d room pr m k)(h1:∀ b,A b→A' b)(h2:∀ b,A' b→A b∨(W0.heap.size≤b∧b < w.heap.size∧¬ O b∧¬ OP b)):CS W0 w O A' OP cb nb db pm nm C d room pr m k:=by
 refine⟨h.base,?_,?_,?_,h.disk,h.net,h.st,h.few,h.cli,h.cells,h.prv,?_,?_,h.short⟩
 ·rintro b (hb | hb)
  ·exact h.own b (.inl hb)
  ·rcases h2 b hb with hb | hb
   ·exact h.own b (.inr hb)
   ·exact hb.1
 ·intro b hO hA
  rcases h2 b hA with hb | hb
  ·exact h.apart b hO hb
  ·exact hb.2.2.1 hO
 ·rintro b (hb | hb | hb)
  ·exact h.lt b (.inl hb)
  ·rcases h2 b hb with hb | hb
   ·exact h.lt b (.inr (.inl hb))
   ·exact hb.2.1
  ·exact h.lt b (.inr (.inr hb))
 ·rintro b hb (hO | hA)
  ·exact h.away b hb (.inl hO)
  ·rcases h2 b hA with hA | hA
   ·exact h.away b hb (.inr hA)
   ·exact hA.2.2.2 hb
 ·obtain⟨LN,g1,g2,g3⟩:=h.nee
  refine⟨LN,g1.below (Below.refl _ _) h1,g2.mono fun a _ b hr=>⟨hr.1,?_⟩,g3⟩
  obtain⟨fb,xs,e,h3,h4⟩:=hr.2
  exact⟨fb,xs,e,h1 _ h3,h4⟩
theorem zl9 {w:World}{b:Nat}{x:Px}(h:w.heap[b]?=some (.cells x.cs.toArray qr (0,0))):w.rangeAt b 2 (x.hash.map bv):=by
 have hr:=yv h
 intro j v hv
 have hj:j < (x.hash.map bv).length:=(List.getElem?_eq_some_iff.1 hv).1
 have:=hr (2+j) v (by
  unfold Px.cs
  rw [show 2+j=j+1+1 by omega,List.getElem?_cons_succ,List.getElem?_cons_succ,List.getElem?_append_left (by simpa using hj)]
  exact hv)
 rw [Nat.zero_add] at this
 exact this
theorem CS.aside {W0 w w':World}{O A OP:Nat→Prop}{cb nb db pm nm:Nat}{C:Array Value}{d:Dk}{room:Int}{pr:Mm}{m:Ms Nt}{k x:Nat}{T:List Nat}(h:CS W0 w O A OP cb nb db pm nm C d room pr m k)(ht:zf (fun b=>b=x) T w w')(hx:W0.heap.size≤x)(hn:¬ O x∧¬ A x∧¬ OP x)
  (hT:∀ t∈[41,63,85,65,3,qw,5,zr],t∉T):CS W0 w' O A OP cb nb db pm nm C d room pr m k:=by
 refine⟨h.base.trans (ht.below (fun b hb=>by rw [hb];exact hx) h.base.size),h.own,h.apart,fun b hb=>Nat.lt_of_lt_of_le (h.lt b hb) ht.size,h.disk.stay ht (hT _ (by simp)) (hT _ (by simp)),h.net.turn ht (hT _ (by simp)) (hT _ (by simp)) (hT _ (by simp)),h.st,h.few,ht.keep h.cli (hT _ (by simp)),h.cells,h.prv.stay ht (fun b hb e=>?_) (hT _ (by simp)) (fun _ h=>h),h.away,h.nee.stay ht (fun b hb e=>?_) (hT _ (by simp)) (hT _ (by simp)) (fun _ h=>h),h.short⟩
 ·subst e;exact hn.2.2 hb
 ·subst e;exact hn.2.1 hb
theorem zjc {W0 w W1 w4 V:World}{O A OP:Nat→Prop}{cb nb db pm nm:Nat}{C:Array Value}{d:Dk}{room:Int}{pr:Mm}{m m1:Ms Nt}{k k0:Nat}(h0:CS W0 w O A OP cb nb db pm nm C d room pr m k0)(hw1:w.heap.size+1 < W1.heap.size)(hcs:CS W0 w4 O (Ext A W1 w4) OP cb nb db pm nm C d room pr m1 k)(hb1:Below w.heap.size w W1)(hb:Below w4.heap.size w4 V)(hT:zf (fun b=>O b∨A b) qT w V)
  (hrv:V.heap[w.heap.size+1]?=some (.cells (hv xd) 91 (0,0))) (hh:List UInt8) (h8:hh.length=8) :
  (zcx (.pointer (some ⟨w.heap.size+1,0,none⟩)) (.agg (hv hh))).run Tryz.prog V= .ok () (V.setCells (w.heap.size+1) 0 (hh.map bv))∧(V.setCells (w.heap.size+1) 0 (hh.map bv)).heap[w.heap.size+1]?=some (.cells (hv hh) 91 (0,0))∧zf (fun b=>O b∨A b) qT w (V.setCells (w.heap.size+1) 0 (hh.map bv))∧CS W0 (V.setCells (w.heap.size+1) 0 (hh.map bv)) O (Ext A w (V.setCells (w.heap.size+1) 0 (hh.map bv))) OP cb nb db pm nm C d room pr m1 k∧zf (fun b=>b=w.heap.size+1) [91] V (V.setCells (w.heap.size+1) 0 (hh.map bv)):=by
 have hv8:(V.setCells (w.heap.size+1) 0 (hh.map bv)).heap[w.heap.size+1]?=some (.cells (hv hh) 91 (0,0)):=qz (cs:=xd.map bv) hrv (ds:=hh.map bv) (by simp [h8,xd])
 have hTn:zf (fun b=>b=w.heap.size+1) [91] V (V.setCells (w.heap.size+1) 0 (hh.map bv)):=(zf.refl (fun b=>b=w.heap.size+1) [91] V).setCells (.inl rfl) hrv (by simp) _ _
 have hsz:(V.setCells (w.heap.size+1) 0 (hh.map bv)).heap.size=V.heap.size:=j6 _ _
 have hlt:=zb hrv
 have s1:=hb1.size
 have s2:=hb.size
 refine⟨za9 (by have:=jb (cs:=xd.map bv) hrv;simpa [xd] using this) h8,hv8,hT.setCellsNew (Nat.le_succ _) _ _,?_,hTn⟩
 have hcv:=hcs.below hb
 generalize V.setCells (w.heap.size+1) 0 (hh.map bv)=V' at *
 have hb0:=h0.base.size
 have hnot:∀ b,O b∨A b∨OP b→b≠w.heap.size+1:=fun b hb e=>by have:=h0.lt b hb;omega
 have h5:=hcv.aside hTn (by omega) ⟨fun h=>hnot _ (.inl h) rfl,fun h=>by
  rcases h with h | h
  ·exact hnot _ (.inr (.inl h)) rfl
  ·omega,fun h=>hnot _ (.inr (.inr h)) rfl⟩ (by decide)
 refine h5.mono ?_ ?_
 ·rintro b (hb' | hb')
  ·exact .inl hb'
  ·exact .inr ⟨by omega,by omega⟩
 ·rintro b (hb' | hb')
  ·exact .inl (.inl hb')
  ·refine .inr ⟨by omega,by omega,fun hO=>?_,fun hO=>?_⟩
   ·have:=h0.lt b (.inl hO);omega
   ·have:=h0.lt b (.inr (.inr hO));omega
abbrev spV (a n:Nat):Value:= .agg #[.int .i64 a,.int .i64 n]
theorem z0d (W0:World)(at_:Nat→Addr)(O A OP:Nat→Prop)(cb nb db pm nm:Nat)(C:Array Value)(d:Dk)(room:Int)(pr:Mm)(m:Ms Nt)(k size a n f:Nat)(hsz:size < 9223372036854775808)(hl:a+n≤size)(h1:1≤n)(he:n / 4 ^ lvl n=1)(w:World)(hE:Env W0)(hS:qm W0 at_)(hTb:zdn W0)
  (h:CS W0 w O A OP cb nb db pm nm C d room pr m (k+1)) :
  Calls Tryz.prog 140 #[zt cb,.int .i64 size,spV a n] w fun r w' =>
   zf (fun b=>O b∨A b) qT w w'∧CS W0 w' O (Ext A w w') OP cb nb db pm nm C d room pr (xf (zq d.fs) pr size (f+1) m a n).2 k∧zw5 at_ w' (xf (zq d.fs) pr size (f+1) m a n).1 r:=by
 obtain⟨-,hl32,hiff⟩:=zb6 n h1 (by omega)
 have hj:=zjr a n (lvl n) size hl (hiff.1 he)
 have HJ:=za hj
 have hc1:zz ((lvl n:Nat):Int) n=1:=by unfold zz;rw [Int.toNat_natCast];exact he
 have hc2:zz ((lvl n:Nat):Int) a=a / 4 ^ lvl n:=by unfold zz;rw [Int.toNat_natCast]
 have HC1:=za hc1
 have HC2:=za hc2
 have HTZ:=za (fun w (hT:zdn w)=>zuj n (by omega) (by omega) w hT)
 have hq:((Lib.ctz 64 n:Nat):Int) / 2=((lvl n:Nat):Int):=by unfold lvl;omega
 have HQ:=za hq
 have hw64:IntKind.u64.wrap (n:Int)=(n:Int):=by
  have h1:(n:Int) < 18446744073709551616:=by omega
  have h0:0≤(n:Int):=by omega
  simp [IntKind.wrap,IntKind.bits,IntKind.signed]
  omega
 have HCA:=za (fun(x:Nat) (hx:x < 9223372036854775808) w=>zda ((lvl n:Nat):Int) (by omega) (by omega) x hx w)
 have HNEED:=za (fun w' (h':CS W0 w' O A OP cb nb db pm nm C d room pr m (k+1))=>zro W0 at_ O A OP cb nb db pm nm C d room pr m k size ((lvl n:Nat):Int) (a / 4 ^ lvl n) hsz (by omega) (by omega) hj w' hE hS h')
 have HH:=za h
 have HE:=za hE
 have HS:=za hS
 have HTB:=za hTb
 have HRM:Hid (∀ o m1,xu (zq d.fs) pr size m ((lvl n:Nat):Int) (a / 4 ^ lvl n)=(o,m1)→xf (zq d.fs) pr size (f+1) m a n=(match o with
  | .inl e=>(.inl e,m1)
  | .inr c=>(.inr c.hash,m1))):=by
  intro o m1 e
  cases o with
  | inl p=>exact zfn he e
  | inr c=>exact zhj he e
 have HN:Hid (n < 9223372036854775808∧a < 9223372036854775808):=⟨by omega,by omega⟩
 clear h hE hS hTb hj hc1 hc2 he hiff hl hq
 generalize hL:lvl n=L at *
 clear hL
 generalize a / 4 ^ L=J at *
 generalize Lib.ctz 64 n=Z at *
 unfold spV zt
 go_enter Tryz.func140,Tryz.ntmps140
 go_wp2_with fail
 have hB1:Below w.heap.size w ((w.alloc (.cells #[.int .i64 a,.int .i64 n] 208)).alloc (.cells jg 91)):=zw w _ _
 have hS1:((w.alloc (.cells #[.int .i64 a,.int .i64 n] 208)).alloc (.cells jg 91)).heap[w.heap.size]?=some (.cells #[.int .i64 a,.int .i64 n] 208 (0,0)):=zc (heap_alloc_last _ _)
 have hR1:((w.alloc (.cells #[.int .i64 a,.int .i64 n] 208)).alloc (.cells jg 91)).heap[w.heap.size+1]?=some (.cells (hv xd) 91 (0,0)):=by
  have:=heap_alloc_last (w.alloc (.cells #[.int .i64 a,.int .i64 n] 208)) (.cells jg 91)
  rw [show(w.alloc (.cells #[.int .i64 a,.int .i64 n] 208)).heap.size=w.heap.size+1 by simp] at this
  exact this
 have HB1:=za hB1
 have HS1:=za hS1
 have HR1:=za hR1
 clear hw64 hB1 hS1 hR1
 generalize (w.alloc (.cells #[.int .i64 a,.int .i64 n] 208)).alloc (.cells jg 91)=W1 at *
 have HCS:=za (HH.o.below HB1.o)
 refine(HTZ.o W1 (HTB.o.below HCS.o.base)).mono ?_
 rintro r w1 ⟨rfl,rfl⟩
 obtain⟨q0,-⟩:=zg HS1.o 0 _ rfl
 obtain⟨q1,-⟩:=zg HS1.o 1 _ rfl
 simp only [List.getElem_toArray,List.getElem_cons_zero,List.getElem_cons_succ] at q0 q1
 have hwl:wrap64 (L:Int)=(L:Int):=by unfold wrap64;omega
 go_wp2_with fail
 rw [HQ.o,hwl]
 refine(HCA.o n HN.o.1 w1).mono ?_
 rintro r w2 ⟨rfl,rfl⟩
 rw [HC1.o]
 go_wp2_with fail
 refine(HCA.o a HN.o.2 w2).mono ?_
 rintro r w3 ⟨rfl,rfl⟩
 rw [HC2.o]
 go_wp2_with fail
 have HND:=za (HNEED.o w3 HCS.o)
 unfold zt at HND
 refine HND.o.mono ?_
 rintro r w4 ⟨ht4,hcs4,hr4⟩
 have HT4:=za ht4
 have HCS4:=za hcs4
 have hr1:w4.heap[w.heap.size+1]?=some (.cells (hv xd) 91 (0,0)):=ht4.keep HR1.o (by decide)
 have HR4:=za hr1
 have HM:=za (HRM.o (xu (zq d.fs) pr size m (L:Int) J).1 (xu (zq d.fs) pr size m (L:Int) J).2 rfl)
 have HS4:Hid (w.heap.size+1 < w3.heap.size):=zb HR1.o
 clear ht4 hcs4 hr1 q0 q1 HND HNEED HRM HTZ HCA
 generalize xu (zq d.fs) pr size m (L:Int) J=NM at *
 obtain⟨o,m1⟩:=NM
 simp only at *
 have HG:Hid (∀ x:Px,x.ok→(zgm (.pointer (some ⟨w4.heap.size,0,none⟩)) (.agg x.cs.toArray)).run Tryz.prog (w4.alloc (.cells zbw qr))= .ok () ((w4.alloc (.cells zbw qr)).setCells w4.heap.size 0 x.cs)∧(vx (.pointer (some ⟨w4.heap.size,2,none⟩))).run Tryz.prog ((w4.alloc (.cells zbw qr)).setCells w4.heap.size 0 x.cs)= .ok (.agg (hv x.hash)) ((w4.alloc (.cells zbw qr)).setCells w4.heap.size 0 x.cs)∧Below w4.heap.size w4 ((w4.alloc (.cells zbw qr)).setCells w4.heap.size 0 x.cs)):=by
  intro x hx
  have hf4:(w4.alloc (.cells zbw qr)).heap[w4.heap.size]?=some (.cells Px.no.cs.toArray qr (0,0)):=heap_alloc_last _ _
  have hf5:=qz hf4 (ds:=x.cs) (by rw [Px.cs_len hx,Px.cs_len Px.no_ok])
  refine⟨zbr (jb hf4) (Px.cs_len hx) (Px.cs_one hx),qg (zl9 hf5) hx.1,zu (ze _ _) (Nat.le_refl _) _ _⟩
 have HEND:Hid (∀(V:World) (hh:List UInt8),hh.length=8→Below w4.heap.size w4 V→(zcx (.pointer (some ⟨w.heap.size+1,0,none⟩)) (.agg (hv hh))).run Tryz.prog V= .ok () (V.setCells (w.heap.size+1) 0 (hh.map bv))∧(V.setCells (w.heap.size+1) 0 (hh.map bv)).heap[w.heap.size+1]?=some (.cells (hv hh) 91 (0,0))∧zf (fun b=>O b∨A b) qT w (V.setCells (w.heap.size+1) 0 (hh.map bv))∧CS W0 (V.setCells (w.heap.size+1) 0 (hh.map bv)) O (Ext A w (V.setCells (w.heap.size+1) 0 (hh.map bv))) OP cb nb db pm nm C d room pr m1 k∧zf (fun b=>b=w.heap.size+1) [91] V (V.setCells (w.heap.size+1) 0 (hh.map bv))):=by
  intro V hh h8 hb
  have hrv:V.heap[w.heap.size+1]?=some (.cells (hv xd) 91 (0,0)):=(hb.block _ (zb HR4.o)).trans HR4.o
  have hT:zf (fun b=>O b∨A b) qT w V:=((zf.of_below HB1.o).trans (HT4.o.mono (fun _ h=> .inl h) (fun _ h=>h))).then_below hb
  exact zjc HH.o HS4.o HCS4.o HB1.o hb hT hrv hh h8
 rcases hr4 with ⟨x,c,rfl,hxk,hxi,rfl⟩ | ⟨p,g,rfl,hgb,rfl⟩
 ·obtain⟨hst,hld,hb5⟩:=HG.o x hxk
  obtain⟨e1,e2,e3,e4,e5⟩:=HEND.o _ x.hash hxk.1 hb5
  have HXK:=za hxk
  have HXH:=za hxi.hash
  have HE2:=za e2
  have HE3:=za e3
  have HE4:=za e4
  clear e2 e3 e4 e5 hxk hxi hb5 HG HEND
  go_wp2_with fail
  refine bodyPost_ret (v:= .tuple #[.agg (hv x.hash),.nilIface]) (zy Tryz.results140 _ _ (w.heap.size+1) 91 _ (0,0) _ rfl HE2.o Tryz.underlying91 rfl (by rw [ze2,qd,HXK.o.1]) _ rfl) rfl ?_
  rw [HM.o]
  exact⟨HE3.o,HE4.o,.inl ⟨x.hash,by rw [HXH.o],HXK.o.1,rfl⟩⟩
 ·obtain⟨hst,hld,hb5⟩:=HG.o .no Px.no_ok
  obtain⟨e1,e2,e3,e4,e5⟩:=HEND.o _ xd rfl hb5
  have HGB:Hid (((w4.alloc (.cells zbw qr)).setCells w4.heap.size 0 Px.no.cs).heap[g]?=some (.cells #[txv p,jo at_ 5] 115 (0,0))):=(hb5.block _ (zb hgb)).trans hgb
  have HE2:=za e2
  have HE3:=za e3
  have HE4:=za e4
  have HE5:=za e5
  rw [show Px.no.hash=xd from rfl] at hld
  clear e2 e3 e4 e5 hgb hb5 HG HEND
  unfold xm
  go_wp2_with fail
  refine bodyPost_ret (v:= .tuple #[.agg (hv xd),xm g]) (zy Tryz.results140 _ _ (w.heap.size+1) 91 _ (0,0) _ rfl HE2.o Tryz.underlying91 rfl (by rw [ze2];rfl) _ rfl) rfl ?_
  rw [HM.o]
  exact⟨HE3.o,HE4.o,.inr ⟨p,g,rfl,HE5.o.keep HGB.o (by decide),rfl⟩⟩
end
section
set_option maxHeartbeats 2000000
open Go.RowKit
set_option maxRecDepth 100000
attribute [local go_sem ↓] yq yk yt yp yn yo yu yl zf3
abbrev z3z (W0:World)(at_:Nat→Addr)(O OP:Nat→Prop)(cb nb db pm nm:Nat)(C:Array Value)(d:Dk)(room:Int)(pr:Mm)(size f:Nat):Prop :=
 ∀(A:Nat→Prop) (m:Ms Nt) (k a n:Nat) (w:World),a+n≤size→1≤n→n≤2 ^ f→CS W0 w O A OP cb nb db pm nm C d room pr m ((yi size (f+1) a n).length+k) →
  Calls Tryz.prog 140 #[zt cb,.int .i64 size,spV a n] w fun r w' =>
   zf (fun b=>O b∨A b) qT w w'∧CS W0 w' O (Ext A w w') OP cb nb db pm nm C d room pr (xf (zq d.fs) pr size (f+1) m a n).2 k∧zw5 at_ w' (xf (zq d.fs) pr size (f+1) m a n).1 r
theorem z0c (W0:World)(at_:Nat→Addr)(O OP:Nat→Prop)(cb nb db pm nm:Nat)(C:Array Value)(d:Dk)(room:Int)(pr:Mm)(size f:Nat)(hsz:size < 9223372036854775808)(hTb:zdn W0)(ih:z3z W0 at_ O OP cb nb db pm nm C d room pr size f)
  (A:Nat→Prop) (m:Ms Nt) (k a n:Nat) (w:World) (hl:a+n≤size) (hn2:2≤n) (hn:n≤2 ^ (f+1)) (he:¬ n / 4 ^ lvl n=1) (h:CS W0 w O A OP cb nb db pm nm C d room pr m ((yi size (f+2) a n).length+k)) :
  Calls Tryz.prog 140 #[zt cb,.int .i64 size,spV a n] w fun r w' =>
   zf (fun b=>O b∨A b) qT w w'∧CS W0 w' O (Ext A w w') OP cb nb db pm nm C d room pr (xf (zq d.fs) pr size (f+2) m a n).2 k∧zw5 at_ w' (xf (zq d.fs) pr size (f+2) m a n).1 r:=by
 obtain⟨k1,k2,k3,k4,k5,k6⟩:=jl n f hn2 hn
 have hlen:(yi size (f+2) a n).length=(yi size (f+1) a (kOf n)).length+(yi size (f+1) (a+kOf n) (n - kOf n)).length:=by
  rw [yi,if_neg he,List.length_append]
 rw [hlen] at h
 obtain⟨-,hl32,hiff⟩:=zb6 n (by omega) (by omega)
 have hc1:¬((zz ((lvl n:Nat):Int) n:Nat):Int)=1:=by unfold zz;rw [Int.toNat_natCast];omega
 have HTZ:=za (fun w (hT:zdn w)=>zuj n (by omega) (by omega) w hT)
 have HCA:=za (fun(x:Nat) (hx:x < 9223372036854775808) w=>zda ((lvl n:Nat):Int) (by omega) (by omega) x hx w)
 have HQ:Hid (((Lib.ctz 64 n:Nat):Int) / 2=((lvl n:Nat):Int)):=by show _=_;unfold lvl;omega
 have hw64:IntKind.u64.wrap (n:Int)=(n:Int):=by
  have h1:(n:Int) < 18446744073709551616:=by omega
  have h0:0≤(n:Int):=by omega
  simp [IntKind.wrap,IntKind.bits,IntKind.signed]
  omega
 have HHV:=za (fun w=>zdo a n w (by omega) hn2)
 have hsp2:((a:Int)+(kOf n:Int))=((a+kOf n:Nat):Int):=by omega
 have hsp3:((n:Int) - (kOf n:Int))=((n - kOf n:Nat):Int):=by omega
 rw [hsp2,hsp3] at HHV
 have HL:=za (fun w (h:CS W0 w O A OP cb nb db pm nm C d room pr m ((yi size (f+1) a (kOf n)).length+(yi size (f+1) (a+kOf n) (n - kOf n)).length+k))=>ih A m ((yi size (f+1) (a+kOf n) (n - kOf n)).length+k) a (kOf n) w (by omega) k3 k1 (by rw [← Nat.add_assoc];exact h))
 have HR:=za (fun A' m' w (h:CS W0 w O A' OP cb nb db pm nm C d room pr m' ((yi size (f+1) (a+kOf n) (n - kOf n)).length+k))=>ih A' m' k (a+kOf n) (n - kOf n) w (by omega) k4 k2 h)
 have HM1:Hid (∀ e m1,xf (zq d.fs) pr size (f+1) m a (kOf n)=(.inl e,m1)→xf (zq d.fs) pr size (f+2) m a n=(.inl e,m1)):=fun e m1 h=>zfc he h
 have HM2:Hid (∀ x m1 e m2,xf (zq d.fs) pr size (f+1) m a (kOf n)=(.inr x,m1)→xf (zq d.fs) pr size (f+1) m1 (a+kOf n) (n - kOf n)=(.inl e,m2)→xf (zq d.fs) pr size (f+2) m a n=(.inl e,m2)):=fun x m1 e m2 h h'=>zea he h h'
 have HM3:Hid (∀ x m1 y m2,xf (zq d.fs) pr size (f+1) m a (kOf n)=(.inr x,m1)→xf (zq d.fs) pr size (f+1) m1 (a+kOf n) (n - kOf n)=(.inr y,m2)→xf (zq d.fs) pr size (f+2) m a n=(.inr (xa x y),m2)):=fun x m1 y m2 h h'=>zhd he h h'
 have HH:=za h
 have HTB:=za hTb
 have HN:Hid (n < 9223372036854775808∧a < 9223372036854775808):=⟨by omega,by omega⟩
 have HC1:=za hc1
 clear h hTb hc1 he hiff hl hsp2 hsp3 hlen ih k1 k2 k3 k4 k5 k6 hn hn2
 generalize hL:lvl n=L at *
 clear hL
 generalize Lib.ctz 64 n=Z at *
 generalize (yi size (f+1) (a+kOf n) (n - kOf n)).length=lr at *
 generalize (yi size (f+1) a (kOf n)).length=ll at *
 generalize kOf n=K at *
 generalize a+K=B at *
 generalize n - K=M at *
 unfold spV zt
 go_enter Tryz.func140,Tryz.ntmps140
 go_wp2_with fail
 have hB1:Below w.heap.size w ((w.alloc (.cells #[.int .i64 a,.int .i64 n] 208)).alloc (.cells jg 91)):=zw w _ _
 have hS1:((w.alloc (.cells #[.int .i64 a,.int .i64 n] 208)).alloc (.cells jg 91)).heap[w.heap.size]?=some (.cells #[.int .i64 a,.int .i64 n] 208 (0,0)):=zc (heap_alloc_last _ _)
 have hR1:((w.alloc (.cells #[.int .i64 a,.int .i64 n] 208)).alloc (.cells jg 91)).heap[w.heap.size+1]?=some (.cells (hv xd) 91 (0,0)):=by
  have:=heap_alloc_last (w.alloc (.cells #[.int .i64 a,.int .i64 n] 208)) (.cells jg 91)
  rw [show(w.alloc (.cells #[.int .i64 a,.int .i64 n] 208)).heap.size=w.heap.size+1 by simp] at this
  exact this
 have HB1:=za hB1
 have HS1:=za hS1
 have HR1:=za hR1
 clear hw64 hB1 hS1 hR1
 generalize (w.alloc (.cells #[.int .i64 a,.int .i64 n] 208)).alloc (.cells jg 91)=W1 at *
 have HCS:=za (HH.o.below HB1.o)
 refine(HTZ.o W1 (HTB.o.below HCS.o.base)).mono ?_
 rintro r w1 ⟨rfl,rfl⟩
 obtain⟨q0,-⟩:=zg HS1.o 0 _ rfl
 obtain⟨q1,-⟩:=zg HS1.o 1 _ rfl
 simp only [List.getElem_toArray,List.getElem_cons_zero,List.getElem_cons_succ] at q0 q1
 have hwl:wrap64 (L:Int)=(L:Int):=by unfold wrap64;omega
 go_wp2_with fail
 rw [HQ.o,hwl]
 refine(HCA.o n HN.o.1 w1).mono ?_
 rintro r w2 ⟨rfl,rfl⟩
 generalize hcc:((zz (L:Int) n:Nat):Int)=cc at *
 have hcd:(cc==1)=false:=by simpa using HC1.o
 clear hcc hwl
 go_wp2_with fail
 refine(HHV.o w2).mono ?_
 rintro r w3 ⟨rfl,hb3⟩
 go_wp2_with fail
 have hB4:Below w.heap.size w ((w3.alloc (.cells #[.int .i64 a,.int .i64 K] 208)).alloc (.cells #[.int .i64 B,.int .i64 M] 208)):=HB1.o.trans ((hb3.trans ((zw w3 _ _).mono hb3.size)).mono HB1.o.size)
 have HS4:Hid (((w3.alloc (.cells #[.int .i64 a,.int .i64 K] 208)).alloc (.cells #[.int .i64 B,.int .i64 M] 208)).heap[w3.heap.size+1]?=some (.cells #[.int .i64 B,.int .i64 M] 208 (0,0))):=by
  have:=heap_alloc_last (w3.alloc (.cells #[.int .i64 a,.int .i64 K] 208)) (.cells #[.int .i64 B,.int .i64 M] 208)
  rw [show(w3.alloc (.cells #[.int .i64 a,.int .i64 K] 208)).heap.size=w3.heap.size+1 by simp] at this
  exact this
 have HR4:Hid (((w3.alloc (.cells #[.int .i64 a,.int .i64 K] 208)).alloc (.cells #[.int .i64 B,.int .i64 M] 208)).heap[w.heap.size+1]?=some (.cells (hv xd) 91 (0,0))):=zc (zc ((hb3.block _ (zb HR1.o)).trans HR1.o))
 have HB4:=za hB4
 clear hB4 hb3 q0 q1
 generalize (w3.alloc (.cells #[.int .i64 a,.int .i64 K] 208)).alloc (.cells #[.int .i64 B,.int .i64 M] 208)=W4 at *
 generalize w3.heap.size=sb at *
 have HLL:=za (HL.o W4 (HH.o.below HB4.o))
 unfold spV zt at HLL
 refine HLL.o.mono ?_
 rintro r w5 ⟨ht5,hcs5,hr5⟩
 have HW4:Hid (w.heap.size+1 < W4.heap.size):=zb HR4.o
 have HT5:=za ht5
 have HCS5:=za hcs5
 have HR5:Hid (w5.heap[w.heap.size+1]?=some (.cells (hv xd) 91 (0,0))):=ht5.keep HR4.o (by decide)
 have HS5:Hid (w5.heap[sb+1]?=some (.cells #[.int .i64 B,.int .i64 M] 208 (0,0))):=ht5.keep HS4.o (by decide)
 clear ht5 hcs5 HLL HL HTZ HCA HHV hcd
 generalize xf (zq d.fs) pr size (f+1) m a K=ML at *
 obtain⟨o1,m1⟩:=ML
 simp only at *
 have HG:Hid (∀ x:List UInt8,x.length=8→(zcx (.pointer (some ⟨w5.heap.size,0,none⟩)) (.agg (hv x))).run Tryz.prog (w5.alloc (.cells jg 91))= .ok () ((w5.alloc (.cells jg 91)).setCells w5.heap.size 0 (x.map bv))∧((w5.alloc (.cells jg 91)).setCells w5.heap.size 0 (x.map bv)).heap[w5.heap.size]?=some (.cells (hv x) 91 (0,0))∧Below w5.heap.size w5 ((w5.alloc (.cells jg 91)).setCells w5.heap.size 0 (x.map bv))):=by
  intro x hx
  have hf4:(w5.alloc (.cells jg 91)).heap[w5.heap.size]?=some (.cells (xd.map bv).toArray 91 (0,0)):=heap_alloc_last _ _
  have hf5:=qz hf4 (ds:=x.map bv) (by simp [hx,xd])
  exact⟨za9 (by have:=jb hf4;simpa [xd] using this) hx,hf5,zu (ze _ _) (Nat.le_refl _) _ _⟩
 rcases hr5 with ⟨x,rfl,hx8,rfl⟩ | ⟨p,g,rfl,hgb,rfl⟩
 ·obtain⟨hst,hf6,hb6⟩:=HG.o x hx8
  have HF6:=za hf6
  have HB6:=za hb6
  have HX8:=za hx8
  have hs6:=(hb6.block _ (zb HS5.o)).trans HS5.o
  have HS6:=za hs6
  obtain⟨q0,-⟩:=zg hs6 0 _ rfl
  obtain⟨q1,-⟩:=zg hs6 1 _ rfl
  simp only [List.getElem_toArray,List.getElem_cons_zero,List.getElem_cons_succ] at q0 q1
  clear hf6 hb6 hs6 HG hx8
  go_wp2_with fail
  generalize (w5.alloc (.cells jg 91)).setCells w5.heap.size 0 (x.map bv)=V6 at *
  have HM2':Hid (∀ e m2,xf (zq d.fs) pr size (f+1) m1 B M=(.inl e,m2)→xf (zq d.fs) pr size (f+2) m a n=(.inl e,m2)):=fun e m2 h'=>HM2.o x m1 e m2 rfl h'
  have HM3':Hid (∀ y m2,xf (zq d.fs) pr size (f+1) m1 B M=(.inr y,m2)→xf (zq d.fs) pr size (f+2) m a n=(.inr (xa x y),m2)):=fun y m2 h'=>HM3.o x m1 y m2 rfl h'
  have HRR:=za (HR.o _ m1 V6 (HCS5.o.below HB6.o))
  unfold spV zt at HRR
  refine HRR.o.mono ?_
  rintro r w7 ⟨ht7,hcs7,hr7⟩
  have HX7:Hid (w7.heap[w5.heap.size]?=some (.cells (hv x) 91 (0,0))):=ht7.keep HF6.o (by decide)
  have HR7:Hid (w7.heap[w.heap.size+1]?=some (.cells (hv xd) 91 (0,0))):=ht7.keep ((HB6.o.block _ (zb HR5.o)).trans HR5.o) (by decide)
  have HT57:Hid (zf (fun b=>O b∨A b) qT w w7):=(((zf.of_below HB4.o).trans (HT5.o.mono (fun _ h=> .inl h) (fun _ h=>h))).then_below HB6.o).trans (ht7.mono (fun b hb=>by
   rcases hb with hb | hb | hb
   ·exact .inl (.inl hb)
   ·exact .inl (.inr hb)
   ·exact .inr ⟨by have:=HB4.o.size;omega,Nat.lt_of_lt_of_le hb.2 HB6.o.size⟩) (fun _ h=>h))
  have HCS7:Hid (CS W0 w7 O (Ext A W4 w7) OP cb nb db pm nm C d room pr (xf (zq d.fs) pr size (f+1) m1 B M).2 k):=hcs7.mono (fun b hb=>by
   have s1:=HB6.o.size
   have s2:=ht7.size
   rcases hb with (hb | hb) | hb
   ·exact .inl hb
   ·exact .inr ⟨hb.1,by omega⟩
   ·exact .inr ⟨by have:=HT5.o.size;omega,hb.2⟩) (fun b hb=>by
   have s0:=HH.o.base.size
   have s1:=HB4.o.size
   rcases hb with hb | hb
   ·exact .inl (.inl (.inl hb))
   ·refine .inr ⟨by omega,hb.2,fun hO=>?_,fun hO=>?_⟩
    ·have:=HH.o.lt b (.inl hO);omega
    ·have:=HH.o.lt b (.inr (.inr hO));omega)
  clear ht7 hcs7 HRR HR HM1 HM2 HM3 q0 q1 hst
  generalize xf (zq d.fs) pr size (f+1) m1 B M=MR at *
  obtain⟨o2,m2⟩:=MR
  simp only at *
  have HG:Hid (∀ y:List UInt8,y.length=8→(zcx (.pointer (some ⟨w7.heap.size,0,none⟩)) (.agg (hv y))).run Tryz.prog (w7.alloc (.cells jg 91))= .ok () ((w7.alloc (.cells jg 91)).setCells w7.heap.size 0 (y.map bv))∧((w7.alloc (.cells jg 91)).setCells w7.heap.size 0 (y.map bv)).heap[w7.heap.size]?=some (.cells (hv y) 91 (0,0))∧Below w7.heap.size w7 ((w7.alloc (.cells jg 91)).setCells w7.heap.size 0 (y.map bv))):=by
   intro y hy
   have hf4:(w7.alloc (.cells jg 91)).heap[w7.heap.size]?=some (.cells (xd.map bv).toArray 91 (0,0)):=heap_alloc_last _ _
   have hf5:=qz hf4 (ds:=y.map bv) (by simp [hy,xd])
   exact⟨za9 (by have:=jb hf4;simpa [xd] using this) hy,hf5,zu (ze _ _) (Nat.le_refl _) _ _⟩
  rcases hr7 with ⟨y,rfl,hy8,rfl⟩ | ⟨p,g,rfl,hgb,rfl⟩
  ·obtain⟨hst,hf8,hb8⟩:=HG.o y hy8
   have hx8:((w7.alloc (.cells jg 91)).setCells w7.heap.size 0 (y.map bv)).heap[w5.heap.size]?=some (.cells (hv x) 91 (0,0)):=(hb8.block _ (zb HX7.o)).trans HX7.o
   have hlx:=qg (yv (cs:=x.map bv) hx8) HX8.o
   have hly:=qg (yv (cs:=y.map bv) hf8) hy8
   have HB8:=za hb8
   have HY8:=za hy8
   clear hf8 hb8 hx8 HG hy8
   go_wp2_with fail
   generalize (w7.alloc (.cells jg 91)).setCells w7.heap.size 0 (y.map bv)=V8 at *
   refine(zaw x y V8 HX8.o HY8.o).mono ?_
   rintro r w9 ⟨rfl,hb9⟩
   have hb79:Below w7.heap.size w7 w9:=HB8.o.trans (hb9.mono HB8.o.size)
   obtain⟨e1,e2,e3,e4,e5⟩:=zjc HH.o HW4.o HCS7.o HB4.o hb79 (HT57.o.then_below hb79) ((hb79.block _ (zb HR7.o)).trans HR7.o) (xa x y) (qf x y)
   have HE2:=za e2
   have HE3:=za e3
   have HE4:=za e4
   clear e2 e3 e4 e5 hb9 hb79
   go_wp2_with fail
   refine bodyPost_ret (v:= .tuple #[.agg (hv (xa x y)),.nilIface]) (zy Tryz.results140 _ _ (w.heap.size+1) 91 _ (0,0) _ rfl HE2.o Tryz.underlying91 rfl (by rw [ze2,qd,qf]) _ rfl) rfl ?_
   rw [HM3'.o _ _ rfl]
   exact⟨HE3.o,HE4.o,.inl ⟨_,rfl,qf x y,rfl⟩⟩
  ·obtain⟨hst,hf8,hb8⟩:=HG.o xd rfl
   obtain⟨e1,e2,e3,e4,e5⟩:=zjc HH.o HW4.o HCS7.o HB4.o hb8 (HT57.o.then_below hb8) ((hb8.block _ (zb HR7.o)).trans HR7.o) xd rfl
   have HGB:Hid (((w7.alloc (.cells jg 91)).setCells w7.heap.size 0 (xd.map bv)).heap[g]?=some (.cells #[txv p,jo at_ 5] 115 (0,0))):=(hb8.block _ (zb hgb)).trans hgb
   have HE2:=za e2
   have HE3:=za e3
   have HE4:=za e4
   have HE5:=za e5
   have hbh:=fun w0=>zjv w0
   clear e2 e3 e4 e5 hgb hf8 hb8 HG
   unfold xm
   go_wp2_with fail
   refine bodyPost_ret (v:= .tuple #[.agg (hv xd),xm g]) (zy Tryz.results140 _ _ (w.heap.size+1) 91 _ (0,0) _ rfl HE2.o Tryz.underlying91 rfl (by rw [ze2];rfl) _ rfl) rfl ?_
   rw [HM2'.o _ _ rfl]
   exact⟨HE3.o,HE4.o,.inr ⟨p,g,rfl,HE5.o.keep HGB.o (by decide),rfl⟩⟩
 ·obtain⟨hst,hf6,hb6⟩:=HG.o xd rfl
  have HB6:=za hb6
  have hT:zf (fun b=>O b∨A b) qT w ((w5.alloc (.cells jg 91)).setCells w5.heap.size 0 (xd.map bv)):=((zf.of_below HB4.o).trans (HT5.o.mono (fun _ h=> .inl h) (fun _ h=>h))).then_below hb6
  obtain⟨e1,e2,e3,e4,e5⟩:=zjc HH.o HW4.o HCS5.o HB4.o hb6 hT ((hb6.block _ (zb HR5.o)).trans HR5.o) xd rfl
  have HGB:Hid (((w5.alloc (.cells jg 91)).setCells w5.heap.size 0 (xd.map bv)).heap[g]?=some (.cells #[txv p,jo at_ 5] 115 (0,0))):=(hb6.block _ (zb hgb)).trans hgb
  have HE2:=za e2
  have HE3:=za e3
  have HE4:=za (e4.less (Nat.le_add_left _ _))
  have HE5:=za e5
  have hbh:=fun w0=>zjv w0
  clear e2 e3 e4 e5 hgb hf6 hb6 hT HG
  unfold xm
  go_wp2_with fail
  refine bodyPost_ret (v:= .tuple #[.agg (hv xd),xm g]) (zy Tryz.results140 _ _ (w.heap.size+1) 91 _ (0,0) _ rfl HE2.o Tryz.underlying91 rfl (by rw [ze2];rfl) _ rfl) rfl ?_
  rw [HM1.o _ _ rfl]
  exact⟨HE3.o,HE4.o,.inr ⟨p,g,rfl,HE5.o.keep HGB.o (by decide),rfl⟩⟩
theorem z15 (W0:World)(at_:Nat→Addr)(O OP:Nat→Prop)(cb nb db pm nm:Nat)(C:Array Value)(d:Dk)(room:Int)(pr:Mm)(size:Nat)(hsz:size < 9223372036854775808)(hE:Env W0)(hS:qm W0 at_)(hTb:zdn W0):∀ f,z3z W0 at_ O OP cb nb db pm nm C d room pr size f:=by
 have base:∀(f:Nat) (A:Nat→Prop) (m:Ms Nt) (k a n:Nat) (w:World),a+n≤size→1≤n→n / 4 ^ lvl n=1→CS W0 w O A OP cb nb db pm nm C d room pr m ((yi size (f+1) a n).length+k) →
   Calls Tryz.prog 140 #[zt cb,.int .i64 size,spV a n] w fun r w' =>
    zf (fun b=>O b∨A b) qT w w'∧CS W0 w' O (Ext A w w') OP cb nb db pm nm C d room pr (xf (zq d.fs) pr size (f+1) m a n).2 k∧zw5 at_ w' (xf (zq d.fs) pr size (f+1) m a n).1 r:=by
  intro f A m k a n w hl h1 he h
  rw [yi,if_pos he,List.length_singleton,Nat.add_comm] at h
  exact z0d W0 at_ O A OP cb nb db pm nm C d room pr m k size a n f hsz hl h1 he w hE hS hTb h
 intro f
 induction f with
 | zero =>
  intro A m k a n w hl h1 h2 h
  obtain rfl:n=1:=by omega
  exact base 0 A m k a 1 w hl (by omega) (by decide) h
 | succ f ih =>
  intro A m k a n w hl h1 h2 h
  by_cases he:n / 4 ^ lvl n=1
  ·exact base (f+1) A m k a n w hl h1 he h
  ·have hn2:2≤n:=by
    rcases Nat.lt_or_ge n 2 with h | h
    ·exact absurd (by obtain rfl:n=1:=by omega
                      decide) he
    ·exact h
   exact z0c W0 at_ O OP cb nb db pm nm C d room pr size f hsz hTb ih A m k a n w hl hn2 h2 he h
end
end Go.Proofs.YtinhekmmdlhfkaaGreatDoor
