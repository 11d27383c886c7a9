import Derived.Test.YtinhekmmdlhfkaaGreatDoorG27
import Derived.Test.YtinhekmmdlhfkaaGreatDoorG28
namespace Go.Proofs.YtinhekmmdlhfkaaGreatDoor
section
open Go.RowKit
set_option maxRecDepth 100000
def OwnHs (B:Nat)(w:World)(x:Value)(ps:List (List UInt8)):Prop:=w.ownsRow B 91 8 x ps.length (flat ps)
theorem flat_snoc (ps:List (List UInt8))(p:List UInt8):flat (ps++[p])=flat ps++(hv p).toList:=by simp [flat]
theorem spv_at (ss:List (Nat×Nat))(i:Nat)(h:i < ss.length):(spv ss)[i*2]?=some (.int .i64 (ss[i].1:Int))∧(spv ss)[i*2+1]?=some (.int .i64 (ss[i].2:Int)):=by
 induction ss generalizing i with
 | nil=>simp at h
 | cons s ss ih =>
  cases i with
  | zero=>simp [spv]
  | succ i =>
   have:=ih i (by simpa using h)
   have e:spv (s::ss)= .int .i64 (s.1:Int):: .int .i64 (s.2:Int)::spv ss:=by simp [spv]
   rw [e,show(i+1)*2=i*2+1+1 by omega]
   simpa using this
theorem spv_len (ss:List (Nat×Nat)):(spv ss).length=ss.length*2:=by
 induction ss with
 | nil=>rfl
 | cons s ss ih =>
  have e:spv (s::ss)= .int .i64 (s.1:Int):: .int .i64 (s.2:Int)::spv ss:=by simp [spv]
  rw [e];simp [ih];omega
def Sps (w:World)(v:Value)(ss:List (Nat×Nat)):Prop :=
 ∃ a cap,v= .slice a ss.length cap∧ss.length≤cap∧(ss=[]∨∃ b,a=some ⟨b,0,none⟩∧∀ i (h:i < ss.length),w.cell? ⟨b,i*2,none⟩=some (.int .i64 (ss[i].1:Int))∧w.cell? ⟨b,i*2+1,none⟩=some (.int .i64 (ss[i].2:Int)))
theorem sps_of_own {B:Nat}{w:World}{x:Value}{ss:List (Nat×Nat)}(h:OwnSp B w x ss):Sps w x ss:=by
 obtain⟨h0,h | ⟨g,cap,cur,rfl,hB,hg,hc,hm,hz,ht⟩⟩:=h
 ·obtain⟨rfl,h1⟩:=h
  have:ss=[]:=by
   cases ss with
   | nil=>rfl
   | cons s ss=>simp at h1
  subst this
  exact⟨none,0,rfl,Nat.le_refl _,.inl rfl⟩
 ·refine⟨_,cap,rfl,by omega,?_⟩
  cases hs:ss with
  | nil=>exact .inl rfl
  | cons s r =>
   rw [← hs]
   refine .inr ⟨g,rfl,fun i hi=>?_⟩
   obtain⟨e1,e2⟩:=spv_at ss i hi
   have hl:=spv_len ss
   have key:∀ j,j < ss.length*2→w.cell? ⟨g,j,none⟩=(spv ss)[j]?:=by
    intro j hj
    rw [cell_of_row _ _ _ _ _ _ hg,← ht]
    simp [hj]
   rw [key _ (by omega),key _ (by omega)]
   exact⟨e1,e2⟩
end
section
set_option maxHeartbeats 2000000
open Go.RowKit
set_option maxRecDepth 100000
attribute [local go_sem ↓] loadM_fold storeM_fold loadP_fold storeP_fold buildP_fold buildF_fold loadH_fold storeH_fold
def RootsR (at_:Nat→Addr)(B:Nat)(w':World)(o:Sum (List UInt8) (List (List UInt8)))(r:Ending):Prop :=
 (∃ xs x,o= .inr xs∧OwnHs B w' x xs∧(∀ p∈xs,p.length=8)∧r= .returned (.tuple #[x,.nilIface])) ∨
 (∃ p g,o= .inl p∧w'.heap[g]?=some (.cells #[txv p,errS at_ 5] 115 (0,0))∧r= .returned (.tuple #[.slice none 0 0,pathE g]))
def AInc (A A':Nat→Prop)(w w':World):Prop:=(∀ b,A b→A' b)∧∀ b,A' b→A b∨(w.heap.size≤b∧b < w'.heap.size)
theorem CS.asideN {W0 w w':World}{O A OP:Nat→Prop}{cb nb db pm nm:Nat}{C:Array Value}{d:Dk}{room:Int}{pr:Mm}{m:Ms Nt}{k:Nat}{N:Nat→Prop}{T:List Nat}(h:CS W0 w O A OP cb nb db pm nm C d room pr m k)(ht:Turn N T w w')(hx:∀ b,N b→W0.heap.size≤b∧¬ O b∧¬ A b∧¬ OP b)
  (hT:∀ t∈[41,63,85,65,3,TCli,5,TFile],t∉T):CS W0 w' O A OP cb nb db pm nm C d room pr m k :=
 ⟨h.base.trans (ht.below (fun b hb=>(hx b hb).1) h.base.size),h.own,h.apart,fun b hb=>Nat.lt_of_lt_of_le (h.lt b hb) ht.size,h.disk.stay ht (hT _ (by simp)) (hT _ (by simp)),h.net.turn ht (hT _ (by simp)) (hT _ (by simp)) (hT _ (by simp)),h.st,h.few,ht.keep h.cli (hT _ (by simp)),h.cells,h.prv.stay ht (fun b hb e=>(hx b e).2.2.2 hb) (hT _ (by simp)) (fun _ h=>h),h.away,h.nee.stay ht (fun b hb e=>(hx b e).2.2.1 hb) (hT _ (by simp)) (hT _ (by simp)) (fun _ h=>h),h.short⟩
theorem CS.all {W0 w w':World}{O A A' OP:Nat→Prop}{cb nb db pm nm:Nat}{C:Array Value}{d:Dk}{room:Int}{pr:Mm}{m m':Ms Nt}{k k0:Nat}(h0:CS W0 w O A OP cb nb db pm nm C d room pr m k0)(h:CS W0 w' O A' OP cb nb db pm nm C d room pr m' k)(hA:AInc A A' w w'):CS W0 w' O (Ext A w w') OP cb nb db pm nm C d room pr m' k:=by
 refine h.mono (fun b hb=>hA.2 b hb) (fun b hb=>?_)
 have:=h0.base.size
 rcases hb with hb | hb
 ·exact .inl (hA.1 b hb)
 ·refine .inr ⟨by omega,hb.2,fun hO=>?_,fun hO=>?_⟩
  ·have:=h0.lt b (.inl hO);omega
  ·have:=h0.lt b (.inr (.inr hO));omega
def rootsThen {σ:Type}(xs:List (List UInt8)):Sum (List UInt8) (List (List UInt8))×Ms σ→Sum (List UInt8) (List (List UInt8))×Ms σ
 | (.inl e,m)=>(.inl e,m)
 | (.inr ys,m)=>(.inr (xs++ys),m)
theorem rootsThen_nil {σ:Type}(y:Sum (List UInt8) (List (List UInt8))×Ms σ):rootsThen [] y=y:=by
 obtain⟨o,m⟩:=y
 cases o<;>simp [rootsThen]
theorem rootsM_step {σ:Type}{fe:σ→List UInt8→(List UInt8×Bool)×σ}{pr:Mm}{size:Nat}{m m1:Ms σ}{s:Nat×Nat}{r:List (Nat×Nat)}{x:List UInt8}(xs:List (List UInt8))(h:rootM fe pr size 64 m s.1 s.2=(.inr x,m1)):rootsThen xs (rootsM fe pr size m (s::r))=rootsThen (xs++[x]) (rootsM fe pr size m1 r):=by
 rw [rootsM,h]
 simp only
 cases rootsM fe pr size m1 r with
 | mk o m2=>cases o<;>simp [rootsThen]
theorem rootsM_stop {σ:Type}{fe:σ→List UInt8→(List UInt8×Bool)×σ}{pr:Mm}{size:Nat}{m m1:Ms σ}{s:Nat×Nat}{r:List (Nat×Nat)}{e:List UInt8}(xs:List (List UInt8))(h:rootM fe pr size 64 m s.1 s.2=(.inl e,m1)):rootsThen xs (rootsM fe pr size m (s::r))=(.inl e,m1):=by
 rw [rootsM,h]
 rfl
theorem own_lt2 {w:World}{B:Nat}{e:TypeId}{s:Nat}{v:Value}{n:Nat}{xs:List Value}(h:w.ownsRow B e s v n xs)(g:Nat)(hg:v.ownBlock=some g):g < w.heap.size:=by
 rcases h.2 with ⟨rfl,_⟩ | ⟨g',cap,cur,rfl,hB,hh,_⟩
 ·simp [Value.ownBlock] at hg
 ·simp only [Value.ownBlock,Option.some.injEq] at hg
  subst hg
  exact heap_some_lt hh
abbrev rPl (size:Nat)(ss:List (Nat×Nat)):Nat:=(ss.flatMap fun s=>rootPl size 64 s.1 s.2).length
theorem roots_any (W0:World)(at_:Nat→Addr)(O A OP:Nat→Prop)(cb nb db pm nm:Nat)(C:Array Value)(d:Dk)(room:Int)(pr:Mm)(m:Ms Nt)(k size:Nat)(hsz:size < 9223372036854775808)(hE:Env W0)(hS:Sents W0 at_)(hTb:Tabs W0)(v:Value)(ss:List (Nat×Nat))(B:Nat)(w:World)(hv':OwnSp B w v ss)(hss:ss.length≤1000)(hin:∀ s∈ss,s.1+s.2≤size∧1≤s.2)
  (h:CS W0 w O A OP cb nb db pm nm C d room pr m (rPl size ss+k)) :
  Calls Tryz.prog 97 #[ptrV cb,.int .i64 size,v] w fun r w' =>
   Turn (fun b=>O b∨A b) qT w w'∧CS W0 w' O (Ext A w w') OP cb nb db pm nm C d room pr (rootsM (netF d.fs) pr size m ss).2 k∧RootsR at_ w.heap.size w' (rootsM (netF d.fs) pr size m ss).1 r:=by
 obtain⟨t,hi,hi'⟩:=Option.map_eq_some_iff.1 infoHash
 obtain⟨hz0,hz1,hz2⟩:t.zero=some (.agg (hv zero8))∧t.size=8∧t.bytes=8:=by simpa using hi'
 clear hi'
 have HI:=hide hi
 have HZ:=hide (And.intro hz0 (And.intro hz1 hz2))
 clear hi hz0 hz1 hz2
 have HIN:=hide hin
 have HV:=hide hv'
 have HH:=hide h
 have HROOT:=hide (root_cli W0 at_ O OP cb nb db pm nm C d room pr size hsz hE hS hTb 63)
 obtain⟨sa,scap,rfl,hsc,hsr⟩:=sps_of_own hv'
 clear hin h hE hS hTb hsr hv'
 unfold ptrV
 go_enter Tryz.func97,Tryz.ntmps97
 go_wp2_with fail
 go_loopw [8,15] (fun r i wr=>∃(q:Nat) (A':Nat→Prop) (m':Ms Nt) (xs:List (List UInt8)),q≤ss.length∧i= .int .i64 q∧(∃ ra rc,r= .slice ra q rc)∧Turn (fun b=>O b∨A b) qT w wr∧AInc A A' w wr∧CS W0 wr O A' OP cb nb db pm nm C d room pr m' (rPl size (ss.drop q)+k)∧OwnHs w.heap.size wr r xs∧(∀ g,r.ownBlock=some g→¬ A' g)∧xs.length=q∧(∀ p∈xs,p.length=8)∧rootsM (netF d.fs) pr size m ss=rootsThen xs (rootsM (netF d.fs) pr size m' (ss.drop q))) (fun _ i _=>ss.length - (intOf i).toNat)
 case atStart =>
  refine⟨0,A,m,[],Nat.zero_le _,rfl,⟨_,_,rfl⟩,Turn.refl _ _ _,⟨fun _ h=>h,fun _ h=> .inl h⟩,HH.out,⟨rfl,.inl ⟨rfl,rfl⟩⟩,by simp [Value.ownBlock],rfl,by simp,?_⟩
  rw [rootsThen_nil]
  rfl
 case round =>
  obtain⟨q,A',m',xs,hq,rfl,⟨ra,rc,rfl⟩,ht,hA,hcs,ho,hno,hxl,hx8,hM⟩:=hrel
  have HT:=hide ht
  have HA:=hide hA
  have HCS:=hide hcs
  have HO:=hide ho
  have HNO:=hide hno
  have HXL:=hide hxl
  have HX8:=hide hx8
  have HM:=hide hM
  by_cases hlt:q < ss.length
  ·have hse:∃ sb,sa=some ⟨sb,0,none⟩∧wr.cell? ⟨sb,q*2,none⟩=some (.int .i64 (ss[q].1:Int))∧wr.cell? ⟨sb,q*2+1,none⟩=some (.int .i64 (ss[q].2:Int)):=by
    have hv2:OwnSp B wr (.slice sa ss.length scap) ss:=ownsRow_turn HV.out ht (by decide)
    obtain⟨a',c',e',-,h'⟩:=sps_of_own hv2
    simp only [Value.slice.injEq] at e'
    obtain⟨rfl,-,rfl⟩:=e'
    rcases h' with h' | ⟨sb,rfl,hc⟩
    ·simp [h'] at hlt
    ·exact⟨sb,rfl,(hc q hlt).1,(hc q hlt).2⟩
   obtain⟨sb,rfl,s0,s1⟩:=hse
   obtain⟨i1,i2⟩:=HIN.out ss[q] (List.getElem_mem hlt)
   have hdr:ss.drop q=ss[q]::ss.drop (q+1):=List.drop_eq_getElem_cons hlt
   have hrp:rPl size (ss.drop q)+k=(rootPl size 64 ss[q].1 ss[q].2).length+(rPl size (ss.drop (q+1))+k):=by
    unfold rPl
    rw [hdr,List.flatMap_cons,List.length_append,Nat.add_assoc]
   have HCS0:Hid (CS W0 wr O A' OP cb nb db pm nm C d room pr m' ((rootPl size 64 ss[q].1 ss[q].2).length+(rPl size (ss.drop (q+1))+k))):=by
    have:=HCS.out
    rw [hrp] at this
    exact this
   have HST1:Hid (∀ x m1,rootM (netF d.fs) pr size 64 m' ss[q].1 ss[q].2=(.inr x,m1)→rootsM (netF d.fs) pr size m ss=rootsThen (xs++[x]) (rootsM (netF d.fs) pr size m1 (ss.drop (q+1)))):=fun x m1 e=>by
    rw [HM.out,hdr]
    exact rootsM_step xs e
   have HST2:Hid (∀ e m1,rootM (netF d.fs) pr size 64 m' ss[q].1 ss[q].2=(.inl e,m1)→rootsM (netF d.fs) pr size m ss=(.inl e,m1)):=fun p m1 e=>by
    rw [HM.out,hdr]
    exact rootsM_stop xs e
   have HRT:=hide (fun w0 (hcs0:CS W0 w0 O A' OP cb nb db pm nm C d room pr m' ((rootPl size 64 ss[q].1 ss[q].2).length+(rPl size (ss.drop (q+1))+k)))=>HROOT.out A' m' (rPl size (ss.drop (q+1))+k) ss[q].1 ss[q].2 w0 i1 i2 (by omega) hcs0)
   clear ho ht hA hcs hno hxl hx8 hM hdr hrp i1 i2
   generalize ss[q].1=fa at *
   generalize ss[q].2=fn at *
   generalize hkr:rPl size (ss.drop (q+1))+k=kr at *
   have HKR:=hide hkr
   clear hkr
   generalize (rootPl size 64 fa fn).length=kl at *
   have c6:(0:Int)≤(q:Int):=by omega
   have c7:(q:Int) < (ss.length:Int):=by omega
   go_wp2_with fail
   have HB1:Hid (Below wr.heap.size wr (wr.alloc (.cells #[.int .i64 (fa:Int),.int .i64 (fn:Int)] 208))):=below_alloc wr _
   generalize wr.alloc (.cells #[.int .i64 (fa:Int),.int .i64 (fn:Int)] 208)=W1 at *
   have HRT2:=hide (HRT.out W1 (HCS0.out.below HB1.out))
   unfold spV ptrV at HRT2
   refine HRT2.out.mono ?_
   rintro r w5 ⟨ht5,hcs5,hr5⟩
   have HT5:=hide ht5
   have HCS5:=hide hcs5
   have HO5:Hid (OwnHs w.heap.size w5 (.slice ra q rc) xs):=ownsRow_turn (ownsRow_below HO.out HB1.out) ht5 (by decide)
   have HTW:Hid (Turn (fun b=>O b∨A b) qT w w5):=(HT.out.then_below HB1.out).trans (ht5.mono (fun b hb=>by
    rcases hb with hb | hb
    ·exact .inl (.inl hb)
    ·rcases HA.out.2 b hb with hb | hb
     ·exact .inl (.inr hb)
     ·exact .inr ⟨hb.1,Nat.lt_of_lt_of_le hb.2 HB1.out.size⟩) (fun _ h=>h))
   have HA5:Hid (AInc A (Ext A' W1 w5) w w5):=⟨fun b hb=> .inl (HA.out.1 b hb),fun b hb=>by
    have g1:=HB1.out.size
    have g2:=ht5.size
    have g3:=HT.out.size
    rcases hb with hb | hb
    ·rcases HA.out.2 b hb with hb | hb
     ·exact .inl hb
     ·exact .inr ⟨hb.1,by omega⟩
    ·exact .inr ⟨by omega,hb.2⟩⟩
   have HNO5:Hid (∀ g,(Value.slice ra q rc).ownBlock=some g→¬ Ext A' W1 w5 g):=fun g hg hb=>by
    rcases hb with hb | hb
    ·exact HNO.out g hg hb
    ·have h1:=own_lt2 HO.out g hg
     have h2:=HB1.out.size
     omega
   clear ht5 hcs5 HRT HRT2 s0 s1 HCS0 HCS HROOT
   generalize rootM (netF d.fs) pr size 64 m' fa fn=MR at *
   obtain⟨o1,m1⟩:=MR
   simp only at *
   have HG:Hid (∀ y:List UInt8,y.length=8→(storeH (.pointer (some ⟨w5.heap.size,0,none⟩)) (.agg (hv y))).run Tryz.prog (w5.alloc (.cells no8A 91))= .ok () ((w5.alloc (.cells no8A 91)).setCells w5.heap.size 0 (y.map bv))∧((w5.alloc (.cells no8A 91)).setCells w5.heap.size 0 (y.map bv)).heap[w5.heap.size]?=some (.cells (hv y) 91 (0,0))∧Below w5.heap.size w5 ((w5.alloc (.cells no8A 91)).setCells w5.heap.size 0 (y.map bv))):=by
    intro y hy
    have hf4:(w5.alloc (.cells no8A 91)).heap[w5.heap.size]?=some (.cells (none8.map bv).toArray 91 (0,0)):=heap_alloc_last _ _
    have hf5:=row_whole hf4 (ds:=y.map bv) (by simp [hy,none8])
    exact⟨storeH_of (by have:=row_there hf4;simpa [none8] using this) hy,hf5,below_setCells (below_alloc _ _) (Nat.le_refl _) _ _⟩
   rcases hr5 with ⟨x,rfl,hx8,rfl⟩ | ⟨p,g,rfl,hgb,rfl⟩
   ·obtain⟨hst,hf6,hb6⟩:=HG.out x hx8
    have hld:=loadH_of (range_row (cs:=x.map bv) hf6) hx8
    obtain⟨x0,x1,x2,x3,x4,x5,x6,x7,hx⟩:=agg8 x hx8
    rw [hx] at hld
    have HX:=hide hx
    have HB6:=hide hb6
    have HXX:=hide hx8
    clear hf6 hb6 HG hx8 hx
    have HO6:Hid (∀ o,((((w5.alloc (.cells no8A 91)).setCells w5.heap.size 0 (x.map bv)).alloc o).ownsRow w.heap.size 91 8 (.slice ra q rc) q (flat xs))):=fun o=>by
     have:=ownsRow_below HO5.out (HB6.out.alloc HB6.out.size o)
     unfold OwnHs at this
     rw [HXL.out] at this
     exact this
    have HZ6:Hid (w.heap.size≤((w5.alloc (.cells no8A 91)).setCells w5.heap.size 0 (x.map bv)).heap.size):=Nat.le_trans HTW.out.size HB6.out.size
    go_wp2_with (at_builtin;refine wpList_append_lies _ rfl _ _ _ rfl w.heap.size 91 t (.agg (hv zero8)) 8 8 Tryz.underlying86 HI.out HZ.out.1 HZ.out.2.1 HZ.out.2.2 rfl (by omega) (.slice ra q rc) q (flat xs) rfl (HO6.out _) ⟨((w5.alloc (.cells no8A 91)).setCells w5.heap.size 0 (x.map bv)).heap.size,0,none⟩ 1 1 [.int .u8 x0,.int .u8 x1,.int .u8 x2,.int .u8 x3,.int .u8 x4,.int .u8 x5,.int .u8 x6,.int .u8 x7] rfl rfl (World.news_of_block (heap_alloc_last _ _)) (by simp [Value.oneCell']) (by omega) (by unfold maxLen;omega) (by omega) (by have:=HZ6.out;simp;omega) (((w5.alloc (.cells no8A 91)).setCells w5.heap.size 0 (x.map bv)).heap.size+1) (by simp) ?_;intro g cap' w8 hown hgrow hat hltg;have HOW:=hide hown;have HGR:=hide hgrow;have HAT:=hide hat;clear hown hgrow hat hltg)
    have hV7:Below w5.heap.size w5 (((w5.alloc (.cells no8A 91)).setCells w5.heap.size 0 (x.map bv)).alloc (.cells #[.int .u8 x0,.int .u8 x1,.int .u8 x2,.int .u8 x3,.int .u8 x4,.int .u8 x5,.int .u8 x6,.int .u8 x7] 91)):=HB6.out.alloc HB6.out.size _
    have hO7:=HO6.out (.cells #[.int .u8 x0,.int .u8 x1,.int .u8 x2,.int .u8 x3,.int .u8 x4,.int .u8 x5,.int .u8 x6,.int .u8 x7] 91)
    have hZ7:w5.heap.size+1≤((w5.alloc (.cells no8A 91)).setCells w5.heap.size 0 (x.map bv)).heap.size+1:=by have:=HB6.out.size;omega
    go_roundw
    case rel =>
     have hgr:=HGR.out
     have hat:=HAT.out
     generalize hV:((w5.alloc (.cells no8A 91)).setCells w5.heap.size 0 (x.map bv)).alloc (.cells #[.int .u8 x0,.int .u8 x1,.int .u8 x2,.int .u8 x3,.int .u8 x4,.int .u8 x5,.int .u8 x6,.int .u8 x7] 91)=V7 at *
     have hb0:=own_base HO.out
     have hbB:=HH.out.base.size
     have hTN:Turn (fun b=>(Value.slice ra q rc).ownBlock=some b) [91] V7 w8:=(Turn.refl (fun b=>(Value.slice ra q rc).ownBlock=some b) [91] V7).grown hO7 hgr (fun g hg=> .inl hg) (by simp)
     have hcs8:=(HCS5.out.below hV7).asideN hTN (fun b hb=>⟨Nat.le_trans hbB (hb0 b hb),fun hO=>by
       have:=HH.out.lt b (.inl hO);have:=hb0 b hb;omega,HNO5.out b hb,fun hO=>by
       have:=HH.out.lt b (.inr (.inr hO));have:=hb0 b hb;omega⟩) (by decide)
     have hT8:Turn (fun b=>O b∨A b) qT w w8:=by
      have h7:=HTW.out.then_below hV7
      refine⟨hgr.os.trans h7.os,hgr.tape.trans h7.tape,hgr.output.trans h7.output,Nat.le_trans h7.size hgr.size,fun j hj=>?_⟩
      rw [hgr.block j (Nat.lt_of_lt_of_le hj h7.size) (fun e=>by have:=hb0 j e.symm;omega)]
      exact h7.block j hj
     refine⟨q+1,Ext A' W1 w5,m1,xs++[x],by omega,by go_num,⟨_,_,rfl⟩,hT8,⟨HA5.out.1,fun b hb=>(HA5.out.2 b hb).imp id (fun h=>⟨h.1,Nat.lt_of_lt_of_le h.2 (Nat.le_trans hV7.size hgr.size)⟩)⟩,by rw [HKR.out];exact hcs8,?_,?_,by simp [HXL.out],?_,HST1.out x m1 rfl⟩
     ·unfold OwnHs
      rw [flat_snoc,HX.out,List.length_append,List.length_singleton,HXL.out]
      exact HOW.out
     ·intro g' hg'
      simp only [Value.ownBlock,Option.some.injEq] at hg'
      subst hg'
      rcases hat with h1 | h1
      ·exact HNO5.out _ h1
      ·rintro(hb | hb)
       ·have:=HCS5.out.lt _ (.inr (.inl (.inl hb)))
        omega
       ·omega
     ·intro p hp
      rcases List.mem_append.1 hp with hp | hp
      ·exact HX8.out p hp
      ·rw [List.mem_singleton.1 hp];exact HXX.out
    case measure=>simp [intOf];omega
   ·obtain⟨hst,hf6,hb6⟩:=HG.out none8 rfl
    have HB6:=hide hb6
    have HGB:Hid (((w5.alloc (.cells no8A 91)).setCells w5.heap.size 0 (none8.map bv)).heap[g]?=some (.cells #[txv p,errS at_ 5] 115 (0,0))):=(hb6.block _ (heap_some_lt hgb)).trans hgb
    clear hf6 hb6 HG hgb
    unfold pathE
    go_wp2_with fail
    go_ret2
    rw [HST2.out _ _ rfl]
    exact⟨HTW.out.then_below HB6.out,HH.out.all ((HCS5.out.below HB6.out).less (by have:=HKR.out;omega)) ⟨HA5.out.1,fun b hb=>(HA5.out.2 b hb).imp id (fun h=>⟨h.1,Nat.lt_of_lt_of_le h.2 HB6.out.size⟩)⟩,.inr ⟨p,g,rfl,HGB.out,rfl⟩⟩
  ·obtain rfl:q=ss.length:=by omega
   have hd:ss.drop ss.length=[]:=List.drop_length
   rw [hd] at hM hcs
   go_wp2_with fail
   go_ret2
   have hM2:rootsM (netF d.fs) pr size m ss=(.inr xs,m'):=by
    rw [hM,rootsM]
    simp [rootsThen]
   rw [hM2]
   refine⟨HT.out,HH.out.all ((hcs.less (by simp))) HA.out,.inl ⟨xs,_,rfl,HO.out,HX8.out,rfl⟩⟩
end
end Go.Proofs.YtinhekmmdlhfkaaGreatDoor
