import Derived.Test.YtinhekmmdlhfkaaGreatDoorG28
import Derived.Test.YtinhekmmdlhfkaaGreatDoorG29
namespace Go.Proofs.YtinhekmmdlhfkaaGreatDoor
section
open Go.RowKit
set_option maxRecDepth 100000
def zbh (B:Nat)(w:World)(x:Value)(ps:List (List UInt8)):Prop:=w.ownsRow B 91 8 x ps.length (zk8 ps)
theorem zy3 (ps:List (List UInt8))(p:List UInt8):zk8 (ps++[p])=zk8 ps++(hv p).toList:=by simp [zk8]
theorem z8l (ss:List (Nat×Nat))(i:Nat)(h:i < ss.length):(spv ss)[i*2]?=some (.int .i64 (ss[i].1:Int))∧(spv ss)[i*2+1]?=some (.int .i64 (ss[i].2:Int)):=by
 induction ss generalizing i with
 | nil=>simp at h
 | cons s ss ih =>
  cases i with
  | zero=>simp [spv]
  | succ i =>
   have:=ih i (by simpa using h)
   have e:spv (s::ss)= .int .i64 (s.1:Int):: .int .i64 (s.2:Int)::spv ss:=by simp [spv]
   rw [e,show(i+1)*2=i*2+1+1 by omega]
   simpa using this
theorem z6r (ss:List (Nat×Nat)):(spv ss).length=ss.length*2:=by
 induction ss with
 | nil=>rfl
 | cons s ss ih =>
  have e:spv (s::ss)= .int .i64 (s.1:Int):: .int .i64 (s.2:Int)::spv ss:=by simp [spv]
  rw [e];simp [ih];omega
def Sps (w:World)(v:Value)(ss:List (Nat×Nat)):Prop :=
 ∃ a cap,v= .slice a ss.length cap∧ss.length≤cap∧(ss=[]∨∃ b,a=some ⟨b,0,none⟩∧∀ i (h:i < ss.length),w.cell? ⟨b,i*2,none⟩=some (.int .i64 (ss[i].1:Int))∧w.cell? ⟨b,i*2+1,none⟩=some (.int .i64 (ss[i].2:Int)))
theorem zni {B:Nat}{w:World}{x:Value}{ss:List (Nat×Nat)}(h:zas B w x ss):Sps w x ss:=by
 obtain⟨h0,h | ⟨g,cap,cur,rfl,hB,hg,hc,hm,hz,ht⟩⟩:=h
 ·obtain⟨rfl,h1⟩:=h
  have:ss=[]:=by
   cases ss with
   | nil=>rfl
   | cons s ss=>simp at h1
  subst this
  exact⟨none,0,rfl,Nat.le_refl _,.inl rfl⟩
 ·refine⟨_,cap,rfl,by omega,?_⟩
  cases hs:ss with
  | nil=>exact .inl rfl
  | cons s r =>
   rw [← hs]
   refine .inr ⟨g,rfl,fun i hi=>?_⟩
   obtain⟨e1,e2⟩:=z8l ss i hi
   have hl:=z6r ss
   have key:∀ j,j < ss.length*2→w.cell? ⟨g,j,none⟩=(spv ss)[j]?:=by
    intro j hj
    rw [cell_of_row _ _ _ _ _ _ hg,← ht]
    simp [hj]
   rw [key _ (by omega),key _ (by omega)]
   exact⟨e1,e2⟩
theorem Sps.below {w w':World}{v:Value}{ss:List (Nat×Nat)}(h:Sps w v ss)(hb:Below w.heap.size w w'):Sps w' v ss:=by
 obtain⟨a,cap,rfl,hcap,h⟩:=h
 refine⟨a,cap,rfl,hcap,?_⟩
 rcases h with h | ⟨b,rfl,hc⟩
 ·exact .inl h
 ·refine .inr ⟨b,rfl,fun i hi=>?_⟩
  obtain⟨h1,h2⟩:=hc i hi
  exact⟨by rw [hb.cell (p:=⟨b,i*2,none⟩) (zj (p:=⟨b,i*2,none⟩) h1)];exact h1,by rw [hb.cell (p:=⟨b,i*2+1,none⟩) (zj (p:=⟨b,i*2+1,none⟩) h2)];exact h2⟩
theorem Bss.run {w:World}{b off n cap:Nat}{es:List (List UInt8)}(h:Bss w (.slice (some ⟨b,off,none⟩) n cap) es)(a k:Nat)(hk:a+k≤es.length):Bss w (.slice (some ⟨b,off+a,none⟩) k (cap - a)) (run es (a,k)):=by
 have h1:=h.drop a (by omega)
 have:=h1.take k (by simp;omega)
 exact this
end
section
set_option maxHeartbeats 2000000
open Go.RowKit
set_option maxRecDepth 100000
attribute [local go_sem ↓] yq yk yt yp yn yo yu yl
def zve (at_:Nat→Addr)(B:Nat)(w':World)(o:Sum (List UInt8) (List (List UInt8)))(r:Ending):Prop :=
 (∃ xs x,o= .inr xs∧zbh B w' x xs∧(∀ p∈xs,p.length=8)∧r= .returned (.tuple #[x,.nilIface])) ∨
 (∃ p g,o= .inl p∧w'.heap[g]?=some (.cells #[txv p,jo at_ 5] 115 (0,0))∧r= .returned (.tuple #[.slice none 0 0,xm g]))
def vf (A A':Nat→Prop)(w w':World):Prop:=(∀ b,A b→A' b)∧∀ b,A' b→A b∨(w.heap.size≤b∧b < w'.heap.size)
theorem CS.asideN {W0 w w':World}{O A OP:Nat→Prop}{cb nb db pm nm:Nat}{C:Array Value}{d:Dk}{room:Int}{pr:Mm}{m:Ms Nt}{k:Nat}{N:Nat→Prop}{T:List Nat}(h:CS W0 w O A OP cb nb db pm nm C d room pr m k)(ht:zf N T w w')(hx:∀ b,N b→W0.heap.size≤b∧¬ O b∧¬ A b∧¬ OP b)
  (hT:∀ t∈[41,63,85,65,3,qw,5,zr],t∉T):CS W0 w' O A OP cb nb db pm nm C d room pr m k :=
 ⟨h.base.trans (ht.below (fun b hb=>(hx b hb).1) h.base.size),h.own,h.apart,fun b hb=>Nat.lt_of_lt_of_le (h.lt b hb) ht.size,h.disk.stay ht (hT _ (by simp)) (hT _ (by simp)),h.net.turn ht (hT _ (by simp)) (hT _ (by simp)) (hT _ (by simp)),h.st,h.few,ht.keep h.cli (hT _ (by simp)),h.cells,h.prv.stay ht (fun b hb e=>(hx b e).2.2.2 hb) (hT _ (by simp)) (fun _ h=>h),h.away,h.nee.stay ht (fun b hb e=>(hx b e).2.2.1 hb) (hT _ (by simp)) (hT _ (by simp)) (fun _ h=>h),h.short⟩
theorem CS.all {W0 w w':World}{O A A' OP:Nat→Prop}{cb nb db pm nm:Nat}{C:Array Value}{d:Dk}{room:Int}{pr:Mm}{m m':Ms Nt}{k k0:Nat}(h0:CS W0 w O A OP cb nb db pm nm C d room pr m k0)(h:CS W0 w' O A' OP cb nb db pm nm C d room pr m' k)(hA:vf A A' w w'):CS W0 w' O (Ext A w w') OP cb nb db pm nm C d room pr m' k:=by
 refine h.mono (fun b hb=>hA.2 b hb) (fun b hb=>?_)
 have:=h0.base.size
 rcases hb with hb | hb
 ·exact .inl (hA.1 b hb)
 ·refine .inr ⟨by omega,hb.2,fun hO=>?_,fun hO=>?_⟩
  ·have:=h0.lt b (.inl hO);omega
  ·have:=h0.lt b (.inr (.inr hO));omega
def zbb {σ:Type}(xs:List (List UInt8)):Sum (List UInt8) (List (List UInt8))×Ms σ→Sum (List UInt8) (List (List UInt8))×Ms σ
 | (.inl e,m)=>(.inl e,m)
 | (.inr ys,m)=>(.inr (xs++ys),m)
theorem zny {σ:Type}(y:Sum (List UInt8) (List (List UInt8))×Ms σ):zbb [] y=y:=by
 obtain⟨o,m⟩:=y
 cases o<;>simp [zbb]
theorem zsj {σ:Type}{fe:σ→List UInt8→(List UInt8×Bool)×σ}{pr:Mm}{size:Nat}{m m1:Ms σ}{s:Nat×Nat}{r:List (Nat×Nat)}{x:List UInt8}(xs:List (List UInt8))(h:xf fe pr size 64 m s.1 s.2=(.inr x,m1)):zbb xs (yh fe pr size m (s::r))=zbb (xs++[x]) (yh fe pr size m1 r):=by
 rw [yh,h]
 simp only
 cases yh fe pr size m1 r with
 | mk o m2=>cases o<;>simp [zbb]
theorem zq6 {σ:Type}{fe:σ→List UInt8→(List UInt8×Bool)×σ}{pr:Mm}{size:Nat}{m m1:Ms σ}{s:Nat×Nat}{r:List (Nat×Nat)}{e:List UInt8}(xs:List (List UInt8))(h:xf fe pr size 64 m s.1 s.2=(.inl e,m1)):zbb xs (yh fe pr size m (s::r))=(.inl e,m1):=by
 rw [yh,h]
 rfl
theorem z7d {w:World}{B:Nat}{e:TypeId}{s:Nat}{v:Value}{n:Nat}{xs:List Value}(h:w.ownsRow B e s v n xs)(g:Nat)(hg:v.ownBlock=some g):g < w.heap.size:=by
 rcases h.2 with ⟨rfl,_⟩ | ⟨g',cap,cur,rfl,hB,hh,_⟩
 ·simp [Value.ownBlock] at hg
 ·simp only [Value.ownBlock,Option.some.injEq] at hg
  subst hg
  exact zb hh
abbrev rPl (size:Nat)(ss:List (Nat×Nat)):Nat:=(ss.flatMap fun s=>yi size 64 s.1 s.2).length
theorem zpk (W0:World)(at_:Nat→Addr)(O A OP:Nat→Prop)(cb nb db pm nm:Nat)(C:Array Value)(d:Dk)(room:Int)(pr:Mm)(m:Ms Nt)(k size:Nat)(hsz:size < 9223372036854775808)(hE:Env W0)(hS:qm W0 at_)(hTb:zdn W0)(v:Value)(ss:List (Nat×Nat))(B:Nat)(w:World)(hv':zas B w v ss)(hss:ss.length≤1000)(hin:∀ s∈ss,s.1+s.2≤size∧1≤s.2)
  (h:CS W0 w O A OP cb nb db pm nm C d room pr m (rPl size ss+k)) :
  Calls Tryz.prog 97 #[zt cb,.int .i64 size,v] w fun r w' =>
   zf (fun b=>O b∨A b) qT w w'∧CS W0 w' O (Ext A w w') OP cb nb db pm nm C d room pr (yh (zq d.fs) pr size m ss).2 k∧zve at_ w.heap.size w' (yh (zq d.fs) pr size m ss).1 r:=by
 obtain⟨t,hi,hi'⟩:=Option.map_eq_some_iff.1 z48
 obtain⟨hz0,hz1,hz2⟩:t.zero=some (.agg (hv yf))∧t.size=8∧t.bytes=8:=by simpa using hi'
 clear hi'
 have HI:=za hi
 have HZ:=za (And.intro hz0 (And.intro hz1 hz2))
 clear hi hz0 hz1 hz2
 have HIN:=za hin
 have HV:=za hv'
 have HH:=za h
 have HROOT:=za (z15 W0 at_ O OP cb nb db pm nm C d room pr size hsz hE hS hTb 63)
 obtain⟨sa,scap,rfl,hsc,hsr⟩:=zni hv'
 clear hin h hE hS hTb hsr hv'
 unfold zt
 go_enter Tryz.func97,Tryz.ntmps97
 go_wp2_with fail
 go_loopw [8,15] (fun r i wr=>∃(q:Nat) (A':Nat→Prop) (m':Ms Nt) (xs:List (List UInt8)),q≤ss.length∧i= .int .i64 q∧(∃ ra rc,r= .slice ra q rc)∧zf (fun b=>O b∨A b) qT w wr∧vf A A' w wr∧CS W0 wr O A' OP cb nb db pm nm C d room pr m' (rPl size (ss.drop q)+k)∧zbh w.heap.size wr r xs∧(∀ g,r.ownBlock=some g→¬ A' g)∧xs.length=q∧(∀ p∈xs,p.length=8)∧yh (zq d.fs) pr size m ss=zbb xs (yh (zq d.fs) pr size m' (ss.drop q))) (fun _ i _=>ss.length - (intOf i).toNat)
 case atStart =>
  refine⟨0,A,m,[],Nat.zero_le _,rfl,⟨_,_,rfl⟩,zf.refl _ _ _,⟨fun _ h=>h,fun _ h=> .inl h⟩,HH.o,⟨rfl,.inl ⟨rfl,rfl⟩⟩,by simp [Value.ownBlock],rfl,by simp,?_⟩
  rw [zny]
  rfl
 case round =>
  obtain⟨q,A',m',xs,hq,rfl,⟨ra,rc,rfl⟩,ht,hA,hcs,ho,hno,hxl,hx8,hM⟩:=hrel
  have HT:=za ht
  have HA:=za hA
  have HCS:=za hcs
  have HO:=za ho
  have HNO:=za hno
  have HXL:=za hxl
  have HX8:=za hx8
  have HM:=za hM
  by_cases hlt:q < ss.length
  ·have hse:∃ sb,sa=some ⟨sb,0,none⟩∧wr.cell? ⟨sb,q*2,none⟩=some (.int .i64 (ss[q].1:Int))∧wr.cell? ⟨sb,q*2+1,none⟩=some (.int .i64 (ss[q].2:Int)):=by
    have hv2:zas B wr (.slice sa ss.length scap) ss:=zo HV.o ht (by decide)
    obtain⟨a',c',e',-,h'⟩:=zni hv2
    simp only [Value.slice.injEq] at e'
    obtain⟨rfl,-,rfl⟩:=e'
    rcases h' with h' | ⟨sb,rfl,hc⟩
    ·simp [h'] at hlt
    ·exact⟨sb,rfl,(hc q hlt).1,(hc q hlt).2⟩
   obtain⟨sb,rfl,s0,s1⟩:=hse
   obtain⟨i1,i2⟩:=HIN.o ss[q] (List.getElem_mem hlt)
   have hdr:ss.drop q=ss[q]::ss.drop (q+1):=List.drop_eq_getElem_cons hlt
   have hrp:rPl size (ss.drop q)+k=(yi size 64 ss[q].1 ss[q].2).length+(rPl size (ss.drop (q+1))+k):=by
    unfold rPl
    rw [hdr,List.flatMap_cons,List.length_append,Nat.add_assoc]
   have HCS0:Hid (CS W0 wr O A' OP cb nb db pm nm C d room pr m' ((yi size 64 ss[q].1 ss[q].2).length+(rPl size (ss.drop (q+1))+k))):=by
    have:=HCS.o
    rw [hrp] at this
    exact this
   have HST1:Hid (∀ x m1,xf (zq d.fs) pr size 64 m' ss[q].1 ss[q].2=(.inr x,m1)→yh (zq d.fs) pr size m ss=zbb (xs++[x]) (yh (zq d.fs) pr size m1 (ss.drop (q+1)))):=fun x m1 e=>by
    rw [HM.o,hdr]
    exact zsj xs e
   have HST2:Hid (∀ e m1,xf (zq d.fs) pr size 64 m' ss[q].1 ss[q].2=(.inl e,m1)→yh (zq d.fs) pr size m ss=(.inl e,m1)):=fun p m1 e=>by
    rw [HM.o,hdr]
    exact zq6 xs e
   have HRT:=za (fun w0 (hcs0:CS W0 w0 O A' OP cb nb db pm nm C d room pr m' ((yi size 64 ss[q].1 ss[q].2).length+(rPl size (ss.drop (q+1))+k)))=>HROOT.o A' m' (rPl size (ss.drop (q+1))+k) ss[q].1 ss[q].2 w0 i1 i2 (by omega) hcs0)
   clear ho ht hA hcs hno hxl hx8 hM hdr hrp i1 i2
   generalize ss[q].1=fa at *
   generalize ss[q].2=fn at *
   generalize hkr:rPl size (ss.drop (q+1))+k=kr at *
   have HKR:=za hkr
   clear hkr
   generalize (yi size 64 fa fn).length=kl at *
   have c6:(0:Int)≤(q:Int):=by omega
   have c7:(q:Int) < (ss.length:Int):=by omega
   go_wp2_with fail
   have HB1:Hid (Below wr.heap.size wr (wr.alloc (.cells #[.int .i64 (fa:Int),.int .i64 (fn:Int)] 208))):=ze wr _
   generalize wr.alloc (.cells #[.int .i64 (fa:Int),.int .i64 (fn:Int)] 208)=W1 at *
   have HRT2:=za (HRT.o W1 (HCS0.o.below HB1.o))
   unfold spV zt at HRT2
   refine HRT2.o.mono ?_
   rintro r w5 ⟨ht5,hcs5,hr5⟩
   have HT5:=za ht5
   have HCS5:=za hcs5
   have HO5:Hid (zbh w.heap.size w5 (.slice ra q rc) xs):=zo (yd HO.o HB1.o) ht5 (by decide)
   have HTW:Hid (zf (fun b=>O b∨A b) qT w w5):=(HT.o.then_below HB1.o).trans (ht5.mono (fun b hb=>by
    rcases hb with hb | hb
    ·exact .inl (.inl hb)
    ·rcases HA.o.2 b hb with hb | hb
     ·exact .inl (.inr hb)
     ·exact .inr ⟨hb.1,Nat.lt_of_lt_of_le hb.2 HB1.o.size⟩) (fun _ h=>h))
   have HA5:Hid (vf A (Ext A' W1 w5) w w5):=⟨fun b hb=> .inl (HA.o.1 b hb),fun b hb=>by
    have g1:=HB1.o.size
    have g2:=ht5.size
    have g3:=HT.o.size
    rcases hb with hb | hb
    ·rcases HA.o.2 b hb with hb | hb
     ·exact .inl hb
     ·exact .inr ⟨hb.1,by omega⟩
    ·exact .inr ⟨by omega,hb.2⟩⟩
   have HNO5:Hid (∀ g,(Value.slice ra q rc).ownBlock=some g→¬ Ext A' W1 w5 g):=fun g hg hb=>by
    rcases hb with hb | hb
    ·exact HNO.o g hg hb
    ·have h1:=z7d HO.o g hg
     have h2:=HB1.o.size
     omega
   clear ht5 hcs5 HRT HRT2 s0 s1 HCS0 HCS HROOT
   generalize xf (zq d.fs) pr size 64 m' fa fn=MR at *
   obtain⟨o1,m1⟩:=MR
   simp only at *
   have HG:Hid (∀ y:List UInt8,y.length=8→(zcx (.pointer (some ⟨w5.heap.size,0,none⟩)) (.agg (hv y))).run Tryz.prog (w5.alloc (.cells jg 91))= .ok () ((w5.alloc (.cells jg 91)).setCells w5.heap.size 0 (y.map bv))∧((w5.alloc (.cells jg 91)).setCells w5.heap.size 0 (y.map bv)).heap[w5.heap.size]?=some (.cells (hv y) 91 (0,0))∧Below w5.heap.size w5 ((w5.alloc (.cells jg 91)).setCells w5.heap.size 0 (y.map bv))):=by
    intro y hy
    have hf4:(w5.alloc (.cells jg 91)).heap[w5.heap.size]?=some (.cells (xd.map bv).toArray 91 (0,0)):=heap_alloc_last _ _
    have hf5:=qz hf4 (ds:=y.map bv) (by simp [hy,xd])
    exact⟨za9 (by have:=jb hf4;simpa [xd] using this) hy,hf5,zu (ze _ _) (Nat.le_refl _) _ _⟩
   rcases hr5 with ⟨x,rfl,hx8,rfl⟩ | ⟨p,g,rfl,hgb,rfl⟩
   ·obtain⟨hst,hf6,hb6⟩:=HG.o x hx8
    have hld:=qg (yv (cs:=x.map bv) hf6) hx8
    obtain⟨x0,x1,x2,x3,x4,x5,x6,x7,hx⟩:=zkb x hx8
    rw [hx] at hld
    have HX:=za hx
    have HB6:=za hb6
    have HXX:=za hx8
    clear hf6 hb6 HG hx8 hx
    have HO6:Hid (∀ o,((((w5.alloc (.cells jg 91)).setCells w5.heap.size 0 (x.map bv)).alloc o).ownsRow w.heap.size 91 8 (.slice ra q rc) q (zk8 xs))):=fun o=>by
     have:=yd HO5.o (HB6.o.alloc HB6.o.size o)
     unfold zbh at this
     rw [HXL.o] at this
     exact this
    have HZ6:Hid (w.heap.size≤((w5.alloc (.cells jg 91)).setCells w5.heap.size 0 (x.map bv)).heap.size):=Nat.le_trans HTW.o.size HB6.o.size
    go_wp2_with (at_builtin;refine wpList_append_lies _ rfl _ _ _ rfl w.heap.size 91 t (.agg (hv yf)) 8 8 Tryz.underlying86 HI.o HZ.o.1 HZ.o.2.1 HZ.o.2.2 rfl (by omega) (.slice ra q rc) q (zk8 xs) rfl (HO6.o _) ⟨((w5.alloc (.cells jg 91)).setCells w5.heap.size 0 (x.map bv)).heap.size,0,none⟩ 1 1 [.int .u8 x0,.int .u8 x1,.int .u8 x2,.int .u8 x3,.int .u8 x4,.int .u8 x5,.int .u8 x6,.int .u8 x7] rfl rfl (World.news_of_block (heap_alloc_last _ _)) (by simp [Value.oneCell']) (by omega) (by unfold maxLen;omega) (by omega) (by have:=HZ6.o;simp;omega) (((w5.alloc (.cells jg 91)).setCells w5.heap.size 0 (x.map bv)).heap.size+1) (by simp) ?_;intro g cap' w8 hown hgrow hat hltg;have HOW:=za hown;have HGR:=za hgrow;have HAT:=za hat;clear hown hgrow hat hltg)
    have hV7:Below w5.heap.size w5 (((w5.alloc (.cells jg 91)).setCells w5.heap.size 0 (x.map bv)).alloc (.cells #[.int .u8 x0,.int .u8 x1,.int .u8 x2,.int .u8 x3,.int .u8 x4,.int .u8 x5,.int .u8 x6,.int .u8 x7] 91)):=HB6.o.alloc HB6.o.size _
    have hO7:=HO6.o (.cells #[.int .u8 x0,.int .u8 x1,.int .u8 x2,.int .u8 x3,.int .u8 x4,.int .u8 x5,.int .u8 x6,.int .u8 x7] 91)
    have hZ7:w5.heap.size+1≤((w5.alloc (.cells jg 91)).setCells w5.heap.size 0 (x.map bv)).heap.size+1:=by have:=HB6.o.size;omega
    go_roundw
    case rel =>
     have hgr:=HGR.o
     have hat:=HAT.o
     generalize hV:((w5.alloc (.cells jg 91)).setCells w5.heap.size 0 (x.map bv)).alloc (.cells #[.int .u8 x0,.int .u8 x1,.int .u8 x2,.int .u8 x3,.int .u8 x4,.int .u8 x5,.int .u8 x6,.int .u8 x7] 91)=V7 at *
     have hb0:=js HO.o
     have hbB:=HH.o.base.size
     have hTN:zf (fun b=>(Value.slice ra q rc).ownBlock=some b) [91] V7 w8:=(zf.refl (fun b=>(Value.slice ra q rc).ownBlock=some b) [91] V7).grown hO7 hgr (fun g hg=> .inl hg) (by simp)
     have hcs8:=(HCS5.o.below hV7).asideN hTN (fun b hb=>⟨Nat.le_trans hbB (hb0 b hb),fun hO=>by
       have:=HH.o.lt b (.inl hO);have:=hb0 b hb;omega,HNO5.o b hb,fun hO=>by
       have:=HH.o.lt b (.inr (.inr hO));have:=hb0 b hb;omega⟩) (by decide)
     have hT8:zf (fun b=>O b∨A b) qT w w8:=by
      have h7:=HTW.o.then_below hV7
      refine⟨hgr.os.trans h7.os,hgr.tape.trans h7.tape,hgr.output.trans h7.output,Nat.le_trans h7.size hgr.size,fun j hj=>?_⟩
      rw [hgr.block j (Nat.lt_of_lt_of_le hj h7.size) (fun e=>by have:=hb0 j e.symm;omega)]
      exact h7.block j hj
     refine⟨q+1,Ext A' W1 w5,m1,xs++[x],by omega,by go_num,⟨_,_,rfl⟩,hT8,⟨HA5.o.1,fun b hb=>(HA5.o.2 b hb).imp id (fun h=>⟨h.1,Nat.lt_of_lt_of_le h.2 (Nat.le_trans hV7.size hgr.size)⟩)⟩,by rw [HKR.o];exact hcs8,?_,?_,by simp [HXL.o],?_,HST1.o x m1 rfl⟩
     ·unfold zbh
      rw [zy3,HX.o,List.length_append,List.length_singleton,HXL.o]
      exact HOW.o
     ·intro g' hg'
      simp only [Value.ownBlock,Option.some.injEq] at hg'
      subst hg'
      rcases hat with h1 | h1
      ·exact HNO5.o _ h1
      ·rintro(hb | hb)
       ·have:=HCS5.o.lt _ (.inr (.inl (.inl hb)))
        omega
       ·omega
     ·intro p hp
      rcases List.mem_append.1 hp with hp | hp
      ·exact HX8.o p hp
      ·rw [List.mem_singleton.1 hp];exact HXX.o
    case measure=>simp [intOf];omega
   ·obtain⟨hst,hf6,hb6⟩:=HG.o xd rfl
    have HB6:=za hb6
    have HGB:Hid (((w5.alloc (.cells jg 91)).setCells w5.heap.size 0 (xd.map bv)).heap[g]?=some (.cells #[txv p,jo at_ 5] 115 (0,0))):=(hb6.block _ (zb hgb)).trans hgb
    clear hf6 hb6 HG hgb
    unfold xm
    go_wp2_with fail
    go_ret2
    rw [HST2.o _ _ rfl]
    exact⟨HTW.o.then_below HB6.o,HH.o.all ((HCS5.o.below HB6.o).less (by have:=HKR.o;omega)) ⟨HA5.o.1,fun b hb=>(HA5.o.2 b hb).imp id (fun h=>⟨h.1,Nat.lt_of_lt_of_le h.2 HB6.o.size⟩)⟩,.inr ⟨p,g,rfl,HGB.o,rfl⟩⟩
  ·obtain rfl:q=ss.length:=by omega
   have hd:ss.drop ss.length=[]:=List.drop_length
   rw [hd] at hM hcs
   go_wp2_with fail
   go_ret2
   have hM2:yh (zq d.fs) pr size m ss=(.inr xs,m'):=by
    rw [hM,yh]
    simp [zbb]
   rw [hM2]
   refine⟨HT.o,HH.o.all ((hcs.less (by simp))) HA.o,.inl ⟨xs,_,rfl,HO.o,HX8.o,rfl⟩⟩
end
section
set_option maxHeartbeats 2000000
open Go.RowKit
set_option maxRecDepth 100000
attribute [local go_sem ↓] yq yk yt yp yn yo yu yl
theorem qo.mapR {α β γ:Type}{R:α→β→Prop}{R':α→γ→Prop}{l:List α}{m:List β}(h:qo R l m)(g:β→γ)(hr:∀ a∈l,∀ b,R a b→R' a (g b)):qo R' l (m.map g):=by
 induction h using qo.ind with
 | nil=>exact .nil
 | cons h1 _ ih=>exact .cons (hr _ (by simp) _ h1) (ih fun a ha b=>hr a (by simp [ha]) b)
theorem zkf {α β:Type}{f:α→β}{l:List α}(h:(l.map f).Nodup){a b:α}(ha:a∈l)(hb:b∈l)(e:f a=f b):a=b:=by
 obtain⟨i,hi,ei⟩:=List.getElem_of_mem ha
 obtain⟨j,hj,ej⟩:=List.getElem_of_mem hb
 have hp:=List.pairwise_iff_getElem.1 (List.pairwise_map.1 h)
 rcases Nat.lt_trichotomy i j with hlt | heq | hgt
 ·exact absurd (by rw [ei,ej];exact e) (hp i j hi hj hlt)
 ·subst heq;rw [← ei,← ej]
 ·exact absurd (by rw [ei,ej];exact e.symm) (hp j i hj hi hgt)
theorem vt.nodup {w:World}{A:Nat→Prop}{nm:Nat}{room:Int}{L:LsN}(h:vt w A nm room L):(L.map (·.2.1)).Nodup:=by
 obtain⟨hb,eb,nx,pv,h⟩:=h
 obtain⟨D,-,-,h3,-⟩:=h.map
 unfold LsN.ks at h3
 rw [List.map_map] at h3
 exact h3
theorem zf0.setF {w w':World}{A:Nat→Prop}{nm:Nat}{LN:LsN}{nd:Mm}(hM:vt w A nm zbe LN)(hR:qo (NdR w A) LN nd)(hN:(LN.map (·.2.2)).Nodup){p:Pl}{b fb:Nat}(hg:LN.get p=some (b,zt fb))(ht:zf (fun x=>x=fb) [zr] w w'){xs ys:List Px}(hf:zn w fb xs)(hf':zn w' fb ys)(hk:FOk ys){f':Fl}(hi:j4 w' ys f')(hA:A fb):
  zf0 w' A nm (nd.set p f'):=by
 refine⟨LN,hM.keep ht (by decide) (by decide) (fun k _ e=>by subst e;exact⟨_,_,_,hf⟩),?_,hN⟩
 have hmem:=ze8 hg
 refine hR.mapR _ (fun a ha y hr=>?_)
 by_cases hy:y.1=p
 ·rw [if_pos hy]
  have:a=(b,p,zt fb):=zkf hM.nodup ha hmem (by show a.2.1=p;rw [hr.1,hy])
  subst this
  exact⟨rfl,fb,ys,rfl,hA,hf',hk,hi⟩
 ·rw [if_neg hy]
  obtain⟨fb2,xs2,e2,h3,h4,h5,h6⟩:=hr.2
  have hne:fb2≠fb:=by
   intro e
   subst e
   have:a=(b,p,zt fb2):=zkf hN ha hmem e2
   rw [this] at hr
   exact hy hr.1.symm
  exact⟨hr.1,fb2,xs2,e2,h3,ht.stay h4 hne,h5,h6.turn ht (by decide)⟩
theorem z2y {w:World}{xs:List Px}{f:Fl}(h:j4 w xs f):zfq xs=ziv f:=by
 obtain⟨a,b,c,d,rfl⟩:=zez h.1
 obtain⟨a',b',c',d',rfl⟩:=zez h.2.1
 have h0:=h.2.2 0 (by omega)
 have h1:=h.2.2 1 (by omega)
 have h2:=h.2.2 2 (by omega)
 have h3:=h.2.2 3 (by omega)
 have f0:a.fits=a'.fits:=h0.fits
 have f1:b.fits=b'.fits:=h1.fits
 have f2:c.fits=c'.fits:=h2.fits
 have f3:d.fits=d'.fits:=h3.fits
 have g0:a.hash=a'.hash:=h0.hash
 have g1:b.hash=b'.hash:=h1.hash
 have g2:c.hash=c'.hash:=h2.hash
 have g3:d.hash=d'.hash:=h3.hash
 unfold zfq ziv
 simp only [f0,f1,f2,f3,g0,g1,g2,g3]
theorem z4d {w:World}{xs:List Px}{f:Fl}(h:j4 w xs f)(k:Nat){z:Px}{c:Pc}(hz:zcq w z c):j4 w (xs.set k z) (f.set k c):=by
 refine⟨by rw [List.length_set];exact h.1,by rw [List.length_set];exact h.2.1,fun i hi=>?_⟩
 have e1:(xs.set k z).getD i .no=if i=k∧k < xs.length then z else xs.getD i .no:=by
  simp only [List.getD_eq_getElem?_getD,List.getElem?_set]
  by_cases hik:k=i
  ·subst hik
   by_cases hk:k < xs.length
   ·simp [hk]
   ·simp [hk]
  ·have:¬ i=k:=fun e=>hik e.symm
   simp [hik,this]
 rw [e1,zw8,h.1,h.2.1]
 split
 ·exact hz
 ·exact h.2.2 i hi
theorem CS.setNd {W0 w w':World}{O A OP:Nat→Prop}{cb nb db pm nm:Nat}{C:Array Value}{d:Dk}{room:Int}{pr:Mm}{m:Ms Nt}{k:Nat}(h:CS W0 w O A OP cb nb db pm nm C d room pr m k)(ht:zf A [zr] w w'){nd':Mm}(hnd:zf0 w' A nm nd')(hl:nd'.length=m.needed.length):CS W0 w' O A OP cb nb db pm nm C d room pr { m with needed:=nd' } k :=
 ⟨h.base.trans (ht.below (fun b hb=>h.own b (.inr hb)) h.base.size),h.own,h.apart,fun b hb=>Nat.lt_of_lt_of_le (h.lt b hb) ht.size,h.disk.stay ht (by decide) (by decide),h.net.turn ht (by decide) (by decide) (by decide),h.st,h.few,ht.keep h.cli (by decide),h.cells,h.prv.stay ht (fun b hb e=>h.away b hb (.inr e)) (by decide) (fun _ h=>h),h.away,hnd,by have:=h.short;simp only;omega⟩
theorem Mm.set_len (m:Mm)(p:Pl)(f:Fl):(m.set p f).length=m.length:=by simp [Mm.set]
theorem CS.find {W0 w:World}{O A OP:Nat→Prop}{cb nb db pm nm:Nat}{C:Array Value}{d:Dk}{room:Int}{pr:Mm}{m:Ms Nt}{k:Nat}(h:CS W0 w O A OP cb nb db pm nm C d room pr m k)(p:Pl)(hp:zcb p):∃(a:Option Addr) (b:Bool),
  ((b=false∧a=none∧m.needed.get p=none)∨(b=true∧∃ LN bb fb xs f,a=some ⟨fb,0,none⟩∧vt w A nm zbe LN∧qo (NdR w A) LN m.needed∧(LN.map (·.2.2)).Nodup∧LN.get p=some (bb,zt fb)∧m.needed.get p=some f∧A fb∧zn w fb xs∧FOk xs∧j4 w xs f)) ∧
  ∀ w0,Below w.heap.size w w0→Calls Tryz.prog 144 #[zt nm,plV p] w0 fun r w'=>r= .returned (.tuple #[.pointer a,.bool b])∧Below w0.heap.size w0 w':=by
 obtain⟨LN,hmn,hnd,hndup⟩:=h.nee
 rcases zf0.get hnd p with ⟨g1,g2⟩ | ⟨b,v,f,g1,g2,⟨fb,xs,rfl,hA,hf,hk,hi⟩,-⟩
 ·exact⟨none,false,.inl ⟨rfl,rfl,g2⟩,fun w0 hb=>zp3 A nm zbe LN _ hp w0 (hmn.below hb (fun _ h=>h)) g1⟩
 ·exact⟨_,true,.inr ⟨rfl,LN,b,fb,xs,f,rfl,hmn,hnd,hndup,g1,g2,hA,hf,hk,hi⟩,fun w0 hb=>zmy A nm zbe LN _ hp w0 (hmn.below hb (fun _ h=>h)) b _ g1⟩
def WdN (nd:Mm):Prop:=∀ x∈nd,1≤x.1.2.2
theorem WdN.set {nd:Mm}(h:WdN nd)(p:Pl)(f:Fl):WdN (nd.set p f):=by
 intro x hx
 have:x.1∈(nd.set p f).map (·.1):=List.mem_map_of_mem hx
 rw [Mm.set_keys] at this
 obtain⟨y,hy,ey⟩:=List.mem_map.1 this
 rw [← ey];exact h y hy
theorem zi2 (size:Nat)(hsz:size < 9223372036854775808)(l:Int)(h1:-1≤l)(h2:l≤100)(j:Nat)(hj:j < 9223372036854775808):zcb (zi size l j):=by
 have hc:=zc2 l size
 unfold zi
 refine⟨⟨by simp only;omega,by simp only;omega⟩,⟨by simp only;omega,by simp only;omega⟩,⟨by simp only;omega,by simp only;omega⟩⟩
abbrev zma (W0:World)(O A OP:Nat→Prop)(cb nb db pm nm:Nat)(C:Array Value)(d:Dk)(room:Int)(pr:Mm)(size k f:Nat):Prop :=
 ∀(L j:Nat) (h:List UInt8) (m:Ms Nt) (w:World),33≤L+f→L≤40→j < 9223372036854775808→h.length=8→WdN m.needed→CS W0 w O A OP cb nb db pm nm C d room pr m k →
  Calls Tryz.prog 146 #[zt cb,.int .i64 size,.int .i64 L,.int .i64 j,.agg (hv h)] w fun r w'=>r= .returned (.tuple #[])∧zf A [zr] w w'∧CS W0 w' O A OP cb nb db pm nm C d room pr { m with needed:=xo size f m.needed L j h } k
theorem zri (W0:World)(O A OP:Nat→Prop)(cb nb db pm nm:Nat)(C:Array Value)(d:Dk)(room:Int)(pr:Mm)(size k:Nat)(hsz:size < 9223372036854775808)(L j:Nat)(h:List UInt8)(m:Ms Nt)(w:World)(hL:L≤40)(hj:j < 9223372036854775808)(hno:m.needed.get (zi size (L:Int) j)=none)(hcs:CS W0 w O A OP cb nb db pm nm C d room pr m k):
  Calls Tryz.prog 146 #[zt cb,.int .i64 size,.int .i64 L,.int .i64 j,.agg (hv h)] w fun r w'=>r= .returned (.tuple #[])∧zf A [zr] w w'∧CS W0 w' O A OP cb nb db pm nm C d room pr m k:=by
 have HPOK:=za (zi2 size hsz (L:Int) (by omega) (by omega) j hj)
 have HPIN:=za (fun w=>zbs size hsz (L:Int) (by omega) (by omega) j hj w)
 have HCS:=za hcs
 obtain⟨a,b,hab,hget⟩:=hcs.find (zi size (L:Int) j) HPOK.o
 have HAB:=za hab
 have HGET:=za hget
 have HNO:=za hno
 clear hcs hab hget hj hno
 unfold zt at HGET ⊢
 go_enter Tryz.func146,Tryz.ntmps146
 go_wp2_with fail
 have HB1:Hid (Below w.heap.size w (w.alloc (.cells (hv h) 91))):=ze w _
 have HX1:Hid ((w.alloc (.cells (hv h) 91)).heap[w.heap.size]?=some (.cells (hv h) 91 (0,0))):=heap_alloc_last _ _
 generalize w.alloc (.cells (hv h) 91)=W1 at *
 go_cut [10,11] from 14 to 25 (fun s10 s11 wx=>s10= .pointer a∧s11= .bool b∧Below W1.heap.size W1 wx)
 case first =>
  have hcl:W1.heap[cb]?=some (.cells C qw (0,0)):=(HB1.o.block _ (zb HCS.o.cli)).trans HCS.o.cli
  have HCL:=za hcl
  have c14:W1.cell? ⟨cb,14,none⟩=some (.pointer (some ⟨nm,0,none⟩)):=(zg hcl 14 _ HCS.o.cells.nee).1
  clear hcl
  go_region_with (first
   | (go_at_call 145;refine(HPIN.o _).mono ?_;rintro r w2 ⟨rfl,hb2⟩;have HB2:=za (qk hb2);have c14':w2.cell? ⟨cb,14,none⟩=some (.pointer (some ⟨nm,0,none⟩)):=(zg ((HB2.o.block _ (zb HCL.o)).trans HCL.o) 14 _ HCS.o.cells.nee).1;clear hb2)
   | (go_at_call 144;refine(HGET.o w2 (by exact HB1.o.trans (HB2.o.mono HB1.o.size))).mono ?_;rintro r w3 ⟨rfl,hb3⟩;have HB3:=za (HB2.o.trans (hb3.mono HB2.o.size));clear hb3))
  all_goals go_wp2_with fail
  all_goals go_meet
  all_goals exact⟨rfl,rfl,HB3.o⟩
 case rest =>
  obtain⟨rfl,rfl,hbx⟩:=hcut
  obtain⟨X,hX⟩:∃ X,X=wc:=⟨_,rfl⟩
  subst hX
  have HBX:=za (HB1.o.trans (hbx.mono HB1.o.size))
  have HHX:Hid (X.heap[w.heap.size]?=some (.cells (hv h) 91 (0,0))):=(hbx.block _ (zb HX1.o)).trans HX1.o
  have HCX:=za (HCS.o.below HBX.o)
  clear hbx HGET
  rcases HAB.o with ⟨rfl,rfl,hg⟩ | ⟨rfl,LN,bb,fb,xs,fl,rfl,hmn,hnd,hndup,hlg,hg,-⟩
  ·go_wp2_with fail
   first | go_end0 | refine bodyPost_ret (results_none rfl _ _ _) rfl ?_
   exact⟨rfl,.of_below HBX.o,HCX.o⟩
  ·exfalso
   have:=HNO.o
   rw [hg] at this
   simp at this
theorem zss (W0:World)(O A OP:Nat→Prop)(cb nb db pm nm:Nat)(C:Array Value)(d:Dk)(room:Int)(pr:Mm)(size k f:Nat)(hsz:size < 9223372036854775808)(ih:zma W0 O A OP cb nb db pm nm C d room pr size k f):zma W0 O A OP cb nb db pm nm C d room pr size k (f+1):=by
 intro L j h m w hLf hL hj h8 hwd hcs
 obtain⟨kk,hkk⟩:∃ kk,kk=j % 4:=⟨_,rfl⟩
 have hrem:(j:Int) % 4=(kk:Int):=by omega
 have hk4:kk < 4:=by omega
 have HKK:=za hkk
 have HK4:=za hk4
 have HPOK:=za (zi2 size hsz (L:Int) (by omega) (by omega) j hj)
 have HPIN:=za (fun w=>zbs size hsz (L:Int) (by omega) (by omega) j hj w)
 have HIH:=za ih
 have HCS:=za hcs
 have HWD:=za hwd
 have H8:=za h8
 have HNUM:Hid (33≤L+(f+1)∧L≤40∧j < 9223372036854775808):=⟨hLf,hL,hj⟩
 obtain⟨a,b,hab,hget⟩:=hcs.find (zi size (L:Int) j) HPOK.o
 have HAB:=za hab
 have HGET:=za hget
 have HSM:Hid (xo size (f+1) m.needed L j h=match m.needed.get (zi size (L:Int) j) with
  | none=>m.needed
  | some fl=>match ziv (fl.set (j % 4) ⟨true,true,h,[]⟩) with
   | some up=>xo size f (m.needed.set (zi size (L:Int) j) (fl.set (j % 4) ⟨true,true,h,[]⟩)) (L+1) (j / 4) up
   | none=>m.needed.set (zi size (L:Int) j) (fl.set (j % 4) ⟨true,true,h,[]⟩)):=rfl
 clear ih hcs hwd hab hget hkk hk4 hLf hj h8
 unfold zt at HGET ⊢
 go_enter Tryz.func146,Tryz.ntmps146
 go_wp2_with fail
 have HB1:Hid (Below w.heap.size w (w.alloc (.cells (hv h) 91))):=ze w _
 have HX1:Hid ((w.alloc (.cells (hv h) 91)).heap[w.heap.size]?=some (.cells (hv h) 91 (0,0))):=heap_alloc_last _ _
 generalize w.alloc (.cells (hv h) 91)=W1 at *
 go_cut [10,11] from 14 to 25 (fun s10 s11 wx=>s10= .pointer a∧s11= .bool b∧Below W1.heap.size W1 wx)
 case first =>
  have hcl:W1.heap[cb]?=some (.cells C qw (0,0)):=(HB1.o.block _ (zb HCS.o.cli)).trans HCS.o.cli
  have HCL:=za hcl
  have c14:W1.cell? ⟨cb,14,none⟩=some (.pointer (some ⟨nm,0,none⟩)):=(zg hcl 14 _ HCS.o.cells.nee).1
  clear hcl hrem
  go_region_with (first
   | (go_at_call 145;refine(HPIN.o _).mono ?_;rintro r w2 ⟨rfl,hb2⟩;have HB2:=za (qk hb2);have c14':w2.cell? ⟨cb,14,none⟩=some (.pointer (some ⟨nm,0,none⟩)):=(zg ((HB2.o.block _ (zb HCL.o)).trans HCL.o) 14 _ HCS.o.cells.nee).1;clear hb2)
   | (go_at_call 144;refine(HGET.o w2 (by exact HB1.o.trans (HB2.o.mono HB1.o.size))).mono ?_;rintro r w3 ⟨rfl,hb3⟩;have HB3:=za (HB2.o.trans (hb3.mono HB2.o.size));clear hb3))
  all_goals go_wp2_with fail
  all_goals go_meet
  all_goals exact⟨rfl,rfl,HB3.o⟩
 case rest =>
  obtain⟨rfl,rfl,hbx⟩:=hcut
  obtain⟨X,hX⟩:∃ X,X=wc:=⟨_,rfl⟩
  subst hX
  have HBX:=za (HB1.o.trans (hbx.mono HB1.o.size))
  have HHX:Hid (X.heap[w.heap.size]?=some (.cells (hv h) 91 (0,0))):=(hbx.block _ (zb HX1.o)).trans HX1.o
  have HCX:=za (HCS.o.below HBX.o)
  clear hbx HGET
  rcases HAB.o with ⟨rfl,rfl,hg⟩ | ⟨rfl,LN,bb,fb,xs,fl,rfl,hmn,hnd,hndup,hlg,hg,hA,hf,hfk,hfi⟩
  ·go_wp2_with fail
   first | go_end0 | refine bodyPost_ret (results_none rfl _ _ _) rfl ?_
   rw [HSM.o,hg]
   exact⟨rfl,.of_below HBX.o,HCX.o⟩
  ·have hfX:zn X fb xs:=(HBX.o.block _ (zb hf)).trans hf
   have HF:=za hfX
   have HFK:=za hfk
   have HFI:=za (hfi.below HBX.o)
   have HLG:=za hlg
   have HGG:=za hg
   have HA:=za hA
   have hzk:(⟨true,true,h,.slice none 0 0⟩:Px).ok:=⟨H8.o,_,_,_,rfl⟩
   have HZK:=za hzk
   have hkx:kk < xs.length:=by rw [hfk.1];exact HK4.o
   have hlh:(vx (.pointer (some ⟨w.heap.size,0,none⟩))).run Tryz.prog X.drew= .ok (.agg (hv h)) X.drew:=qg (w:=X.drew) (yv (w:=X.drew) (cs:=h.map bv) HHX.o) H8.o
   have hbp:=fun w0=>zuz h H8.o w0
   have hth:X.drew.there fb (kk*11) 11:=by
    have:=zn.there (w:=X.drew) (fb:=fb) (xs:=xs) hfX hfk.2 hkx (o:=0) (n:=11) (by omega)
    rw [Nat.add_zero] at this
    exact this
   have hst:=zbr hth (Px.cs_len hzk) (Px.cs_one hzk)
   have HF2:Hid (zn (X.drew.setCells fb (kk*11) (⟨true,true,h,.slice none 0 0⟩:Px).cs) fb (xs.set kk ⟨true,true,h,.slice none 0 0⟩)):=zn.set (w:=X.drew) hfX hfk.2 hkx hzk
   have HK2:Hid (FOk (xs.set kk ⟨true,true,h,.slice none 0 0⟩)):=⟨by rw [List.length_set];exact hfk.1,zj8 hfk.2 kk hzk⟩
   have HT2:Hid (zf (fun x=>x=fb) [zr] X (X.drew.setCells fb (kk*11) (⟨true,true,h,.slice none 0 0⟩:Px).cs)):=((zf.refl (fun x=>x=fb) [zr] X).drew).setCells (w:=X.drew) (.inl rfl) hfX (by simp) _ _
   have HMN:=za (hmn.below HBX.o (fun _ h=>h))
   have HND:Hid (qo (NdR X A) LN m.needed):=hnd.mono (fun a' _ b' hr=>⟨hr.1,hr.2.turn (O:=fun _=>False) (T:=[]) (.of_below HBX.o) (by simp) (by simp) (fun _ h=>h)⟩)
   have HNDUP:=za hndup
   have hk4:kk < 4:=HK4.o
   clear hf hfX hfk hfi hlg hg hA hzk hkx hth hmn hnd hndup HAB
   go_wp2_with fail
   go_region
   generalize X.drew.setCells fb (kk*11) (⟨true,true,h,.slice none 0 0⟩:Px).cs=V at *
   have HTA:Hid (zf A [zr] X V):=HT2.o.mono (fun b hb=>by rw [hb];exact HA.o) (fun _ h=>h)
   have HIV:Hid (j4 V (xs.set kk ⟨true,true,h,.slice none 0 0⟩) (fl.set kk ⟨true,true,h,[]⟩)):=z4d (HFI.o.turn HT2.o (by decide)) kk ⟨rfl,rfl,rfl,.inl ⟨rfl,rfl⟩⟩
   have HCV:Hid (CS W0 V O A OP cb nb db pm nm C d room pr { m with needed:=m.needed.set (zi size (L:Int) j) (fl.set kk ⟨true,true,h,[]⟩) } k):=HCX.o.setNd HTA.o (zf0.setF HMN.o HND.o HNDUP.o HLG.o HT2.o HF.o HF2.o HK2.o HIV.o HA.o) (Mm.set_len _ _ _)
   have hld:=vy (yv HF2.o) HK2.o.len
   have HRX:=za (z2y HIV.o)
   have HFR:=za (z0o _ HK2.o V)
   clear hlh hbp hst
   go_wp2_with fail
   refine HFR.o.mono ?_
   rintro r w5 ⟨hb5,hr5⟩
   rw [HRX.o] at hr5
   have HB5:=za hb5
   have HSM2:=HSM.o
   rw [HGG.o] at HSM2
   simp only at HSM2
   rw [← HKK.o] at HSM2
   have HSM3:=za HSM2
   have HG:Hid (∀ y:List UInt8,y.length=8→(zcx (.pointer (some ⟨w5.heap.size,0,none⟩)) (.agg (hv y))).run Tryz.prog (w5.alloc (.cells jg 91))= .ok () ((w5.alloc (.cells jg 91)).setCells w5.heap.size 0 (y.map bv))∧((w5.alloc (.cells jg 91)).setCells w5.heap.size 0 (y.map bv)).heap[w5.heap.size]?=some (.cells (hv y) 91 (0,0))∧Below w5.heap.size w5 ((w5.alloc (.cells jg 91)).setCells w5.heap.size 0 (y.map bv))):=by
    intro y hy
    have hf4:(w5.alloc (.cells jg 91)).heap[w5.heap.size]?=some (.cells (xd.map bv).toArray 91 (0,0)):=heap_alloc_last _ _
    have hf5:=qz hf4 (ds:=y.map bv) (by simp [hy,xd])
    exact⟨za9 (by have:=jb hf4;simpa [xd] using this) hy,hf5,zu (ze _ _) (Nat.le_refl _) _ _⟩
   clear hb5 HSM2 HSM HFR hld
   rcases hr5 with ⟨up,hup,rfl⟩ | ⟨hup,rfl⟩
   ·have hup8:up.length=8:=by
     obtain⟨-,-,e⟩:=zlx hup
     rw [e];exact qf _ _
    obtain⟨hst,hf6,hb6⟩:=HG.o up hup8
    have hlh:=qg (yv (cs:=up.map bv) hf6) hup8
    have HUP8:=za hup8
    have HUP:=za hup
    have HB6:Hid (Below V.heap.size V ((w5.alloc (.cells jg 91)).setCells w5.heap.size 0 (up.map bv))):=HB5.o.trans (hb6.mono HB5.o.size)
    have hwl:wrap64 ((L:Int)+1)=((L+1:Nat):Int):=by unfold wrap64;omega
    obtain⟨q,hq⟩:∃ q,q=j / 4:=⟨_,rfl⟩
    have hqi:(j:Int) / 4=(q:Int):=by omega
    have hqw:wrap64 (q:Int)=(q:Int):=by have:=HNUM.o;unfold wrap64;omega
    have HQ:=za hq
    have HL32:Hid (L+1≤40∧33≤L+1+f∧q < 9223372036854775808):=by
     have hn:=HNUM.o
     refine⟨?_,by omega,by omega⟩
     have hw:=HWD.o _ (Mm.get_mem HGG.o)
     unfold zi at hw
     simp only at hw
     rcases Nat.lt_or_ge L 32 with h' | h'
     ·omega
     ·exfalso
      have hz:zz (L:Int) size=0:=by
       unfold zz
       rw [Int.toNat_natCast]
       refine Nat.div_eq_of_lt (Nat.lt_of_lt_of_le hsz ?_)
       exact Nat.le_trans (by decide:9223372036854775808≤4 ^ 32) (Nat.pow_le_pow_right (by omega) h')
      rw [hz] at hw
      omega
    have HREC:=za (HIH.o (L+1) q up { m with needed:=m.needed.set (zi size (L:Int) j) (fl.set kk ⟨true,true,h,[]⟩) } _ HL32.o.2.1 HL32.o.1 HL32.o.2.2 hup8 (HWD.o.set _ _) (HCV.o.below HB6.o))
    clear hf6 hb6 hup hup8 hq HG
    unfold zt at HREC
    go_wp2_with fail
    rw [show(L:Int)+1=((L+1:Nat):Int) from by omega]
    refine HREC.o.mono ?_
    rintro r w9 ⟨rfl,ht9,hcs9⟩
    have HT9:=za ht9
    have HC9:=za hcs9
    clear ht9 hcs9 HREC
    go_wp2_with fail
    first | go_end0 | refine bodyPost_ret (results_none rfl _ _ _) rfl ?_
    rw [HSM3.o,HUP.o,← HQ.o]
    exact⟨rfl,(((zf.of_below HBX.o).trans (HTA.o.mono (fun _ h=> .inl h) (fun _ h=>h))).then_below HB6.o).trans (HT9.o.mono (fun _ h=> .inl h) (fun _ h=>h)),HC9.o⟩
   ·obtain⟨hst,hf6,hb6⟩:=HG.o xd rfl
    have HUP:=za hup
    have HB6:Hid (Below V.heap.size V ((w5.alloc (.cells jg 91)).setCells w5.heap.size 0 (xd.map bv))):=HB5.o.trans (hb6.mono HB5.o.size)
    clear hf6 hb6 hup HG
    go_wp2_with fail
    first | go_end0 | refine bodyPost_ret (results_none rfl _ _ _) rfl ?_
    rw [HSM3.o,HUP.o]
    exact⟨rfl,((zf.of_below HBX.o).trans (HTA.o.mono (fun _ h=> .inl h) (fun _ h=>h))).then_below HB6.o,HCV.o.below HB6.o⟩
theorem zmm (W0:World)(O A OP:Nat→Prop)(cb nb db pm nm:Nat)(C:Array Value)(d:Dk)(room:Int)(pr:Mm)(size k:Nat)(hsz:size < 9223372036854775808):∀ f,zma W0 O A OP cb nb db pm nm C d room pr size k f:=by
 intro f
 induction f with
 | zero =>
  intro L j h m w h1 h2 hj h8 hwd hcs
  refine zri W0 O A OP cb nb db pm nm C d room pr size k hsz L j h m w h2 hj ?_ hcs
  cases hg:m.needed.get (zi size (L:Int) j) with
  | none=>rfl
  | some fl =>
   exfalso
   have hw:=hwd _ (Mm.get_mem hg)
   unfold zi at hw
   simp only at hw
   have hz:zz (L:Int) size=0:=by
    unfold zz
    rw [Int.toNat_natCast]
    refine Nat.div_eq_of_lt (Nat.lt_of_lt_of_le hsz ?_)
    exact Nat.le_trans (by decide:9223372036854775808≤4 ^ 32) (Nat.pow_le_pow_right (by omega) (by omega))
   rw [hz] at hw
   omega
 | succ f ih=>exact zss W0 O A OP cb nb db pm nm C d room pr size k f hsz ih
end
end Go.Proofs.YtinhekmmdlhfkaaGreatDoor
