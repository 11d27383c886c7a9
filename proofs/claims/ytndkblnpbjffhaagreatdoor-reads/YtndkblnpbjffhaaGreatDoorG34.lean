import Derived.Test.YtndkblnpbjffhaaGreatDoorG33
set_option maxHeartbeats 2000000
set_option maxRecDepth 100000
open Go.RowKit
namespace Go.Proofs.YtndkblnpbjffhaaGreatDoor
def zbl (B:Nat)(w:World)(x:Value)(h:List (List UInt8)):Prop:=w.ownsRow B 92 8 x h.length (zlm h)
theorem z1w (h:List (List UInt8))(p:List UInt8):zlm (h++[p])=zlm h++(hv p).toList:=by simp [zlm]
theorem z99 (r:List (Nat×Nat))(i:Nat)(h:i < r.length):(spv r)[i*2]?=some (.int .i64 (r[i].1:Int))∧(spv r)[i*2+1]?=some (.int .i64 (r[i].2:Int)):=by
 induction r generalizing i with
 | nil=>simp at h
 | cons s r ih =>
  cases i with
  | zero=>simp [spv]
  | succ i =>
   have:=ih i (by simpa using h);have e:spv (s::r)= .int .i64 (s.1:Int):: .int .i64 (s.2:Int)::spv r:=by simp [spv]
   rw [e,show(i+1)*2=i*2+1+1 by omega];simpa using this
theorem z8b (h:List (Nat×Nat)):(spv h).length=h.length*2:=by
 induction h with
 | nil=>rfl
 | cons s h ih =>
  have e:spv (s::h)= .int .i64 (s.1:Int):: .int .i64 (s.2:Int)::spv h:=by simp [spv]
  rw [e];simp [ih];omega
def Sps (w:World)(v:Value)(r:List (Nat×Nat)):Prop :=
 ∃ a A,v= .slice a r.length A∧r.length≤A∧(r=[]∨∃ b,a=some ⟨b,0,none⟩∧∀ i (h:i < r.length),w.cell? ⟨b,i*2,none⟩=some (.int .i64 (r[i].1:Int))∧w.cell? ⟨b,i*2+1,none⟩=some (.int .i64 (r[i].2:Int)))
theorem zn4 {B:Nat}{w:World}{x:Value}{A:List (Nat×Nat)}(h:za7 B w x A):Sps w x A:=by
 obtain⟨h0,h | ⟨g,D,E,rfl,R,J,S,hm,V,Q⟩⟩:=h
 ·obtain⟨rfl,h1⟩:=h;have:A=[]:=by
   cases A with
   | nil=>rfl
   | cons s A=>simp at h1
  subst this;exact⟨none,0,rfl,Nat.le_refl _,.inl rfl⟩
 ·refine⟨_,D,rfl,by omega,?_⟩;cases hs:A with
  | nil=>exact .inl rfl
  | cons s r =>
   rw [← hs];refine .inr ⟨g,rfl,fun i K=>?_⟩;obtain⟨H,I⟩:=z99 A i K;have U:=z8b A;have key:∀ j,j < A.length*2→w.cell? ⟨g,j,none⟩=(spv A)[j]?:=by
    intro j L;rw [cell_of_row _ _ _ _ _ _ J,← Q];simp [L]
   rw [key _ (by omega),key _ (by omega)];exact⟨H,I⟩
section
attribute [local go_sem ↓] yv yl yy yo yj ym yx yk
def zv7 (h:Nat→Addr)(B:Nat)(w':World)(o:Sum (List UInt8) (List (List UInt8)))(r:Ending):Prop :=
 (∃ xs x,o= .inr xs∧zbl B w' x xs∧(∀ p∈xs,p.length=8)∧r= .returned (.tuple #[x,.nilIface])) ∨
 (∃ p g,o= .inl p∧w'.heap[g]?=some (.cells #[txv p,j4 h 5] 141 (0,0))∧r= .returned (.tuple #[.slice none 0 0,qq g]))
def ve (A h:Nat→Prop)(w w':World):Prop:=(∀ b,A b→h b)∧∀ b,h b→A b∨(w.heap.size≤b∧b < w'.heap.size)
theorem CS.asideN {I w w':World}{O A H:Nat→Prop}{cb L K Q nm:Nat}{C:Array Value}{d:Dk}{room:Int}{R:Mm}{m:Ms Nt}{k:Nat}{N:Nat→Prop}{T:List Nat}(h:CS I w O A H cb L K Q nm C d room R m k)(E:zg N T w w')(J:∀ b,N b→I.heap.size≤b∧¬ O b∧¬ A b∧¬ H b)
  (r:∀ t∈[64,51,76,378,3,qh,5,zt],t∉T):CS I w' O A H cb L K Q nm C d room R m k :=
 ⟨h.base.trans (E.below (fun b D=>(J b D).1) h.base.size),h.own,h.apart,fun b D=>Nat.lt_of_lt_of_le (h.lt b D) E.size,h.disk.stay E (r _ (by simp)) (r _ (by simp)),h.net.turn E (r _ (by simp)) (r _ (by simp)) (r _ (by simp)),h.st,h.few,E.keep h.cli (r _ (by simp)),h.cells,h.prv.stay E (fun b D e=>(J b e).2.2.2 D) (r _ (by simp)) (fun _ h=>h),h.away,h.nee.stay E (fun b D e=>(J b e).2.2.1 D) (r _ (by simp)) (r _ (by simp)) (fun _ h=>h),h.short⟩
theorem CS.all {E w w':World}{O A Q D:Nat→Prop}{cb J H K nm:Nat}{C:Array Value}{d:Dk}{room:Int}{L:Mm}{m S:Ms Nt}{k U:Nat}(h0:CS E w O A D cb J H K nm C d room L m U)(h:CS E w' O Q D cb J H K nm C d room L S k)(R:ve A Q w w'):CS E w' O (Ext A w w') D cb J H K nm C d room L S k:=by
 refine h.mono (fun b r=>R.2 b r) (fun b r=>?_);have:=h0.base.size;rcases r with r | r
 ·exact .inl (R.1 b r)
 ·refine .inr ⟨by omega,r.2,fun I=>?_,fun I=>?_⟩
  ·have:=h0.lt b (.inl I);omega
  ·have:=h0.lt b (.inr (.inr I));omega
def zbb {σ:Type}(xs:List (List UInt8)):Sum (List UInt8) (List (List UInt8))×Ms σ→Sum (List UInt8) (List (List UInt8))×Ms σ
 | (.inl e,m)=>(.inl e,m)
 | (.inr ys,m)=>(.inr (xs++ys),m)
theorem zoi {σ:Type}(y:Sum (List UInt8) (List (List UInt8))×Ms σ):zbb [] y=y:=by
 obtain⟨o,m⟩:=y;cases o<;>simp [zbb]
theorem zte {σ:Type}{fe:σ→List UInt8→(List UInt8×Bool)×σ}{A:Mm}{size:Nat}{m D:Ms σ}{s:Nat×Nat}{r:List (Nat×Nat)}{x:List UInt8}(xs:List (List UInt8))(h:xn fe A size 64 m s.1 s.2=(.inr x,D)):zbb xs (yh fe A size m (s::r))=zbb (xs++[x]) (yh fe A size D r):=by
 rw [yh,h];simp only;cases yh fe A size D r with
 | mk o m2=>cases o<;>simp [zbb]
theorem zt0 {σ:Type}{fe:σ→List UInt8→(List UInt8×Bool)×σ}{D:Mm}{size:Nat}{m A:Ms σ}{s:Nat×Nat}{r:List (Nat×Nat)}{e:List UInt8}(xs:List (List UInt8))(h:xn fe D size 64 m s.1 s.2=(.inl e,A)):zbb xs (yh fe D size m (s::r))=(.inl e,A):=by
 rw [yh,h];rfl
theorem z7g {w:World}{B:Nat}{e:TypeId}{s:Nat}{v:Value}{n:Nat}{xs:List Value}(h:w.ownsRow B e s v n xs)(g:Nat)(r:v.ownBlock=some g):g < w.heap.size:=by
 rcases h.2 with ⟨rfl,_⟩ | ⟨H,A,D,rfl,I,E,_⟩
 ·simp [Value.ownBlock] at r
 ·simp only [Value.ownBlock,Option.some.injEq] at r;subst r;exact zb E
abbrev rPl (size:Nat)(h:List (Nat×Nat)):Nat:=(h.flatMap fun s=>yf size 64 s.1 s.2).length
theorem zpr (W0:World)(aa:Nat→Addr)(O A OP:Nat→Prop)(cb nb db pm nm:Nat)(C:Array Value)(d:Dk)(room:Int)(K:Mm)(m:Ms Nt)(k size:Nat)(bd:size < 9223372036854775808)(hE:Env W0)(hS:ja W0 aa)(ay:zdq W0)(v:Value)(D:List (Nat×Nat))(B:Nat)(w:World)(an:za7 B w v D)(bk:D.length≤1000)(a4:∀ s∈D,s.1+s.2≤size∧1≤s.2)
  (h:CS W0 w O A OP cb nb db pm nm C d room K m (rPl size D+k)) :
  Calls Tryz.prog 94 #[zo cb,.int .i64 size,v] w fun r w' =>
   zg (fun b=>O b∨A b) qT w w'∧CS W0 w' O (Ext A w w') OP cb nb db pm nm C d room K (yh (zu d.fs) K size m D).2 k∧zv7 aa w.heap.size w' (yh (zu d.fs) K size m D).1 r:=by
 obtain⟨t,hi,a3⟩:=Option.map_eq_some_iff.1 z5k;obtain⟨aA,aB,aC⟩:t.zero=some (.agg (hv z8))∧t.size=8∧t.bytes=8:=by simpa using a3
 clear a3;have HI:=za hi;have HZ:=za (And.intro aA (And.intro aB aC));clear hi aA aB aC;have aG:=za a4;have HV:=za an;have HH:=za h;have av:=za (z48 W0 aa O OP cb nb db pm nm C d room K size bd hE hS ay 63);obtain⟨sa,bf,rfl,bj,bb⟩:=zn4 an;clear a4 h hE hS ay bb an;unfold zo;go_enter Tryz.func94,Tryz.ntmps94;go_wp2_with fail;go_loopw [8,15] (fun r i wr=>∃(q:Nat) (W:Nat→Prop) (X:Ms Nt) (xs:List (List UInt8)),q≤D.length∧i= .int .i64 q∧(∃ ra rc,r= .slice ra q rc)∧zg (fun b=>O b∨A b) qT w wr∧ve A W w wr∧CS W0 wr O W OP cb nb db pm nm C d room K X (rPl size (D.drop q)+k)∧zbl w.heap.size wr r xs∧(∀ g,r.ownBlock=some g→¬ W g)∧xs.length=q∧(∀ p∈xs,p.length=8)∧yh (zu d.fs) K size m D=zbb xs (yh (zu d.fs) K size X (D.drop q))) (fun _ i _=>D.length - (intOf i).toNat)
 case atStart =>
  refine⟨0,A,m,[],Nat.zero_le _,rfl,⟨_,_,rfl⟩,zg.refl _ _ _,⟨fun _ h=>h,fun _ h=> .inl h⟩,HH.o,⟨rfl,.inl ⟨rfl,rfl⟩⟩,by simp [Value.ownBlock],rfl,by simp,?_⟩;rw [zoi];rfl
 case round =>
  obtain⟨q,W,X,xs,hq,rfl,⟨ra,rc,rfl⟩,ht,hA,ae,ho,a6,a9,J,hM⟩:=hrel;have HT:=za ht;have HA:=za hA;have ao:=za ae;have HO:=za ho;have aH:=za a6;have ak:=za a9;have ax:=za J;have HM:=za hM;by_cases U:q < D.length
  ·have ba:∃ sb,sa=some ⟨sb,0,none⟩∧wr.cell? ⟨sb,q*2,none⟩=some (.int .i64 (D[q].1:Int))∧wr.cell? ⟨sb,q*2+1,none⟩=some (.int .i64 (D[q].2:Int)):=by
    have be:za7 B wr (.slice sa D.length bf) D:=zi HV.o ht (by decide);obtain⟨a',c',e',-,h'⟩:=zn4 be;simp only [Value.slice.injEq] at e';obtain⟨rfl,-,rfl⟩:=e';rcases h' with h' | ⟨sb,rfl,hc⟩
    ·simp [h'] at U
    ·exact⟨sb,rfl,(hc q U).1,(hc q U).2⟩
   obtain⟨sb,rfl,s0,s1⟩:=ba;obtain⟨i1,i2⟩:=aG.o D[q] (List.getElem_mem U);have af:D.drop q=D[q]::D.drop (q+1):=List.drop_eq_getElem_cons U;have a8:rPl size (D.drop q)+k=(yf size 64 D[q].1 D[q].2).length+(rPl size (D.drop (q+1))+k):=by
    unfold rPl;rw [af,List.flatMap_cons,List.length_append,Nat.add_assoc]
   have ap:Hid (CS W0 wr O W OP cb nb db pm nm C d room K X ((yf size 64 D[q].1 D[q].2).length+(rPl size (D.drop (q+1))+k))):=by
    have:=ao.o;rw [a8] at this;exact this
   have aK:Hid (∀ x Y,xn (zu d.fs) K size 64 X D[q].1 D[q].2=(.inr x,Y)→yh (zu d.fs) K size m D=zbb (xs++[x]) (yh (zu d.fs) K size Y (D.drop (q+1)))):=fun x Y e=>by
    rw [HM.o,af];exact zte xs e
   have aL:Hid (∀ e Y,xn (zu d.fs) K size 64 X D[q].1 D[q].2=(.inl e,Y)→yh (zu d.fs) K size m D=(.inl e,Y)):=fun p Y e=>by
    rw [HM.o,af];exact zt0 xs e
   have aw:=za (fun w0 (aU:CS W0 w0 O W OP cb nb db pm nm C d room K X ((yf size 64 D[q].1 D[q].2).length+(rPl size (D.drop (q+1))+k)))=>av.o W X (rPl size (D.drop (q+1))+k) D[q].1 D[q].2 w0 i1 i2 (by omega) aU);clear ho ht hA ae a6 a9 J hM af a8 i1 i2;generalize D[q].1=fa at *
   generalize D[q].2=fn at *
   generalize a5:rPl size (D.drop (q+1))+k=kr at *
   have aq:=za a5;clear a5;generalize (yf size 64 fa fn).length=kl at *
   have c6:(0:Int)≤(q:Int):=by omega
   have c7:(q:Int) < (D.length:Int):=by omega
   go_wp2_with fail;have Q:Hid (Below wr.heap.size wr (wr.alloc (.cells #[.int .i64 (fa:Int),.int .i64 (fn:Int)] 203))):=ze wr _;generalize wr.alloc (.cells #[.int .i64 (fa:Int),.int .i64 (fn:Int)] 203)=W1 at *
   have ai:=za (aw.o W1 (ap.o.below Q.o));unfold spV zo at ai;refine ai.o.mono ?_;rintro r H ⟨V,az,aZ⟩;have bg:=za V;have ah:=za az;have aI:Hid (zbl w.heap.size H (.slice ra q rc) xs):=zi (zy HO.o Q.o) V (by decide);have aj:Hid (zg (fun b=>O b∨A b) qT w H):=(HT.o.then_below Q.o).trans (V.mono (fun b E=>by
    rcases E with E | E
    ·exact .inl (.inl E)
    ·rcases HA.o.2 b E with E | E
     ·exact .inl (.inr E)
     ·exact .inr ⟨E.1,Nat.lt_of_lt_of_le E.2 Q.o.size⟩) (fun _ h=>h))
   have Z:Hid (ve A (Ext W W1 H) w H):=⟨fun b E=> .inl (HA.o.1 b E),fun b E=>by
    have g1:=Q.o.size;have g2:=V.size;have g3:=HT.o.size;rcases E with E | E
    ·rcases HA.o.2 b E with E | E
     ·exact .inl E
     ·exact .inr ⟨E.1,by omega⟩
    ·exact .inr ⟨by omega,E.2⟩⟩
   have ar:Hid (∀ g,(Value.slice ra q rc).ownBlock=some g→¬ Ext W W1 H g):=fun g hg E=>by
    rcases E with E | E
    ·exact aH.o g hg E
    ·have h1:=z7g HO.o g hg;have h2:=Q.o.size;omega
   clear V az aw ai s0 s1 ap ao av;generalize xn (zu d.fs) K size 64 X fa fn=MR at *
   obtain⟨o1,Y⟩:=MR;simp only at *
   have HG:Hid (∀ y:List UInt8,y.length=8→(zdk (.pointer (some ⟨H.heap.size,0,none⟩)) (.agg (hv y))).run Tryz.prog (H.alloc (.cells jo 92))= .ok () ((H.alloc (.cells jo 92)).setCells H.heap.size 0 (y.map bv))∧((H.alloc (.cells jo 92)).setCells H.heap.size 0 (y.map bv)).heap[H.heap.size]?=some (.cells (hv y) 92 (0,0))∧Below H.heap.size H ((H.alloc (.cells jo 92)).setCells H.heap.size 0 (y.map bv))):=by
    intro y hy;have a0:(H.alloc (.cells jo 92)).heap[H.heap.size]?=some (.cells (xf.map bv).toArray 92 (0,0)):=heap_alloc_last _ _;have aW:=ji a0 (ds:=y.map bv) (by simp [hy,xf]);exact⟨zbe (by have:=qw a0;simpa [xf] using this) hy,aW,zr (ze _ _) (Nat.le_refl _) _ _⟩
   rcases aZ with ⟨x,rfl,J,rfl⟩ | ⟨p,g,rfl,am,rfl⟩
   ·obtain⟨bc,ag,R⟩:=HG.o x J;have aX:=qr (y9 (cs:=x.map bv) ag) J;obtain⟨x0,x1,x2,x3,x4,x5,x6,x7,hx⟩:=zj0 x J;rw [hx] at aX;have HX:=za hx;have I:=za R;have aM:=za J;clear ag R HG J hx;have au:Hid (∀ o,((((H.alloc (.cells jo 92)).setCells H.heap.size 0 (x.map bv)).alloc o).ownsRow w.heap.size 92 8 (.slice ra q rc) q (zlm xs))):=fun o=>by
     have:=zy aI.o (I.o.alloc I.o.size o);unfold zbl at this;rw [ak.o] at this;exact this
    have aN:Hid (w.heap.size≤((H.alloc (.cells jo 92)).setCells H.heap.size 0 (x.map bv)).heap.size):=Nat.le_trans aj.o.size I.o.size;go_wp2_with (at_builtin;refine wpList_append_lies _ rfl _ _ _ rfl w.heap.size 92 t (.agg (hv z8)) 8 8 Tryz.underlying66 HI.o HZ.o.1 HZ.o.2.1 HZ.o.2.2 rfl (by omega) (.slice ra q rc) q (zlm xs) rfl (au.o _) ⟨((H.alloc (.cells jo 92)).setCells H.heap.size 0 (x.map bv)).heap.size,0,none⟩ 1 1 [.int .u8 x0,.int .u8 x1,.int .u8 x2,.int .u8 x3,.int .u8 x4,.int .u8 x5,.int .u8 x6,.int .u8 x7] rfl rfl (World.news_of_block (heap_alloc_last _ _)) (by simp [Value.oneCell']) (by omega) (by unfold maxLen;omega) (by omega) (by have:=aN.o;simp;omega) (((H.alloc (.cells jo 92)).setCells H.heap.size 0 (x.map bv)).heap.size+1) (by simp) ?_;intro g bh w8 a7 a2 ac aY;have aJ:=za a7;have aF:=za a2;have aD:=za ac;clear a7 a2 ac aY);have al:Below H.heap.size H (((H.alloc (.cells jo 92)).setCells H.heap.size 0 (x.map bv)).alloc (.cells #[.int .u8 x0,.int .u8 x1,.int .u8 x2,.int .u8 x3,.int .u8 x4,.int .u8 x5,.int .u8 x6,.int .u8 x7] 92)):=I.o.alloc I.o.size _;have aP:=au.o (.cells #[.int .u8 x0,.int .u8 x1,.int .u8 x2,.int .u8 x3,.int .u8 x4,.int .u8 x5,.int .u8 x6,.int .u8 x7] 92);have bi:H.heap.size+1≤((H.alloc (.cells jo 92)).setCells H.heap.size 0 (x.map bv)).heap.size+1:=by have:=I.o.size;omega
    go_roundw
    case rel =>
     have L:=aF.o;have ac:=aD.o;generalize hV:((H.alloc (.cells jo 92)).setCells H.heap.size 0 (x.map bv)).alloc (.cells #[.int .u8 x0,.int .u8 x1,.int .u8 x2,.int .u8 x3,.int .u8 x4,.int .u8 x5,.int .u8 x6,.int .u8 x7] 92)=V7 at *
     have ad:=qf HO.o;have aS:=HH.o.base.size;have aR:zg (fun b=>(Value.slice ra q rc).ownBlock=some b) [92] V7 w8:=(zg.refl (fun b=>(Value.slice ra q rc).ownBlock=some b) [92] V7).grown aP L (fun g hg=> .inl hg) (by simp);have aV:=(ah.o.below al).asideN aR (fun b E=>⟨Nat.le_trans aS (ad b E),fun hO=>by
       have:=HH.o.lt b (.inl hO);have:=ad b E;omega,ar.o b E,fun hO=>by
       have:=HH.o.lt b (.inr (.inr hO));have:=ad b E;omega⟩) (by decide)
     have aQ:zg (fun b=>O b∨A b) qT w w8:=by
      have h7:=aj.o.then_below al;refine⟨L.os.trans h7.os,L.tape.trans h7.tape,L.output.trans h7.output,Nat.le_trans h7.size L.size,fun j hj=>?_⟩;rw [L.block j (Nat.lt_of_lt_of_le hj h7.size) (fun e=>by have:=ad j e.symm;omega)];exact h7.block j hj
     refine⟨q+1,Ext W W1 H,Y,xs++[x],by omega,by go_num,⟨_,_,rfl⟩,aQ,⟨Z.o.1,fun b E=>(Z.o.2 b E).imp id (fun h=>⟨h.1,Nat.lt_of_lt_of_le h.2 (Nat.le_trans al.size L.size)⟩)⟩,by rw [aq.o];exact aV,?_,?_,by simp [ak.o],?_,aK.o x Y rfl⟩
     ·unfold zbl;rw [z1w,HX.o,List.length_append,List.length_singleton,ak.o];exact aJ.o
     ·intro g' a1;simp only [Value.ownBlock,Option.some.injEq] at a1;subst a1;rcases ac with h1 | h1
      ·exact ar.o _ h1
      ·rintro(E | E)
       ·have:=ah.o.lt _ (.inr (.inl (.inl E)));omega
       ·omega
     ·intro p hp;rcases List.mem_append.1 hp with hp | hp
      ·exact ax.o p hp
      ·rw [List.mem_singleton.1 hp];exact aM.o
    case measure=>simp [intOf];omega
   ·obtain⟨bc,ag,R⟩:=HG.o xf rfl;have I:=za R;have aE:Hid (((H.alloc (.cells jo 92)).setCells H.heap.size 0 (xf.map bv)).heap[g]?=some (.cells #[txv p,j4 aa 5] 141 (0,0))):=(R.block _ (zb am)).trans am;clear ag R HG am;unfold qq;go_wp2_with fail;go_ret2;rw [aL.o _ _ rfl];exact⟨aj.o.then_below I.o,HH.o.all ((ah.o.below I.o).less (by have:=aq.o;omega)) ⟨Z.o.1,fun b E=>(Z.o.2 b E).imp id (fun h=>⟨h.1,Nat.lt_of_lt_of_le h.2 I.o.size⟩)⟩,.inr ⟨p,g,rfl,aE.o,rfl⟩⟩
  ·obtain rfl:q=D.length:=by omega
   have hd:D.drop D.length=[]:=List.drop_length;rw [hd] at hM ae;go_wp2_with fail;go_ret2;have aO:yh (zu d.fs) K size m D=(.inr xs,X):=by
    rw [hM,yh];simp [zbb]
   rw [aO];refine⟨HT.o,HH.o.all ((ae.less (by simp))) HA.o,.inl ⟨xs,_,rfl,HO.o,ax.o,rfl⟩⟩
end
end Go.Proofs.YtndkblnpbjffhaaGreatDoor
