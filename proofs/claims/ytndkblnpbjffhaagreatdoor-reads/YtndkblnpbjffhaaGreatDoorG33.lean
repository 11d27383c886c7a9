import Derived.Test.YtndkblnpbjffhaaGreatDoorG31
import Derived.Test.YtndkblnpbjffhaaGreatDoorG32
set_option maxHeartbeats 2000000
set_option maxRecDepth 100000
open Go.RowKit
namespace Go.Proofs.YtndkblnpbjffhaaGreatDoor
section
attribute [local go_sem ↓] yv yl yy yo yj ym yx yk zha
theorem zdq.below {W w:World}(h:zdq W)(r:Below W.heap.size W w):zdq w:=fun j A=>by
 have:=h j A;rw [r.cell (p:=⟨_,j,none⟩) (zk this)];exact this
def zyg (A:Nat→Addr)(w':World)(o:Sum (List UInt8) (List UInt8))(r:Ending):Prop :=
 (∃ h,o= .inr h∧h.length=8∧r= .returned (.tuple #[.agg (hv h),.nilIface])) ∨
 (∃ p g,o= .inl p∧w'.heap[g]?=some (.cells #[txv p,j4 A 5] 141 (0,0))∧r= .returned (.tuple #[.agg (hv xf),qq g]))
theorem CS.less {D w:World}{O A r:Nat→Prop}{cb I E J nm:Nat}{C:Array Value}{d:Dk}{room:Int}{K:Mm}{m:Ms Nt}{k H:Nat}(h:CS D w O A r cb I E J nm C d room K m k)(L:H≤k):CS D w O A r cb I E J nm C d room K m H :=
 ⟨h.base,h.own,h.apart,h.lt,h.disk,h.net,h.st,by have:=h.few;omega,h.cli,h.cells,h.prv,h.away,h.nee,by have:=h.short;omega⟩
theorem CS.below {I w w':World}{O A H:Nat→Prop}{cb K J L nm:Nat}{C:Array Value}{d:Dk}{room:Int}{Q:Mm}{m:Ms Nt}{k:Nat}(h:CS I w O A H cb K J L nm C d room Q m k)(r:Below w.heap.size w w'):CS I w' O A H cb K J L nm C d room Q m k:=by
 have D:zg (fun _=>False) [] w w':= .of_below r;exact⟨h.base.trans (r.mono h.base.size),h.own,h.apart,fun b E=>Nat.lt_of_lt_of_le (h.lt b E) r.size,h.disk.stay D (by simp) (by simp),h.net.below r,h.st,h.few,D.keep h.cli (by simp),h.cells,h.prv.stay D (fun _ _ h=>h) (by simp) (fun _ h=>h),h.away,h.nee.stay D (fun _ _ h=>h) (by simp) (by simp) (fun _ h=>h),h.short⟩
theorem CS.mono {J w:World}{O A H I:Nat→Prop}{cb L K Q nm:Nat}{C:Array Value}{d:Dk}{room:Int}{R:Mm}{m:Ms Nt}{k:Nat}(h:CS J w O A I cb L K Q nm C d room R m k)(h1:∀ b,A b→H b)(h2:∀ b,H b→A b∨(J.heap.size≤b∧b < w.heap.size∧¬ O b∧¬ I b)):CS J w O H I cb L K Q nm C d room R m k:=by
 refine⟨h.base,?_,?_,?_,h.disk,h.net,h.st,h.few,h.cli,h.cells,h.prv,?_,?_,h.short⟩
 ·rintro b (r | r)
  ·exact h.own b (.inl r)
  ·rcases h2 b r with r | r
   ·exact h.own b (.inr r)
   ·exact r.1
 ·intro b E D;rcases h2 b D with r | r
  ·exact h.apart b E r
  ·exact r.2.2.1 E
 ·rintro b (r | r | r)
  ·exact h.lt b (.inl r)
  ·rcases h2 b r with r | r
   ·exact h.lt b (.inr (.inl r))
   ·exact r.2.1
  ·exact h.lt b (.inr (.inr r))
 ·rintro b r (E | D)
  ·exact h.away b r (.inl E)
  ·rcases h2 b D with D | D
   ·exact h.away b r (.inr D)
   ·exact D.2.2.2 r
 ·obtain⟨S,U,V,W⟩:=h.nee;refine⟨S,U.below (Below.refl _ _) h1,V.mono fun a _ b hr=>⟨hr.1,?_⟩,W⟩;obtain⟨fb,xs,e,X,Y⟩:=hr.2;exact⟨fb,xs,e,h1 _ X,Y⟩
theorem zna {w:World}{b:Nat}{x:Px}(h:w.heap[b]?=some (.cells x.cs.toArray jb (0,0))):w.rangeAt b 2 (x.hash.map bv):=by
 have hr:=y9 h;intro j v hv;have r:j < (x.hash.map bv).length:=(List.getElem?_eq_some_iff.1 hv).1;have:=hr (2+j) v (by
  unfold Px.cs;rw [show 2+j=j+1+1 by omega,List.getElem?_cons_succ,List.getElem?_cons_succ,List.getElem?_append_left (by simpa using r)];exact hv)
 rw [Nat.zero_add] at this;exact this
theorem CS.aside {I w w':World}{O A H:Nat→Prop}{cb L J Q nm:Nat}{C:Array Value}{d:Dk}{room:Int}{R:Mm}{m:Ms Nt}{k x:Nat}{T:List Nat}(h:CS I w O A H cb L J Q nm C d room R m k)(E:zg (fun b=>b=x) T w w')(S:I.heap.size≤x)(K:¬ O x∧¬ A x∧¬ H x)
  (r:∀ t∈[64,51,76,378,3,qh,5,zt],t∉T):CS I w' O A H cb L J Q nm C d room R m k:=by
 refine⟨h.base.trans (E.below (fun b D=>by rw [D];exact S) h.base.size),h.own,h.apart,fun b D=>Nat.lt_of_lt_of_le (h.lt b D) E.size,h.disk.stay E (r _ (by simp)) (r _ (by simp)),h.net.turn E (r _ (by simp)) (r _ (by simp)) (r _ (by simp)),h.st,h.few,E.keep h.cli (r _ (by simp)),h.cells,h.prv.stay E (fun b D e=>?_) (r _ (by simp)) (fun _ h=>h),h.away,h.nee.stay E (fun b D e=>?_) (r _ (by simp)) (r _ (by simp)) (fun _ h=>h),h.short⟩
 ·subst e;exact K.2.2 D
 ·subst e;exact K.2.1 D
theorem zi4 {Q w R L V:World}{O A J:Nat→Prop}{cb Z S pm nm:Nat}{C:Array Value}{d:Dk}{room:Int}{pr:Mm}{m m1:Ms Nt}{k k0:Nat}(h0:CS Q w O A J cb Z S pm nm C d room pr m k0)(ae:w.heap.size+1 < R.heap.size)(X:CS Q L O (Ext A R L) J cb Z S pm nm C d room pr m1 k)(W:Below w.heap.size w R)(K:Below L.heap.size L V)(hT:zg (fun b=>O b∨A b) qT w V)
  (E:V.heap[w.heap.size+1]?=some (.cells (hv xf) 92 (0,0))) (r:List UInt8) (h8:r.length=8) :
  (zdk (.pointer (some ⟨w.heap.size+1,0,none⟩)) (.agg (hv r))).run Tryz.prog V= .ok () (V.setCells (w.heap.size+1) 0 (r.map bv))∧(V.setCells (w.heap.size+1) 0 (r.map bv)).heap[w.heap.size+1]?=some (.cells (hv r) 92 (0,0))∧zg (fun b=>O b∨A b) qT w (V.setCells (w.heap.size+1) 0 (r.map bv))∧CS Q (V.setCells (w.heap.size+1) 0 (r.map bv)) O (Ext A w (V.setCells (w.heap.size+1) 0 (r.map bv))) J cb Z S pm nm C d room pr m1 k∧zg (fun b=>b=w.heap.size+1) [92] V (V.setCells (w.heap.size+1) 0 (r.map bv)):=by
 have hv8:(V.setCells (w.heap.size+1) 0 (r.map bv)).heap[w.heap.size+1]?=some (.cells (hv r) 92 (0,0)):=ji (cs:=xf.map bv) E (ds:=r.map bv) (by simp [h8,xf]);have I:zg (fun b=>b=w.heap.size+1) [92] V (V.setCells (w.heap.size+1) 0 (r.map bv)):=(zg.refl (fun b=>b=w.heap.size+1) [92] V).setCells (.inl rfl) E (by simp) _ _;have ad:(V.setCells (w.heap.size+1) 0 (r.map bv)).heap.size=V.heap.size:=vh _ _;have ac:=zb E;have s1:=W.size;have s2:=K.size;refine⟨zbe (by have:=qw (cs:=xf.map bv) E;simpa [xf] using this) h8,hv8,hT.setCellsNew (Nat.le_succ _) _ _,?_,I⟩;have Y:=X.below K;generalize V.setCells (w.heap.size+1) 0 (r.map bv)=V' at *
 have aa:=h0.base.size;have H:∀ b,O b∨A b∨J b→b≠w.heap.size+1:=fun b K e=>by have:=h0.lt b K;omega
 have h5:=Y.aside I (by omega) ⟨fun h=>H _ (.inl h) rfl,fun h=>by
  rcases h with h | h
  ·exact H _ (.inr (.inl h)) rfl
  ·omega,fun h=>H _ (.inr (.inr h)) rfl⟩ (by decide)
 refine h5.mono ?_ ?_
 ·rintro b (D | D)
  ·exact .inl D
  ·exact .inr ⟨by omega,by omega⟩
 ·rintro b (D | D)
  ·exact .inl (.inl D)
  ·refine .inr ⟨by omega,by omega,fun U=>?_,fun U=>?_⟩
   ·have:=h0.lt b (.inl U);omega
   ·have:=h0.lt b (.inr (.inr U));omega
abbrev spV (a n:Nat):Value:= .agg #[.int .i64 a,.int .i64 n]
theorem z1p (S:World)(Q:Nat→Addr)(O A OP:Nat→Prop)(cb nb db pm nm:Nat)(C:Array Value)(d:Dk)(room:Int)(H:Mm)(m:Ms Nt)(k size a n f:Nat)(aE:size < 9223372036854775808)(hl:a+n≤size)(h1:1≤n)(he:n / 4 ^ lvl n=1)(w:World)(hE:Env S)(hS:ja S Q)(aq:zdq S)
  (h:CS S w O A OP cb nb db pm nm C d room H m (k+1)) :
  Calls Tryz.prog 134 #[zo cb,.int .i64 size,spV a n] w fun r w' =>
   zg (fun b=>O b∨A b) qT w w'∧CS S w' O (Ext A w w') OP cb nb db pm nm C d room H (xn (zu d.fs) H size (f+1) m a n).2 k∧zyg Q w' (xn (zu d.fs) H size (f+1) m a n).1 r:=by
 obtain⟨-,aH,ax⟩:=zcg n h1 (by omega);have hj:=zlv a n (lvl n) size hl (ax.1 he);have HJ:=za hj;have ar:yd ((lvl n:Nat):Int) n=1:=by unfold yd;rw [Int.toNat_natCast];exact he
 have au:yd ((lvl n:Nat):Int) a=a / 4 ^ lvl n:=by unfold yd;rw [Int.toNat_natCast]
 have a1:=za ar;have a2:=za au;have al:=za (fun w (hT:zdq w)=>zvr n (by omega) (by omega) w hT);have hq:((Lib.ctz 64 n:Nat):Int) / 2=((lvl n:Nat):Int):=by unfold lvl;omega
 have HQ:=za hq;have aF:IntKind.u64.wrap (n:Int)=(n:Int):=by
  have h1:(n:Int) < 18446744073709551616:=by omega
  have h0:0≤(n:Int):=by omega
  simp [IntKind.wrap,IntKind.bits,IntKind.signed];omega
 have W:=za (fun(x:Nat) (hx:x < 9223372036854775808) w=>zdw ((lvl n:Nat):Int) (by omega) (by omega) x hx w);have ag:=za (fun w' (h':CS S w' O A OP cb nb db pm nm C d room H m (k+1))=>zso S Q O A OP cb nb db pm nm C d room H m k size ((lvl n:Nat):Int) (a / 4 ^ lvl n) aE (by omega) (by omega) hj w' hE hS h');have HH:=za h;have HE:=za hE;have HS:=za hS;have a8:=za aq;have aj:Hid (∀ o m1,qu (zu d.fs) H size m ((lvl n:Nat):Int) (a / 4 ^ lvl n)=(o,m1)→xn (zu d.fs) H size (f+1) m a n=(match o with
  | .inl e=>(.inl e,m1)
  | .inr c=>(.inr c.hash,m1))):=by
  intro o m1 e;cases o with
  | inl p=>exact zin he e
  | inr c=>exact zky he e
 have HN:Hid (n < 9223372036854775808∧a < 9223372036854775808):=⟨by omega,by omega⟩
 clear h hE hS aq hj ar au he ax hl hq;generalize hL:lvl n=L at *
 clear hL;generalize a / 4 ^ L=J at *
 generalize Lib.ctz 64 n=Z at *
 unfold spV zo;go_enter Tryz.func134,Tryz.ntmps134;go_wp2_with fail;have an:Below w.heap.size w ((w.alloc (.cells #[.int .i64 a,.int .i64 n] 203)).alloc (.cells jo 92)):=zz w _ _;have ap:((w.alloc (.cells #[.int .i64 a,.int .i64 n] 203)).alloc (.cells jo 92)).heap[w.heap.size]?=some (.cells #[.int .i64 a,.int .i64 n] 203 (0,0)):=zc (heap_alloc_last _ _);have ao:((w.alloc (.cells #[.int .i64 a,.int .i64 n] 203)).alloc (.cells jo 92)).heap[w.heap.size+1]?=some (.cells (hv xf) 92 (0,0)):=by
  have:=heap_alloc_last (w.alloc (.cells #[.int .i64 a,.int .i64 n] 203)) (.cells jo 92);rw [show(w.alloc (.cells #[.int .i64 a,.int .i64 n] 203)).heap.size=w.heap.size+1 by simp] at this;exact this
 have U:=za an;have ak:=za ap;have ah:=za ao;clear aF an ap ao;generalize (w.alloc (.cells #[.int .i64 a,.int .i64 n] 203)).alloc (.cells jo 92)=W1 at *
 have af:=za (HH.o.below U.o);refine(al.o W1 (a8.o.below af.o.base)).mono ?_;rintro r w1 ⟨rfl,rfl⟩;obtain⟨q0,-⟩:=zf ak.o 0 _ rfl;obtain⟨q1,-⟩:=zf ak.o 1 _ rfl;simp only [List.getElem_toArray,List.getElem_cons_zero,List.getElem_cons_succ] at q0 q1;have aG:wrap64 (L:Int)=(L:Int):=by unfold wrap64;omega
 go_wp2_with fail;rw [HQ.o,aG];refine(W.o n HN.o.1 w1).mono ?_;rintro r w2 ⟨rfl,rfl⟩;rw [a1.o];go_wp2_with fail;refine(W.o a HN.o.2 w2).mono ?_;rintro r w3 ⟨rfl,rfl⟩;rw [a2.o];go_wp2_with fail;have ac:=za (ag.o w3 af.o);unfold zo at ac;refine ac.o.mono ?_;rintro r D ⟨ae,av,aB⟩;have a7:=za ae;have a3:=za av;have az:D.heap[w.heap.size+1]?=some (.cells (hv xf) 92 (0,0)):=ae.keep ah.o (by decide);have ai:=za az;have HM:=za (aj.o (qu (zu d.fs) H size m (L:Int) J).1 (qu (zu d.fs) H size m (L:Int) J).2 rfl);have a6:Hid (w.heap.size+1 < w3.heap.size):=zb ah.o;clear ae av az q0 q1 ac ag aj al W;generalize qu (zu d.fs) H size m (L:Int) J=NM at *
 obtain⟨o,m1⟩:=NM;simp only at *
 have HG:Hid (∀ x:Px,x.ok→(zhj (.pointer (some ⟨D.heap.size,0,none⟩)) (.agg x.cs.toArray)).run Tryz.prog (D.alloc (.cells zby jb))= .ok () ((D.alloc (.cells zby jb)).setCells D.heap.size 0 x.cs)∧(zaf (.pointer (some ⟨D.heap.size,2,none⟩))).run Tryz.prog ((D.alloc (.cells zby jb)).setCells D.heap.size 0 x.cs)= .ok (.agg (hv x.hash)) ((D.alloc (.cells zby jb)).setCells D.heap.size 0 x.cs)∧Below D.heap.size D ((D.alloc (.cells zby jb)).setCells D.heap.size 0 x.cs)):=by
  intro x hx;have aw:(D.alloc (.cells zby jb)).heap[D.heap.size]?=some (.cells Px.no.cs.toArray jb (0,0)):=heap_alloc_last _ _;have aA:=ji aw (ds:=x.cs) (by rw [Px.cs_len hx,Px.cs_len Px.no_ok]);refine⟨zb2 (qw aw) (Px.cs_len hx) (Px.cs_one hx),qr (zna aA) hx.1,zr (ze _ _) (Nat.le_refl _) _ _⟩
 have K:Hid (∀(V:World) (I:List UInt8),I.length=8→Below D.heap.size D V→(zdk (.pointer (some ⟨w.heap.size+1,0,none⟩)) (.agg (hv I))).run Tryz.prog V= .ok () (V.setCells (w.heap.size+1) 0 (I.map bv))∧(V.setCells (w.heap.size+1) 0 (I.map bv)).heap[w.heap.size+1]?=some (.cells (hv I) 92 (0,0))∧zg (fun b=>O b∨A b) qT w (V.setCells (w.heap.size+1) 0 (I.map bv))∧CS S (V.setCells (w.heap.size+1) 0 (I.map bv)) O (Ext A w (V.setCells (w.heap.size+1) 0 (I.map bv))) OP cb nb db pm nm C d room H m1 k∧zg (fun b=>b=w.heap.size+1) [92] V (V.setCells (w.heap.size+1) 0 (I.map bv))):=by
  intro V I h8 hb;have aC:V.heap[w.heap.size+1]?=some (.cells (hv xf) 92 (0,0)):=(hb.block _ (zb ai.o)).trans ai.o;have hT:zg (fun b=>O b∨A b) qT w V:=((zg.of_below U.o).trans (a7.o.mono (fun _ h=> .inl h) (fun _ h=>h))).then_below hb;exact zi4 HH.o a6.o a3.o U.o hb hT aC I h8
 rcases aB with ⟨x,c,rfl,R,a0,rfl⟩ | ⟨p,g,rfl,ad,rfl⟩
 ·obtain⟨aD,ay,E⟩:=HG.o x R;obtain⟨e1,e2,e3,e4,e5⟩:=K.o _ x.hash R.1 E;have am:=za R;have a9:=za a0.hash;have X:=za e2;have Y:=za e3;have aa:=za e4;clear e2 e3 e4 e5 R a0 E HG K;go_wp2_with fail;refine bodyPost_ret (v:= .tuple #[.agg (hv x.hash),.nilIface]) (zv Tryz.results134 _ _ (w.heap.size+1) 92 _ (0,0) _ rfl X.o Tryz.underlying92 rfl (by rw [zfz,qm,am.o.1]) _ rfl) rfl ?_;rw [HM.o];exact⟨Y.o,aa.o,.inl ⟨x.hash,by rw [a9.o],am.o.1,rfl⟩⟩
 ·obtain⟨aD,ay,E⟩:=HG.o .no Px.no_ok;obtain⟨e1,e2,e3,e4,e5⟩:=K.o _ xf rfl E;have a5:Hid (((D.alloc (.cells zby jb)).setCells D.heap.size 0 Px.no.cs).heap[g]?=some (.cells #[txv p,j4 Q 5] 141 (0,0))):=(E.block _ (zb ad)).trans ad;have X:=za e2;have Y:=za e3;have aa:=za e4;have a4:=za e5;rw [show Px.no.hash=xf from rfl] at ay;clear e2 e3 e4 e5 ad E HG K;unfold qq;go_wp2_with fail;refine bodyPost_ret (v:= .tuple #[.agg (hv xf),qq g]) (zv Tryz.results134 _ _ (w.heap.size+1) 92 _ (0,0) _ rfl X.o Tryz.underlying92 rfl (by rw [zfz];rfl) _ rfl) rfl ?_;rw [HM.o];exact⟨Y.o,aa.o,.inr ⟨p,g,rfl,a4.o.keep a5.o (by decide),rfl⟩⟩
end
section
attribute [local go_sem ↓] yv yl yy yo yj ym yx yk zha
abbrev z2s (H:World)(D:Nat→Addr)(O E:Nat→Prop)(cb J I K nm:Nat)(C:Array Value)(d:Dk)(room:Int)(h:Mm)(size f:Nat):Prop :=
 ∀(A:Nat→Prop) (m:Ms Nt) (k a n:Nat) (w:World),a+n≤size→1≤n→n≤2 ^ f→CS H w O A E cb J I K nm C d room h m ((yf size (f+1) a n).length+k) →
  Calls Tryz.prog 134 #[zo cb,.int .i64 size,spV a n] w fun r w' =>
   zg (fun b=>O b∨A b) qT w w'∧CS H w' O (Ext A w w') E cb J I K nm C d room h (xn (zu d.fs) h size (f+1) m a n).2 k∧zyg D w' (xn (zu d.fs) h size (f+1) m a n).1 r
theorem zz5 (W0:World)(ah:Nat→Addr)(O OP:Nat→Prop)(cb nb db pm nm:Nat)(C:Array Value)(d:Dk)(room:Int)(E:Mm)(size f:Nat)(bo:size < 9223372036854775808)(aL:zdq W0)(ih:z2s W0 ah O OP cb nb db pm nm C d room E size f)
  (A:Nat→Prop) (m:Ms Nt) (k a n:Nat) (w:World) (hl:a+n≤size) (a1:2≤n) (hn:n≤2 ^ (f+1)) (he:¬ n / 4 ^ lvl n=1) (h:CS W0 w O A OP cb nb db pm nm C d room E m ((yf size (f+2) a n).length+k)) :
  Calls Tryz.prog 134 #[zo cb,.int .i64 size,spV a n] w fun r w' =>
   zg (fun b=>O b∨A b) qT w w'∧CS W0 w' O (Ext A w w') OP cb nb db pm nm C d room E (xn (zu d.fs) E size (f+2) m a n).2 k∧zyg ah w' (xn (zu d.fs) E size (f+2) m a n).1 r:=by
 obtain⟨k1,k2,k3,k4,k5,k6⟩:=jm n f a1 hn;have aQ:(yf size (f+2) a n).length=(yf size (f+1) a (kOf n)).length+(yf size (f+1) (a+kOf n) (n - kOf n)).length:=by
  rw [yf,if_neg he,List.length_append]
 rw [aQ] at h;obtain⟨-,bl,bg⟩:=zcg n (by omega) (by omega);have aN:¬((yd ((lvl n:Nat):Int) n:Nat):Int)=1:=by unfold yd;rw [Int.toNat_natCast];omega
 have aE:=za (fun w (hT:zdq w)=>zvr n (by omega) (by omega) w hT);have a3:=za (fun(x:Nat) (hx:x < 9223372036854775808) w=>zdw ((lvl n:Nat):Int) (by omega) (by omega) x hx w);have HQ:Hid (((Lib.ctz 64 n:Nat):Int) / 2=((lvl n:Nat):Int)):=by show _=_;unfold lvl;omega
 have bj:IntKind.u64.wrap (n:Int)=(n:Int):=by
  have h1:(n:Int) < 18446744073709551616:=by omega
  have h0:0≤(n:Int):=by omega
  simp [IntKind.wrap,IntKind.bits,IntKind.signed];omega
 have av:=za (fun w=>zek a n w (by omega) a1);have aR:((a:Int)+(kOf n:Int))=((a+kOf n:Nat):Int):=by omega
 have aS:((n:Int) - (kOf n:Int))=((n - kOf n:Nat):Int):=by omega
 rw [aR,aS] at av;have HL:=za (fun w (h:CS W0 w O A OP cb nb db pm nm C d room E m ((yf size (f+1) a (kOf n)).length+(yf size (f+1) (a+kOf n) (n - kOf n)).length+k))=>ih A m ((yf size (f+1) (a+kOf n) (n - kOf n)).length+k) a (kOf n) w (by omega) k3 k1 (by rw [← Nat.add_assoc];exact h));have HR:=za (fun A' m' w (h:CS W0 w O A' OP cb nb db pm nm C d room E m' ((yf size (f+1) (a+kOf n) (n - kOf n)).length+k))=>ih A' m' k (a+kOf n) (n - kOf n) w (by omega) k4 k2 h);have a6:Hid (∀ e R,xn (zu d.fs) E size (f+1) m a (kOf n)=(.inl e,R)→xn (zu d.fs) E size (f+2) m a n=(.inl e,R)):=fun e R h=>zim he h;have a7:Hid (∀ x R e S,xn (zu d.fs) E size (f+1) m a (kOf n)=(.inr x,R)→xn (zu d.fs) E size (f+1) R (a+kOf n) (n - kOf n)=(.inl e,S)→xn (zu d.fs) E size (f+2) m a n=(.inl e,S)):=fun x R e S h h'=>zg7 he h h';have a8:Hid (∀ x R y S,xn (zu d.fs) E size (f+1) m a (kOf n)=(.inr x,R)→xn (zu d.fs) E size (f+1) R (a+kOf n) (n - kOf n)=(.inr y,S)→xn (zu d.fs) E size (f+2) m a n=(.inr (yz x y),S)):=fun x R y S h h'=>zkt he h h';have HH:=za h;have bb:=za aL;have HN:Hid (n < 9223372036854775808∧a < 9223372036854775808):=⟨by omega,by omega⟩
 have aV:=za aN;clear h aL aN he bg hl aR aS aQ ih k1 k2 k3 k4 k5 k6 hn a1;generalize hL:lvl n=L at *
 clear hL;generalize Lib.ctz 64 n=Z at *
 generalize (yf size (f+1) (a+kOf n) (n - kOf n)).length=lr at *
 generalize (yf size (f+1) a (kOf n)).length=ll at *
 generalize kOf n=K at *
 generalize a+K=B at *
 generalize n - K=M at *
 unfold spV zo;go_enter Tryz.func134,Tryz.ntmps134;go_wp2_with fail;have aH:Below w.heap.size w ((w.alloc (.cells #[.int .i64 a,.int .i64 n] 203)).alloc (.cells jo 92)):=zz w _ _;have aK:((w.alloc (.cells #[.int .i64 a,.int .i64 n] 203)).alloc (.cells jo 92)).heap[w.heap.size]?=some (.cells #[.int .i64 a,.int .i64 n] 203 (0,0)):=zc (heap_alloc_last _ _);have aJ:((w.alloc (.cells #[.int .i64 a,.int .i64 n] 203)).alloc (.cells jo 92)).heap[w.heap.size+1]?=some (.cells (hv xf) 92 (0,0)):=by
  have:=heap_alloc_last (w.alloc (.cells #[.int .i64 a,.int .i64 n] 203)) (.cells jo 92);rw [show(w.alloc (.cells #[.int .i64 a,.int .i64 n] 203)).heap.size=w.heap.size+1 by simp] at this;exact this
 have aq:=za aH;have aB:=za aK;have a9:=za aJ;clear bj aH aK aJ;generalize (w.alloc (.cells #[.int .i64 a,.int .i64 n] 203)).alloc (.cells jo 92)=W1 at *
 have aW:=za (HH.o.below aq.o);refine(aE.o W1 (bb.o.below aW.o.base)).mono ?_;rintro r w1 ⟨rfl,rfl⟩;obtain⟨q0,-⟩:=zf aB.o 0 _ rfl;obtain⟨q1,-⟩:=zf aB.o 1 _ rfl;simp only [List.getElem_toArray,List.getElem_cons_zero,List.getElem_cons_succ] at q0 q1;have aU:wrap64 (L:Int)=(L:Int):=by unfold wrap64;omega
 go_wp2_with fail;rw [HQ.o,aU];refine(a3.o n HN.o.1 w1).mono ?_;rintro r w2 ⟨rfl,rfl⟩;generalize be:((yd (L:Int) n:Nat):Int)=cc at *
 have bf:(cc==1)=false:=by simpa using aV.o
 clear be aU;go_wp2_with fail;refine(av.o w2).mono ?_;rintro r w3 ⟨rfl,ai⟩;go_wp2_with fail;have aI:Below w.heap.size w ((w3.alloc (.cells #[.int .i64 a,.int .i64 K] 203)).alloc (.cells #[.int .i64 B,.int .i64 M] 203)):=aq.o.trans ((ai.trans ((zz w3 _ _).mono ai.size)).mono aq.o.size);have ba:Hid (((w3.alloc (.cells #[.int .i64 a,.int .i64 K] 203)).alloc (.cells #[.int .i64 B,.int .i64 M] 203)).heap[w3.heap.size+1]?=some (.cells #[.int .i64 B,.int .i64 M] 203 (0,0))):=by
  have:=heap_alloc_last (w3.alloc (.cells #[.int .i64 a,.int .i64 K] 203)) (.cells #[.int .i64 B,.int .i64 M] 203);rw [show(w3.alloc (.cells #[.int .i64 a,.int .i64 K] 203)).heap.size=w3.heap.size+1 by simp] at this;exact this
 have aA:Hid (((w3.alloc (.cells #[.int .i64 a,.int .i64 K] 203)).alloc (.cells #[.int .i64 B,.int .i64 M] 203)).heap[w.heap.size+1]?=some (.cells (hv xf) 92 (0,0))):=zc (zc ((ai.block _ (zb a9.o)).trans a9.o));have U:=za aI;clear aI ai q0 q1;generalize (w3.alloc (.cells #[.int .i64 a,.int .i64 K] 203)).alloc (.cells #[.int .i64 B,.int .i64 M] 203)=W4 at *
 generalize w3.heap.size=sb at *
 have aw:=za (HL.o W4 (HH.o.below U.o));unfold spV zo at aw;refine aw.o.mono ?_;rintro r H ⟨ao,aO,bh⟩;have az:Hid (w.heap.size+1 < W4.heap.size):=zb aA.o;have ay:=za ao;have a4:=za aO;have af:Hid (H.heap[w.heap.size+1]?=some (.cells (hv xf) 92 (0,0))):=ao.keep aA.o (by decide);have aC:Hid (H.heap[sb+1]?=some (.cells #[.int .i64 B,.int .i64 M] 203 (0,0))):=ao.keep ba.o (by decide);clear ao aO aw HL aE a3 av bf;generalize xn (zu d.fs) E size (f+1) m a K=ML at *
 obtain⟨o1,R⟩:=ML;simp only at *
 have HG:Hid (∀ x:List UInt8,x.length=8→(zdk (.pointer (some ⟨H.heap.size,0,none⟩)) (.agg (hv x))).run Tryz.prog (H.alloc (.cells jo 92))= .ok () ((H.alloc (.cells jo 92)).setCells H.heap.size 0 (x.map bv))∧((H.alloc (.cells jo 92)).setCells H.heap.size 0 (x.map bv)).heap[H.heap.size]?=some (.cells (hv x) 92 (0,0))∧Below H.heap.size H ((H.alloc (.cells jo 92)).setCells H.heap.size 0 (x.map bv))):=by
  intro x hx;have ad:(H.alloc (.cells jo 92)).heap[H.heap.size]?=some (.cells (xf.map bv).toArray 92 (0,0)):=heap_alloc_last _ _;have a0:=ji ad (ds:=x.map bv) (by simp [hx,xf]);exact⟨zbe (by have:=qw ad;simpa [xf] using this) hx,a0,zr (ze _ _) (Nat.le_refl _) _ _⟩
 rcases bh with ⟨x,rfl,X,rfl⟩ | ⟨p,g,rfl,V,rfl⟩
 ·obtain⟨an,ak,J⟩:=HG.o x X;have aX:=za ak;have W:=za J;have aG:=za X;have am:=(J.block _ (zb aC.o)).trans aC.o;have bk:=za am;obtain⟨q0,-⟩:=zf am 0 _ rfl;obtain⟨q1,-⟩:=zf am 1 _ rfl;simp only [List.getElem_toArray,List.getElem_cons_zero,List.getElem_cons_succ] at q0 q1;clear ak J am HG X;go_wp2_with fail;generalize (H.alloc (.cells jo 92)).setCells H.heap.size 0 (x.map bv)=V6 at *
  have aY:Hid (∀ e S,xn (zu d.fs) E size (f+1) R B M=(.inl e,S)→xn (zu d.fs) E size (f+2) m a n=(.inl e,S)):=fun e S h'=>a7.o x R e S rfl h';have aZ:Hid (∀ y S,xn (zu d.fs) E size (f+1) R B M=(.inr y,S)→xn (zu d.fs) E size (f+2) m a n=(.inr (yz x y),S)):=fun y S h'=>a8.o x R y S rfl h';have ax:=za (HR.o _ R V6 (a4.o.below W.o));unfold spV zo at ax;refine ax.o.mono ?_;rintro r D ⟨ae,aP,bi⟩;have aF:Hid (D.heap[H.heap.size]?=some (.cells (hv x) 92 (0,0))):=ae.keep aX.o (by decide);have ag:Hid (D.heap[w.heap.size+1]?=some (.cells (hv xf) 92 (0,0))):=ae.keep ((W.o.block _ (zb af.o)).trans af.o) (by decide);have aD:Hid (zg (fun b=>O b∨A b) qT w D):=(((zg.of_below U.o).trans (ay.o.mono (fun _ h=> .inl h) (fun _ h=>h))).then_below W.o).trans (ae.mono (fun b I=>by
   rcases I with I | I | I
   ·exact .inl (.inl I)
   ·exact .inl (.inr I)
   ·exact .inr ⟨by have:=U.o.size;omega,Nat.lt_of_lt_of_le I.2 W.o.size⟩) (fun _ h=>h))
  have a5:Hid (CS W0 D O (Ext A W4 D) OP cb nb db pm nm C d room E (xn (zu d.fs) E size (f+1) R B M).2 k):=aP.mono (fun b I=>by
   have s1:=W.o.size;have s2:=ae.size;rcases I with (I | I) | I
   ·exact .inl I
   ·exact .inr ⟨I.1,by omega⟩
   ·exact .inr ⟨by have:=ay.o.size;omega,I.2⟩) (fun b I=>by
   have s0:=HH.o.base.size;have s1:=U.o.size;rcases I with I | I
   ·exact .inl (.inl (.inl I))
   ·refine .inr ⟨by omega,I.2,fun hO=>?_,fun hO=>?_⟩
    ·have:=HH.o.lt b (.inl hO);omega
    ·have:=HH.o.lt b (.inr (.inr hO));omega)
  clear ae aP ax HR a6 a7 a8 q0 q1 an;generalize xn (zu d.fs) E size (f+1) R B M=MR at *
  obtain⟨o2,S⟩:=MR;simp only at *
  have HG:Hid (∀ y:List UInt8,y.length=8→(zdk (.pointer (some ⟨D.heap.size,0,none⟩)) (.agg (hv y))).run Tryz.prog (D.alloc (.cells jo 92))= .ok () ((D.alloc (.cells jo 92)).setCells D.heap.size 0 (y.map bv))∧((D.alloc (.cells jo 92)).setCells D.heap.size 0 (y.map bv)).heap[D.heap.size]?=some (.cells (hv y) 92 (0,0))∧Below D.heap.size D ((D.alloc (.cells jo 92)).setCells D.heap.size 0 (y.map bv))):=by
   intro y hy;have ad:(D.alloc (.cells jo 92)).heap[D.heap.size]?=some (.cells (xf.map bv).toArray 92 (0,0)):=heap_alloc_last _ _;have a0:=ji ad (ds:=y.map bv) (by simp [hy,xf]);exact⟨zbe (by have:=qw ad;simpa [xf] using this) hy,a0,zr (ze _ _) (Nat.le_refl _) _ _⟩
  rcases bi with ⟨y,rfl,ap,rfl⟩ | ⟨p,g,rfl,V,rfl⟩
  ·obtain⟨an,al,Q⟩:=HG.o y ap;have X:((D.alloc (.cells jo 92)).setCells D.heap.size 0 (y.map bv)).heap[H.heap.size]?=some (.cells (hv x) 92 (0,0)):=(Q.block _ (zb aF.o)).trans aF.o;have bm:=qr (y9 (cs:=x.map bv) X) aG.o;have bn:=qr (y9 (cs:=y.map bv) al) ap;have a2:=za Q;have bc:=za ap;clear al Q X HG ap;go_wp2_with fail;generalize (D.alloc (.cells jo 92)).setCells D.heap.size 0 (y.map bv)=V8 at *
   refine(zay x y V8 aG.o bc.o).mono ?_;rintro r w9 ⟨rfl,aM⟩;have aj:Below D.heap.size D w9:=a2.o.trans (aM.mono a2.o.size);obtain⟨e1,e2,e3,e4,e5⟩:=zi4 HH.o az.o a5.o U.o aj (aD.o.then_below aj) ((aj.block _ (zb ag.o)).trans ag.o) (yz x y) (ql x y);have Y:=za e2;have aa:=za e3;have ac:=za e4;clear e2 e3 e4 e5 aM aj;go_wp2_with fail;refine bodyPost_ret (v:= .tuple #[.agg (hv (yz x y)),.nilIface]) (zv Tryz.results134 _ _ (w.heap.size+1) 92 _ (0,0) _ rfl Y.o Tryz.underlying92 rfl (by rw [zfz,qm,ql]) _ rfl) rfl ?_;rw [aZ.o _ _ rfl];exact⟨aa.o,ac.o,.inl ⟨_,rfl,ql x y,rfl⟩⟩
  ·obtain⟨an,al,Q⟩:=HG.o xf rfl;obtain⟨e1,e2,e3,e4,e5⟩:=zi4 HH.o az.o a5.o U.o Q (aD.o.then_below Q) ((Q.block _ (zb ag.o)).trans ag.o) xf rfl;have au:Hid (((D.alloc (.cells jo 92)).setCells D.heap.size 0 (xf.map bv)).heap[g]?=some (.cells #[txv p,j4 ah 5] 141 (0,0))):=(Q.block _ (zb V)).trans V;have Y:=za e2;have aa:=za e3;have ac:=za e4;have ar:=za e5;have bd:=fun w0=>zkw w0;clear e2 e3 e4 e5 V al Q HG;unfold qq;go_wp2_with fail;refine bodyPost_ret (v:= .tuple #[.agg (hv xf),qq g]) (zv Tryz.results134 _ _ (w.heap.size+1) 92 _ (0,0) _ rfl Y.o Tryz.underlying92 rfl (by rw [zfz];rfl) _ rfl) rfl ?_;rw [aY.o _ _ rfl];exact⟨aa.o,ac.o,.inr ⟨p,g,rfl,ar.o.keep au.o (by decide),rfl⟩⟩
 ·obtain⟨an,ak,J⟩:=HG.o xf rfl;have W:=za J;have hT:zg (fun b=>O b∨A b) qT w ((H.alloc (.cells jo 92)).setCells H.heap.size 0 (xf.map bv)):=((zg.of_below U.o).trans (ay.o.mono (fun _ h=> .inl h) (fun _ h=>h))).then_below J;obtain⟨e1,e2,e3,e4,e5⟩:=zi4 HH.o az.o a4.o U.o J hT ((J.block _ (zb af.o)).trans af.o) xf rfl;have au:Hid (((H.alloc (.cells jo 92)).setCells H.heap.size 0 (xf.map bv)).heap[g]?=some (.cells #[txv p,j4 ah 5] 141 (0,0))):=(J.block _ (zb V)).trans V;have Y:=za e2;have aa:=za e3;have ac:=za (e4.less (Nat.le_add_left _ _));have ar:=za e5;have bd:=fun w0=>zkw w0;clear e2 e3 e4 e5 V ak J hT HG;unfold qq;go_wp2_with fail;refine bodyPost_ret (v:= .tuple #[.agg (hv xf),qq g]) (zv Tryz.results134 _ _ (w.heap.size+1) 92 _ (0,0) _ rfl Y.o Tryz.underlying92 rfl (by rw [zfz];rfl) _ rfl) rfl ?_;rw [a6.o _ _ rfl];exact⟨aa.o,ac.o,.inr ⟨p,g,rfl,ar.o.keep au.o (by decide),rfl⟩⟩
theorem z48 (E:World)(D:Nat→Addr)(O K:Nat→Prop)(cb S L U nm:Nat)(C:Array Value)(d:Dk)(room:Int)(H:Mm)(size:Nat)(R:size < 9223372036854775808)(W:Env E)(X:ja E D)(Q:zdq E):∀ f,z2s E D O K cb S L U nm C d room H size f:=by
 have base:∀(f:Nat) (A:Nat→Prop) (m:Ms Nt) (k a n:Nat) (w:World),a+n≤size→1≤n→n / 4 ^ lvl n=1→CS E w O A K cb S L U nm C d room H m ((yf size (f+1) a n).length+k) →
   Calls Tryz.prog 134 #[zo cb,.int .i64 size,spV a n] w fun r w' =>
    zg (fun b=>O b∨A b) qT w w'∧CS E w' O (Ext A w w') K cb S L U nm C d room H (xn (zu d.fs) H size (f+1) m a n).2 k∧zyg D w' (xn (zu d.fs) H size (f+1) m a n).1 r:=by
  intro f A m k a n w J h1 I h;rw [yf,if_pos I,List.length_singleton,Nat.add_comm] at h;exact z1p E D O A K cb S L U nm C d room H m k size a n f R J h1 I w W X Q h
 intro f
 induction f with
 | zero =>
  intro A m k a n w J h1 h2 h;obtain rfl:n=1:=by omega
  exact base 0 A m k a 1 w J (by omega) (by decide) h
 | succ f ih =>
  intro A m k a n w J h1 h2 h;by_cases I:n / 4 ^ lvl n=1
  ·exact base (f+1) A m k a n w J h1 I h
  ·have V:2≤n:=by
    rcases Nat.lt_or_ge n 2 with h | h
    ·exact absurd (by obtain rfl:n=1:=by omega
                      decide) I
    ·exact h
   exact zz5 E D O K cb S L U nm C d room H size f R Q ih A m k a n w J V h2 I h
end
end Go.Proofs.YtndkblnpbjffhaaGreatDoor
