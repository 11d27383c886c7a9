import Derived.Test.YtlcllcgngjhoaaaGreatDoorG32
set_option maxHeartbeats 8000000
set_option maxRecDepth 100000
set_option linter.all false
namespace Go.Proofs.YtlcllcgngjhoaaaGreatDoor
open Go.RowKit Go.Proofs.Tryz
variable {A A' N O OP:Nat→Prop}{B cb db k k0 nb nm pm s:Nat}{C:Array Value}{T:List Nat}{W0 w w':World}{d:Dk}{e:TypeId}{v:Value}{xs:List Value}
section
attribute [local go_sem ↓] jy jn j4 jo ji jh j3 jm
def z6h (a:Nat→Addr)(B:Nat)(c:World)(o:Sum (zc) (za))(r:Ending):Prop :=
 (∃ b x,o= .inr b∧zg1 B c x b∧(∀ p∈b,p.length=8)∧r= .returned (.tuple #[x,.nilIface])) ∨
 (∃ p g,o= .inl p∧c.heap[g]?=some (.cells #[qo p,zd2 a 5] 179 (0,0))∧r= .returned (.tuple #[.slice none 0 0,za7 g]))
def zeb (A a:Nat→Prop)(w c:World):Prop:=(∀ b,A b→a b)∧∀ b,a b→A b∨(w.heap.size≤b∧b < c.heap.size)
theorem CS.asideN {c:Int}{j:Mm}{m:Ms Nt}(h:CS W0 w O A OP cb nb db pm nm C d c j m k)(g:zq N T w w')(i:∀ b,N b→W0.heap.size≤b∧¬ O b∧¬ A b∧¬ OP b)
 (a:∀ t∈[82,99,93,36,3,zbx,5,xg],t∉T):CS W0 w' O A OP cb nb db pm nm C d c j m k :=
 ⟨h.base.trans (g.below (fun b f=>(i b f).1) h.base.size),h.own,h.apart,fun b f=>zx (h.lt b f) g.size,h.disk.stay g (a _ (by simp)) (a _ (by simp)),h.net.turn g (a _ (by simp)) (a _ (by simp)) (a _ (by simp)),h.st,h.few,g.keep h.cli (a _ (by simp)),h.cells,h.prv.stay g (fun b f e=>(i b e).2.2.2 f) (a _ (by simp)) (fun _ h=>h),h.away,h.nee.stay g (fun b f e=>(i b e).2.2.1 f) (a _ (by simp)) (a _ (by simp)) (fun _ h=>h),h.short⟩
theorem CS.all {a:Int}{f:Mm}{m i:Ms Nt}(h0:CS W0 w O A OP cb nb db pm nm C d a f m k0)(h:CS W0 w' O A' OP cb nb db pm nm C d a f i k)(g:zeb A A' w w'):CS W0 w' O (jz A w w') OP cb nb db pm nm C d a f i k:=by
 refine h.mono (fun b c=>g.2 b c) (fun b c=>?_);have:=h0.base.size;rcases c with c | c
 ·exact .inl (g.1 b c)
 ·refine .inr ⟨by omega,c.2,fun e=>?_,fun e=>?_⟩
  ·have:=h0.lt b (.inl e);omega
  ·have:=h0.lt b (.inr (.inr e));omega
def zgo {σ:Type}(a:za):Sum (zc) (za)×Ms σ→Sum (zc) (za)×Ms σ
 | (.inl e,m)=>(.inl e,m)
 | (.inr b,m)=>(.inr (a++b),m)
theorem zye {σ:Type}(y:Sum (zc) (za)×Ms σ):zgo [] y=y:=by
 obtain⟨o,m⟩:=y;cases o<;>simp [zgo]
theorem z5a {σ:Type}{fe:σ→zc→(zc×Bool)×σ}{b:Mm}{a:Nat}{m c:Ms σ}{s:Nat×Nat}{r:List (Nat×Nat)}{x:zc}(d:za)(h:vm fe b a 64 m s.1 s.2=(.inr x,c)):zgo d (qx fe b a m (s::r))=zgo (d++[x]) (qx fe b a c r):=by
 rw [qx,h];simp only;cases qx fe b a c r with
 | mk o e=>cases o<;>simp [zgo]
theorem z5b {σ:Type}{fe:σ→zc→(zc×Bool)×σ}{c:Mm}{a:Nat}{m b:Ms σ}{s:Nat×Nat}{r:List (Nat×Nat)}{e:zc}(d:za)(h:vm fe c a 64 m s.1 s.2=(.inl e,b)):zgo d (qx fe c a m (s::r))=(.inl e,b):=by
 rw [qx,h]
 rfl
theorem ylt {n:Nat}(h:w.ownsRow B e s v n xs)(g:Nat)(a:v.ownBlock=some g):g < w.heap.size:=by
 rcases h.2 with ⟨rfl,_⟩ | ⟨f,b,c,rfl,i,d,_⟩
 ·simp [Value.ownBlock] at a
 ·simp only [Value.ownBlock,zr] at a;subst a;exact zi d
abbrev rPl (a:Nat)(b:List (Nat×Nat)):Nat:=(b.flatMap fun s=>xr a 64 s.1 s.2).length
theorem zzz (T:World)(U:Nat→Addr)(O A OP:Nat→Prop)(cb nb db pm nm:Nat)(C:Array Value)(d:Dk)(u:Int)(D:Mm)(m:Ms Nt)(k a:Nat)(a4:a < 9223372036854775808)(hE:Env T)(hS:zbz T U)(ar:zjx T)(v:Value)(c:List (Nat×Nat))(B:Nat)(w:World)(aj:zf4 B w v c)(ba:c.length≤1000)(az:∀ s∈c,s.1+s.2≤a∧1≤s.2)
 (h:CS T w O A OP cb nb db pm nm C d u D m (rPl a c+k)) :
  Calls prog 117 #[yx cb,.int .i64 a,v] w fun r w' =>
   zq (fun b=>O b∨A b) qT w w'∧CS T w' O (jz A w w') OP cb nb db pm nm C d u D (qx (yz d.fs) D a m c).2 k∧z6h U w.heap.size w' (qx (yz d.fs) D a m c).1 r:=by
 obtain⟨t,hi,ay⟩:=zz.1 yhb;obtain⟨aF,aG,aH⟩:t.zero=some (.agg (hv ql))∧t.size=8∧t.bytes=8:=by simpa using ay
 clear ay;have HI:=zf hi;have HZ:=zf (And.intro aF (And.intro aG aH));clear hi aF aG aH;have aM:=zf az;have HV:=zf aj;have HH:=zf h;have J:=zf (yjg T U O OP cb nb db pm nm C d u D a a4 hE hS ar 63);obtain⟨sa,aI,rfl,a9,a2⟩:=zxp aj;clear az h hE hS ar a2 aj;unfold yx;go_enter func117,ntmps117;go_wp2_with fail;go_loopw [8,15] (fun r i wr=>∃(q:Nat) (P:Nat→Prop) (Q:Ms Nt) (F:za),q≤c.length∧i= .int .i64 q∧(∃ ra rc,r= .slice ra q rc)∧zq (fun b=>O b∨A b) qT w wr∧zeb A P w wr∧CS T wr O P OP cb nb db pm nm C d u D Q (rPl a (c.drop q)+k)∧zg1 w.heap.size wr r F∧(∀ g,r.ownBlock=some g→¬ P g)∧F.length=q∧(∀ p∈F,p.length=8)∧qx (yz d.fs) D a m c=zgo F (qx (yz d.fs) D a Q (c.drop q))) (fun _ i _=>c.length - (intOf i).toNat)
 case atStart =>
  refine⟨0,A,m,[],yv _,rfl,⟨_,_,rfl⟩,zq.refl _ _ _,⟨fun _ h=>h,fun _ h=> .inl h⟩,HH.o,⟨rfl,.inl ⟨rfl,rfl⟩⟩,by simp [Value.ownBlock],rfl,by simp,?_⟩;rw [zye]
  rfl
 case round =>
  obtain⟨q,P,Q,F,hq,rfl,⟨ra,rc,rfl⟩,ht,hA,X,ho,aC,aE,z,hM⟩:=hrel;have HT:=zf ht;have HA:=zf hA;have ak:=zf X;have HO:=zf ho;have aN:=zf aC;have ag:=zf aE;have aq:=zf z;have HM:=zf hM
  by_cases M:q < c.length
  ·have a1:∃ sb,sa=some ⟨sb,0,none⟩∧wr.cell? ⟨sb,q*2,none⟩=some (.int .i64 (c[q].1:Int))∧wr.cell? ⟨sb,q*2+1,none⟩=some (.int .i64 (c[q].2:Int)):=by
    have a5:zf4 B wr (.slice sa c.length aI) c:=zo HV.o ht (by decide);obtain⟨a',c',e',-,h'⟩:=zxp a5;simp only [zbw] at e';obtain⟨rfl,-,rfl⟩:=e';rcases h' with h' | ⟨sb,rfl,hc⟩
    ·simp [h'] at M
    ·exact⟨sb,rfl,(hc q M).1,(hc q M).2⟩
   obtain⟨sb,rfl,s0,s1⟩:=a1;obtain⟨i1,i2⟩:=aM.o c[q] (yd M);have Y:c.drop q=c[q]::c.drop (q+1):=zie M;have aD:rPl a (c.drop q)+k=(xr a 64 c[q].1 c[q].2).length+(rPl a (c.drop (q+1))+k):=by
    unfold rPl;rw [Y,zd9,zy,zes]
   have aa:Hid (CS T wr O P OP cb nb db pm nm C d u D Q ((xr a 64 c[q].1 c[q].2).length+(rPl a (c.drop (q+1))+k))):=by
    have:=ak.o;rw [aD] at this;exact this
   have ao:Hid (∀ x R,vm (yz d.fs) D a 64 Q c[q].1 c[q].2=(.inr x,R)→qx (yz d.fs) D a m c=zgo (F++[x]) (qx (yz d.fs) D a R (c.drop (q+1)))):=fun x R e=>by
    rw [HM.o,Y];exact z5a F e
   have ap:Hid (∀ e R,vm (yz d.fs) D a 64 Q c[q].1 c[q].2=(.inl e,R)→qx (yz d.fs) D a m c=(.inl e,R)):=fun p R e=>by
    rw [HM.o,Y];exact z5b F e
   have an:=zf (fun w0 (au:CS T w0 O P OP cb nb db pm nm C d u D Q ((xr a 64 c[q].1 c[q].2).length+(rPl a (c.drop (q+1))+k)))=>J.o P Q (rPl a (c.drop (q+1))+k) c[q].1 c[q].2 w0 i1 i2 (by omega) au);clear ho ht hA X aC aE z hM Y aD i1 i2;generalize c[q].1=fa at *;generalize c[q].2=fn at *;generalize aA:rPl a (c.drop (q+1))+k=kr at *;have al:=zf aA;clear aA;generalize (xr a 64 fa fn).length=kl at *;have c6:(0:Int)≤(q:Int):=by omega
   have c7:(q:Int) < (c.length:Int):=by omega
   go_wp2_with fail;have G:Hid (Below wr.heap.size wr (wr.alloc (.cells #[.int .i64 (fa:Int),.int .i64 (fn:Int)] 228))):=zk wr _;generalize wr.alloc (.cells #[.int .i64 (fa:Int),.int .i64 (fn:Int)] 228)=W1 at *;have K:=zf (an.o W1 (aa.o.below G.o));unfold spV yx at K;refine K.o.mono ?_;rintro r l ⟨N,ad,a0⟩;have a7:=zf N;have I:=zf ad;have aO:Hid (zg1 w.heap.size l (.slice ra q rc) F):=zo (ym HO.o G.o) N (by decide);have af:Hid (zq (fun b=>O b∨A b) qT w l):=(HT.o.then_below G.o).trans (N.mono (fun b f=>by
    rcases f with f | f
    ·exact .inl (.inl f)
    ·rcases HA.o.2 b f with f | f
     ·exact .inl (.inr f)
     ·exact .inr ⟨f.1,zx f.2 G.o.size⟩) (fun _ h=>h))
   have S:Hid (zeb A (jz P W1 l) w l):=⟨fun b f=> .inl (HA.o.1 b f),fun b f=>by
    have g1:=G.o.size;have g2:=N.size;have g3:=HT.o.size;rcases f with f | f
    ·rcases HA.o.2 b f with f | f
     ·exact .inl f
     ·exact .inr ⟨f.1,by omega⟩
    ·exact .inr ⟨by omega,f.2⟩⟩
   have ab:Hid (∀ g,(Value.slice ra q rc).ownBlock=some g→¬ jz P W1 l g):=fun g hg f=>by
    rcases f with f | f
    ·exact aN.o g hg f
    ·have h1:=ylt HO.o g hg;have h2:=G.o.size;omega
   clear N ad an K s0 s1 aa ak J;generalize vm (yz d.fs) D a 64 Q fa fn=MR at *;obtain⟨o1,R⟩:=MR;simp only at *;have HG:Hid (∀ y:zc,y.length=8→(zj0 (.pointer (some ⟨l.heap.size,0,none⟩)) (.agg (hv y))).run prog (l.alloc (.cells zcf 110))= .ok () ((l.alloc (.cells zcf 110)).setCells l.heap.size 0 (y.map bv))∧((l.alloc (.cells zcf 110)).setCells l.heap.size 0 (y.map bv)).heap[l.heap.size]?=some (.cells (hv y) 110 (0,0))∧Below l.heap.size l ((l.alloc (.cells zcf 110)).setCells l.heap.size 0 (y.map bv))):=by
    intro y hy;have aw:(l.alloc (.cells zcf 110)).heap[l.heap.size]?=some (.cells (vg.map bv).toArray 110 (0,0)):=zg _ _;have aY:=zb2 aw (ds:=y.map bv) (by simp [hy,vg]);exact⟨zgp (by have:=zb1 aw;simpa [vg] using this) hy,aY,xn (zk _ _) (zm _) _ _⟩
   rcases a0 with ⟨x,rfl,z,rfl⟩ | ⟨p,g,rfl,ai,rfl⟩
   ·obtain⟨a3,Z,H⟩:=HG.o x z;have aZ:=za5 (j6 (cs:=x.map bv) Z) z;obtain⟨x0,x1,x2,x3,x4,x5,x6,x7,hx⟩:=zsp x z;rw [hx] at aZ;have HX:=zf hx;have n:=zf H;have aQ:=zf z;clear Z H HG z hx;have am:Hid (∀ o,((((l.alloc (.cells zcf 110)).setCells l.heap.size 0 (x.map bv)).alloc o).ownsRow w.heap.size 110 8 (.slice ra q rc) q (zug F))):=fun o=>by
     have:=ym aO.o (n.o.alloc n.o.size o);unfold zg1 at this;rw [ag.o] at this;exact this
    have aR:Hid (w.heap.size≤((l.alloc (.cells zcf 110)).setCells l.heap.size 0 (x.map bv)).heap.size):=zu af.o.size n.o.size;go_wp2_with (at_builtin;refine zaa _ rfl _ _ _ rfl w.heap.size 110 t (.agg (hv ql)) 8 8 underlying100 HI.o HZ.o.1 HZ.o.2.1 HZ.o.2.2 rfl (by omega) (.slice ra q rc) q (zug F) rfl (am.o _) ⟨((l.alloc (.cells zcf 110)).setCells l.heap.size 0 (x.map bv)).heap.size,0,none⟩ 1 1 [.int .u8 x0,.int .u8 x1,.int .u8 x2,.int .u8 x3,.int .u8 x4,.int .u8 x5,.int .u8 x6,.int .u8 x7] rfl rfl (xj (zg _ _)) (by simp [Value.oneCell']) (by omega) (by unfold maxLen;omega) (by omega) (by have:=aR.o;simp;omega) (((l.alloc (.cells zcf 110)).setCells l.heap.size 0 (x.map bv)).heap.size+1) (by simp) ?_;intro g a6 w8 ae L V aB;have aP:=zf ae;have aL:=zf L;have aJ:=zf V;clear ae L V aB);have ah:Below l.heap.size l (((l.alloc (.cells zcf 110)).setCells l.heap.size 0 (x.map bv)).alloc (.cells #[.int .u8 x0,.int .u8 x1,.int .u8 x2,.int .u8 x3,.int .u8 x4,.int .u8 x5,.int .u8 x6,.int .u8 x7] 110)):=n.o.alloc n.o.size _;have aU:=am.o (.cells #[.int .u8 x0,.int .u8 x1,.int .u8 x2,.int .u8 x3,.int .u8 x4,.int .u8 x5,.int .u8 x6,.int .u8 x7] 110);have a8:l.heap.size+1≤((l.alloc (.cells zcf 110)).setCells l.heap.size 0 (x.map bv)).heap.size+1:=by have:=n.o.size;omega
    go_roundw
    case rel =>
     have E:=aL.o;have V:=aJ.o;generalize hV:((l.alloc (.cells zcf 110)).setCells l.heap.size 0 (x.map bv)).alloc (.cells #[.int .u8 x0,.int .u8 x1,.int .u8 x2,.int .u8 x3,.int .u8 x4,.int .u8 x5,.int .u8 x6,.int .u8 x7] 110)=V7 at *;have W:=vq HO.o;have aX:=HH.o.base.size;have aW:zq (fun b=>(Value.slice ra q rc).ownBlock=some b) [110] V7 w8:=(zq.refl (fun b=>(Value.slice ra q rc).ownBlock=some b) [110] V7).grown aU E (fun g hg=> .inl hg) (by simp)
     have av:=(I.o.below ah).asideN aW (fun b f=>⟨zu aX (W b f),fun hO=>by
       have:=HH.o.lt b (.inl hO);have:=W b f;omega,ab.o b f,fun hO=>by
       have:=HH.o.lt b (.inr (.inr hO));have:=W b f;omega⟩) (by decide)
     have aV:zq (fun b=>O b∨A b) qT w w8:=by
      have h7:=af.o.then_below ah;refine⟨E.os.trans h7.os,E.tape.trans h7.tape,E.output.trans h7.output,zu h7.size E.size,fun j hj=>?_⟩;rw [E.block j (zx hj h7.size) (fun e=>by have:=W j e.symm;omega)];exact h7.block j hj
     refine⟨q+1,jz P W1 l,R,F++[x],by omega,by go_num,⟨_,_,rfl⟩,aV,⟨S.o.1,fun b f=>(S.o.2 b f).imp id (fun h=>⟨h.1,zx h.2 (zu ah.size E.size)⟩)⟩,by rw [al.o];exact av,?_,?_,by simp [ag.o],?_,ao.o x R rfl⟩
     ·unfold zg1;rw [ycd,HX.o,zy,zab,ag.o];exact aP.o
     ·intro g' ax;simp only [Value.ownBlock,zr] at ax;subst ax;rcases V with h1 | h1
      ·exact ab.o _ h1
      ·rintro(f | f)
       ·have:=I.o.lt _ (.inr (.inl (.inl f)));omega
       ·omega
     ·intro p hp;rcases yt.1 hp with hp | hp
      ·exact aq.o p hp
      ·rw [xm.1 hp];exact aQ.o
    case measure=>simp [intOf];omega
   ·obtain⟨a3,Z,H⟩:=HG.o vg rfl;have n:=zf H;have aK:Hid (((l.alloc (.cells zcf 110)).setCells l.heap.size 0 (vg.map bv)).heap[g]?=some (.cells #[qo p,zd2 U 5] 179 (0,0))):=(H.block _ (zi ai)).trans ai;clear Z H HG ai;unfold za7;go_wp2_with fail
    go_ret2
    rw [ap.o _ _ rfl];exact⟨af.o.then_below n.o,HH.o.all ((I.o.below n.o).less (by have:=al.o;omega)) ⟨S.o.1,fun b f=>(S.o.2 b f).imp id (fun h=>⟨h.1,zx h.2 n.o.size⟩)⟩,.inr ⟨p,g,rfl,aK.o,rfl⟩⟩
  ·obtain rfl:q=c.length:=by omega
   have hd:c.drop c.length=[]:=List.drop_length;rw [hd] at hM X;go_wp2_with fail
   go_ret2
   have aS:qx (yz d.fs) D a m c=(.inr F,Q):=by
    rw [hM,qx];simp [zgo]
   rw [aS];refine⟨HT.o,HH.o.all ((X.less (by simp))) HA.o,.inl ⟨F,_,rfl,HO.o,aq.o,rfl⟩⟩
end
variable {b fb:Nat}
section
attribute [local go_sem ↓] jy jn j4 jo ji jh j3 jm
theorem zbi.mapR {α β γ:Type}{R:α→β→Prop}{c:α→γ→Prop}{l:List α}{m:List β}(h:zbi R l m)(g:β→γ)(d:∀ a∈l,∀ b,R a b→c a (g b)):zbi c l (m.map g):=by
 induction h using zbi.ind with
 | nil=>exact .nil
 | cons e _ i=>exact .cons (d _ (by simp) _ e) (i fun a f b=>d a (by simp [f]) b)
theorem zs8 {α β:Type}{f:α→β}{l:List α}(h:(l.map f).Nodup){a b:α}(q:a∈l)(r:b∈l)(e:f a=f b):a=b:=by
 obtain⟨i,n,c⟩:=vo q;obtain⟨j,o,d⟩:=vo r;have p:=zp5.1 (List.pairwise_map.1 h);rcases z16 i j with m | g | k
 ·exact absurd (by rw [c,d];exact e) (p i j n o m)
 ·subst g;rw [← c,← d]
 ·exact absurd (by rw [c,d];exact e.symm) (p j i o n k)
theorem zen.nodup {a:Int}{L:LsN}(h:zen w A nm a L):(L.map (·.2.1)).Nodup:=by
 obtain⟨d,c,e,f,h⟩:=h;obtain⟨D,-,-,b,-⟩:=h.map;unfold LsN.ks at b;rw [zgv] at b;exact b
theorem zod.setF {f:LsN}{u:Mm}(r:zen w A nm zgx f)(E:zbi (NdR w A) f u)(s:(f.map (·.2.2)).Nodup){p:Pl}(G:f.get p=some (b,yx fb))(m:zq (fun x=>x=fb) [xg] w w'){J i:List Px}(F:yu w fb J)(j:yu w' fb i)(I:FOk i){q:Fl}(H:zdj w' i q)(D:A fb):
  zod w' A nm (u.set p q):=by
 refine⟨f,r.keep m (by decide) (by decide) (fun k _ e=>by subst e;exact⟨_,_,_,F⟩),?_,s⟩;have c:=zm9 G;refine E.mapR _ (fun a t y g=>?_)
 by_cases h:y.1=p
 ·rw [if_pos h];have:a=(b,p,yx fb):=zs8 r.nodup t c (by show a.2.1=p;rw [g.1,h]);subst this;exact⟨rfl,fb,i,rfl,D,j,I,H⟩
 ·rw [if_neg h];obtain⟨d,n,o,v,z,B,C⟩:=g.2;have l:d≠fb:=by
   intro e;subst e;have:a=(b,p,yx d):=zs8 s t c o;rw [this] at g;exact h g.1.symm
  exact⟨g.1,d,n,o,v,m.stay z l,B,C.turn m (by decide)⟩
theorem yje {n:List Px}{f:Fl}(h:zdj w n f):zn1 n=zr9 f:=by
 obtain⟨a,b,c,d,rfl⟩:=zmi h.1;obtain⟨e,g,i,j,rfl⟩:=zmi h.2.1;have h0:=h.2.2 0 (by omega);have k:=h.2.2 1 (by omega);have l:=h.2.2 2 (by omega);have m:=h.2.2 3 (by omega);have f0:a.fits=e.fits:=h0.fits;have f1:b.fits=g.fits:=k.fits;have f2:c.fits=i.fits:=l.fits;have f3:d.fits=j.fits:=m.fits;have o:a.hash=e.hash:=h0.hash;have p:b.hash=g.hash:=k.hash;have q:c.hash=i.hash:=l.hash;have r:d.hash=j.hash:=m.hash;unfold zn1 zr9;simp only [f0,f1,f2,f3,o,p,q,r]
theorem yjp {b:List Px}{f:Fl}(h:zdj w b f)(k:Nat){z:Px}{c:Pc}(l:zji w z c):zdj w (b.set k z) (f.set k c):=by
 refine⟨by rw [zg0];exact h.1,by rw [zg0];exact h.2.1,fun i j=>?_⟩;have g:(b.set k z).getD i .no=if i=k∧k < b.length then z else b.getD i .no:=by
  simp only [zl,zqb]
  by_cases a:k=i
  ·subst a
   by_cases d:k < b.length
   ·simp [d]
   ·simp [d]
  ·have:¬ i=k:=fun e=>a e.symm;simp [a,this]
 rw [g,yax,h.1,h.2.1];split
 ·exact l
 ·exact h.2.2 i j
theorem CS.setNd {a:Int}{j:Mm}{m:Ms Nt}(h:CS W0 w O A OP cb nb db pm nm C d a j m k)(f:zq A [xg] w w'){c:Mm}(i:zod w' A nm c)(l:c.length=m.needed.length):CS W0 w' O A OP cb nb db pm nm C d a j { m with needed:=c } k :=
 ⟨h.base.trans (f.below (fun b g=>h.own b (.inr g)) h.base.size),h.own,h.apart,fun b g=>zx (h.lt b g) f.size,h.disk.stay f (by decide) (by decide),h.net.turn f (by decide) (by decide) (by decide),h.st,h.few,f.keep h.cli (by decide),h.cells,h.prv.stay f (fun b g e=>h.away b g (.inr e)) (by decide) (fun _ h=>h),h.away,i,by have:=h.short;simp only;omega⟩
theorem Mm.set_len (m:Mm)(p:Pl)(f:Fl):(m.set p f).length=m.length:=by simp [Mm.set]
theorem CS.find {n:Int}{E:Mm}{m:Ms Nt}(h:CS W0 w O A OP cb nb db pm nm C d n E m k)(p:Pl)(u:zip p):∃(a:Option Addr) (b:Bool),
  ((b=false∧a=none∧m.needed.get p=none)∨(b=true∧∃ c x j o f,a=some ⟨j,0,none⟩∧zen w A nm zgx c∧zbi (NdR w A) c m.needed∧(c.map (·.2.2)).Nodup∧c.get p=some (x,yx j)∧m.needed.get p=some f∧A j∧yu w j o∧FOk o∧zdj w o f)) ∧
  ∀ e,Below w.heap.size w e→Calls prog 172 #[yx nm,plV p] e fun r F=>r= .returned (.tuple #[.pointer a,.bool b])∧Below e.heap.size e F:=by
 obtain⟨c,g,l,i⟩:=h.nee;rcases zod.get l p with ⟨q,s⟩ | ⟨b,v,f,q,s,⟨j,o,rfl,y,z,D,B⟩,-⟩
 ·exact⟨none,false,.inl ⟨rfl,rfl,s⟩,fun e t=>z0w A nm zgx c _ u e (g.below t (fun _ h=>h)) q⟩
 ·exact⟨_,true,.inr ⟨rfl,c,b,j,o,f,rfl,g,l,i,q,s,y,z,D,B⟩,fun e t=>zv4 A nm zgx c _ u e (g.below t (fun _ h=>h)) b _ q⟩
def WdN (a:Mm):Prop:=∀ x∈a,1≤x.1.2.2
theorem WdN.set {a:Mm}(h:WdN a)(p:Pl)(f:Fl):WdN (a.set p f):=by
 intro x c;have:x.1∈(a.set p f).map (·.1):=zeh c;rw [Mm.set_keys] at this;obtain⟨y,d,b⟩:=yl.1 this;rw [← b];exact h y d
theorem zr1 (a:Nat)(b:a < 9223372036854775808)(l:Int)(c:-1≤l)(d:l≤100)(j:Nat)(f:j < 9223372036854775808):zip (zv a l j):=by
 have e:=zlo l a;unfold zv;refine⟨⟨by simp only;omega,by simp only;omega⟩,⟨by simp only;omega,by simp only;omega⟩,⟨by simp only;omega,by simp only;omega⟩⟩
abbrev zvd (g:World)(O A e:Nat→Prop)(c l i o n:Nat)(C:Array Value)(d:Dk)(a:Int)(p:Mm)(b k f:Nat):Prop :=
 ∀(L j:Nat) (h:zc) (m:Ms Nt) (w:World),33≤L+f→L≤40→j < 9223372036854775808→h.length=8→WdN m.needed→CS g w O A e c l i o n C d a p m k →
  Calls prog 174 #[yx c,.int .i64 b,.int .i64 L,.int .i64 j,.agg (hv h)] w fun r q=>r= .returned (.tuple #[])∧zq A [xg] w q∧CS g q O A e c l i o n C d a p { m with needed:=zai b f m.needed L j h } k
theorem z5i (U:World)(O A T:Nat→Prop)(t Z W pm I:Nat)(C:Array Value)(d:Dk)(n:Int)(pr:Mm)(c k:Nat)(G:c < 9223372036854775808)(L j:Nat)(h:zc)(m:Ms Nt)(w:World)(hL:L≤40)(P:j < 9223372036854775808)(F:m.needed.get (zv c (L:Int) j)=none)(s:CS U w O A T t Z W pm I C d n pr m k):
  Calls prog 174 #[yx t,.int .i64 c,.int .i64 L,.int .i64 j,.agg (hv h)] w fun r w'=>r= .returned (.tuple #[])∧zq A [xg] w w'∧CS U w' O A T t Z W pm I C d n pr m k:=by
 have y:=zf (zr1 c G (L:Int) (by omega) (by omega) j P);have x:=zf (fun w=>zhu c G (L:Int) (by omega) (by omega) j P w);have f:=zf s;obtain⟨a,b,B,l⟩:=s.find (zv c (L:Int) j) y.o;have J:=zf B;have g:=zf l;have N:=zf F;clear s B l P F;unfold yx at g ⊢;go_enter func174,ntmps174;go_wp2_with fail;have e:Hid (Below w.heap.size w (w.alloc (.cells (hv h) 110))):=zk w _;have z:Hid ((w.alloc (.cells (hv h) 110)).heap[w.heap.size]?=some (.cells (hv h) 110 (0,0))):=zg _ _;generalize w.alloc (.cells (hv h) 110)=H at *;go_cut [10,11] from 14 to 25 (fun R S wx=>R= .pointer a∧S= .bool b∧Below H.heap.size H wx)
 case first =>
  have q:H.heap[t]?=some (.cells C zbx (0,0)):=(e.o.block _ (zi f.o.cli)).trans f.o.cli;have v:=zf q;have ab:H.cell? ⟨t,14,none⟩=some (.pointer (some ⟨I,0,none⟩)):=(zw q 14 _ f.o.cells.nee).1;clear q
  go_region_with (first
   | (go_at_call 173;refine(x.o _).mono ?_;rintro r w2 ⟨rfl,D⟩;have i:=zf (zbb D);have V:w2.cell? ⟨t,14,none⟩=some (.pointer (some ⟨I,0,none⟩)):=(zw ((i.o.block _ (zi v.o)).trans v.o) 14 _ f.o.cells.nee).1;clear D)
   | (go_at_call 172;refine(g.o w2 (by exact e.o.trans (i.o.mono e.o.size))).mono ?_;rintro r w3 ⟨rfl,E⟩;have K:=zf (i.o.trans (E.mono i.o.size));clear E))
  all_goals go_wp2_with fail
  all_goals go_meet
  all_goals exact⟨rfl,rfl,K.o⟩
 case rest =>
  obtain⟨rfl,rfl,p⟩:=hcut;obtain⟨X,hX⟩:∃ X,X=wc:=⟨_,rfl⟩;subst hX;have u:=zf (e.o.trans (p.mono e.o.size));have aa:Hid (X.heap[w.heap.size]?=some (.cells (hv h) 110 (0,0))):=(p.block _ (zi z.o)).trans z.o;have M:=zf (f.o.below u.o);clear p g;rcases J.o with ⟨rfl,rfl,Y⟩ | ⟨rfl,LN,bb,fb,xs,fl,rfl,ae,af,Q,ad,Y,-⟩
  ·go_wp2_with fail
   first | go_end0 | refine z8 (zcg rfl _ _ _) rfl ?_
   exact⟨rfl,.of_below u.o,M.o⟩
  ·exfalso;have:=N.o;rw [Y] at this;simp at this
theorem z5j (W0:World)(O A OP:Nat→Prop)(cb nb db pm nm:Nat)(C:Array Value)(d:Dk)(K:Int)(pr:Mm)(c k f:Nat)(al:c < 9223372036854775808)(ih:zvd W0 O A OP cb nb db pm nm C d K pr c k f):zvd W0 O A OP cb nb db pm nm C d K pr c k (f+1):=by
 intro L j h m w aB hL hj h8 aR ah;obtain⟨g,aI⟩:∃ g,g=j % 4:=⟨_,rfl⟩;have aO:(j:Int) % 4=(g:Int):=by omega
 have ai:g < 4:=by omega
 have aY:=zf aI;have aw:=zf ai;have ay:=zf (zr1 c al (L:Int) (by omega) (by omega) j hj);have ax:=zf (fun w=>zhu c al (L:Int) (by omega) (by omega) j hj w);have aX:=zf ih;have D:=zf ah;have az:=zf aR;have H8:=zf h8;have R:Hid (33≤L+(f+1)∧L≤40∧j < 9223372036854775808):=⟨aB,hL,hj⟩;obtain⟨a,b,aC,W⟩:=ah.find (zv c (L:Int) j) ay.o;have am:=zf aC;have E:=zf W;have aa:Hid (zai c (f+1) m.needed L j h=match m.needed.get (zv c (L:Int) j) with
  | none=>m.needed
  | some fl=>match zr9 (fl.set (j % 4) ⟨true,true,h,[]⟩) with
   | some up=>zai c f (m.needed.set (zv c (L:Int) j) (fl.set (j % 4) ⟨true,true,h,[]⟩)) (L+1) (j / 4) up
   | none=>m.needed.set (zv c (L:Int) j) (fl.set (j % 4) ⟨true,true,h,[]⟩)):=rfl
 clear ih ah aR aC W aI ai aB hj h8;unfold yx at E ⊢;go_enter func174,ntmps174;go_wp2_with fail;have z:Hid (Below w.heap.size w (w.alloc (.cells (hv h) 110))):=zk w _;have aA:Hid ((w.alloc (.cells (hv h) 110)).heap[w.heap.size]?=some (.cells (hv h) 110 (0,0))):=zg _ _;generalize w.alloc (.cells (hv h) 110)=W1 at *;go_cut [10,11] from 14 to 25 (fun a7 a8 wx=>a7= .pointer a∧a8= .bool b∧Below W1.heap.size W1 wx)
 case first =>
  have ag:W1.heap[cb]?=some (.cells C zbx (0,0)):=(z.o.block _ (zi D.o.cli)).trans D.o.cli;have an:=zf ag;have be:W1.cell? ⟨cb,14,none⟩=some (.pointer (some ⟨nm,0,none⟩)):=(zw ag 14 _ D.o.cells.nee).1;clear ag aO
  go_region_with (first
   | (go_at_call 173;refine(ax.o _).mono ?_;rintro r w2 ⟨rfl,aD⟩;have M:=zf (zbb aD);have ba:w2.cell? ⟨cb,14,none⟩=some (.pointer (some ⟨nm,0,none⟩)):=(zw ((M.o.block _ (zi an.o)).trans an.o) 14 _ D.o.cells.nee).1;clear aD)
   | (go_at_call 172;refine(E.o w2 (by exact z.o.trans (M.o.mono z.o.size))).mono ?_;rintro r w3 ⟨rfl,aE⟩;have aS:=zf (M.o.trans (aE.mono M.o.size));clear aE))
  all_goals go_wp2_with fail
  all_goals go_meet
  all_goals exact⟨rfl,rfl,aS.o⟩
 case rest =>
  obtain⟨rfl,rfl,af⟩:=hcut;obtain⟨X,hX⟩:∃ X,X=wc:=⟨_,rfl⟩;subst hX;have i:=zf (z.o.trans (af.mono z.o.size));have aW:Hid (X.heap[w.heap.size]?=some (.cells (hv h) 110 (0,0))):=(af.block _ (zi aA.o)).trans aA.o;have ap:=zf (D.o.below i.o);clear af E;rcases am.o with ⟨rfl,rfl,hg⟩ | ⟨rfl,LN,bb,P,xs,fl,rfl,aL,aM,J,aJ,hg,hA,hf,t,aH⟩
  ·go_wp2_with fail
   first | go_end0 | refine z8 (zcg rfl _ _ _) rfl ?_
   rw [aa.o,hg];exact⟨rfl,.of_below i.o,ap.o⟩
  ·have I:yu X P xs:=(i.o.block _ (zi hf)).trans hf;have HF:=zf I;have bc:=zf t;have aV:=zf (aH.below i.o);have aZ:=zf aJ;have au:=zf hg;have HA:=zf hA;have v:(⟨true,true,h,.slice none 0 0⟩:Px).ok:=⟨H8.o,_,_,_,rfl⟩;have bd:=zf v;have aj:g < xs.length:=by rw [t.1];exact aw.o
   have aK:(zez (.pointer (some ⟨w.heap.size,0,none⟩))).run prog X.drew= .ok (.agg (hv h)) X.drew:=za5 (w:=X.drew) (j6 (w:=X.drew) (cs:=h.map bv) aW.o) H8.o;have a4:=fun w0=>z6u h H8.o w0;have aQ:X.drew.there P (g*11) 11:=by
    have:=yu.there (w:=X.drew) (fb:=P) (xs:=xs) I t.2 aj (o:=0) (n:=11) (by omega);rw [zky] at this;exact this
   have ak:=zhv aQ (Px.cs_len v) (Px.cs_one v);have aq:Hid (yu (X.drew.setCells P (g*11) (⟨true,true,h,.slice none 0 0⟩:Px).cs) P (xs.set g ⟨true,true,h,.slice none 0 0⟩)):=yu.set (w:=X.drew) I t.2 aj v;have Y:Hid (FOk (xs.set g ⟨true,true,h,.slice none 0 0⟩)):=⟨by rw [zg0];exact t.1,ztn t.2 g v⟩;have ab:Hid (zq (fun x=>x=P) [xg] X (X.drew.setCells P (g*11) (⟨true,true,h,.slice none 0 0⟩:Px).cs)):=((zq.refl (fun x=>x=P) [xg] X).drew).setCells (w:=X.drew) (.inl rfl) I (by simp) _ _;have a0:=zf (aL.below i.o (fun _ h=>h));have a1:Hid (zbi (NdR X A) LN m.needed):=aM.mono (fun a' _ b' hr=>⟨hr.1,hr.2.turn (O:=fun _=>False) (T:=[]) (.of_below i.o) (by simp) (by simp) (fun _ h=>h)⟩);have Z:=zf J;have ai:g < 4:=aw.o;clear hf I t aH aJ hg hA v aj aQ aL aM J am;go_wp2_with fail
   go_region
   generalize X.drew.setCells P (g*11) (⟨true,true,h,.slice none 0 0⟩:Px).cs=V at *;have ad:Hid (zq A [xg] X V):=ab.o.mono (fun b hb=>by rw [hb];exact HA.o) (fun _ h=>h);have av:Hid (zdj V (xs.set g ⟨true,true,h,.slice none 0 0⟩) (fl.set g ⟨true,true,h,[]⟩)):=yjp (aV.o.turn ab.o (by decide)) g ⟨rfl,rfl,rfl,.inl ⟨rfl,rfl⟩⟩;have ao:Hid (CS W0 V O A OP cb nb db pm nm C d K pr { m with needed:=m.needed.set (zv c (L:Int) j) (fl.set g ⟨true,true,h,[]⟩) } k):=ap.o.setNd ad.o (zod.setF a0.o a1.o Z.o aZ.o ab.o HF.o aq.o Y.o av.o HA.o) (Mm.set_len _ _ _);have a6:=ze0 (j6 aq.o) Y.o.len;have a2:=zf (yje av.o);have ar:=zf (ycf _ Y.o V);clear aK a4 ak;go_wp2_with fail;refine ar.o.mono ?_;rintro r s ⟨aF,aN⟩;rw [a2.o] at aN;have N:=zf aF;have l:=aa.o;rw [au.o] at l;simp only at l;rw [← aY.o] at l;have S:=zf l;have HG:Hid (∀ y:zc,y.length=8→(zj0 (.pointer (some ⟨s.heap.size,0,none⟩)) (.agg (hv y))).run prog (s.alloc (.cells zcf 110))= .ok () ((s.alloc (.cells zcf 110)).setCells s.heap.size 0 (y.map bv))∧((s.alloc (.cells zcf 110)).setCells s.heap.size 0 (y.map bv)).heap[s.heap.size]?=some (.cells (hv y) 110 (0,0))∧Below s.heap.size s ((s.alloc (.cells zcf 110)).setCells s.heap.size 0 (y.map bv))):=by
    intro y hy;have aG:(s.alloc (.cells zcf 110)).heap[s.heap.size]?=some (.cells (vg.map bv).toArray 110 (0,0)):=zg _ _;have a5:=zb2 aG (ds:=y.map bv) (by simp [hy,vg]);exact⟨zgp (by have:=zb1 aG;simpa [vg] using this) hy,a5,xn (zk _ _) (zm _) _ _⟩
   clear aF l aa ar a6;rcases aN with ⟨up,u,rfl⟩ | ⟨u,rfl⟩
   ·have p:up.length=8:=by
     obtain⟨-,-,e⟩:=zxb u;rw [e];exact vb _ _
    obtain⟨ak,Q,H⟩:=HG.o up p;have aK:=za5 (j6 (cs:=up.map bv) Q) p;have a9:=zf p;have ae:=zf u;have B:Hid (Below V.heap.size V ((s.alloc (.cells zcf 110)).setCells s.heap.size 0 (up.map bv))):=N.o.trans (H.mono N.o.size);have bh:wrap64 ((L:Int)+1)=((L+1:Nat):Int):=by unfold wrap64;omega
    obtain⟨q,hq⟩:∃ q,q=j / 4:=⟨_,rfl⟩;have bf:(j:Int) / 4=(q:Int):=by omega
    have bg:wrap64 (q:Int)=(q:Int):=by have:=R.o;unfold wrap64;omega
    have HQ:=zf hq;have F:Hid (L+1≤40∧33≤L+1+f∧q < 9223372036854775808):=by
     have hn:=R.o;refine⟨?_,by omega,by omega⟩;have hw:=az.o _ (Mm.get_mem au.o);unfold zv at hw;simp only at hw;rcases qu L 32 with h' | h'
     ·omega
     ·exfalso;have hz:qg (L:Int) c=0:=by
       unfold qg;rw [yj];refine zet (zx al ?_);exact zu (by decide:9223372036854775808≤4 ^ 32) (js (by omega) h')
      rw [hz] at hw;omega
    have G:=zf (aX.o (L+1) q up { m with needed:=m.needed.set (zv c (L:Int) j) (fl.set g ⟨true,true,h,[]⟩) } _ F.o.2.1 F.o.1 F.o.2.2 p (az.o.set _ _) (ao.o.below B.o));clear Q H u p hq HG;unfold yx at G;go_wp2_with fail;rw [show(L:Int)+1=((L+1:Nat):Int) from by omega];refine G.o.mono ?_;rintro r w9 ⟨rfl,aP,U⟩;have a3:=zf aP;have aU:=zf U;clear aP U G;go_wp2_with fail
    first | go_end0 | refine z8 (zcg rfl _ _ _) rfl ?_
    rw [S.o,ae.o,← HQ.o];exact⟨rfl,(((zq.of_below i.o).trans (ad.o.mono (fun _ h=> .inl h) (fun _ h=>h))).then_below B.o).trans (a3.o.mono (fun _ h=> .inl h) (fun _ h=>h)),aU.o⟩
   ·obtain⟨ak,Q,H⟩:=HG.o vg rfl;have ae:=zf u;have B:Hid (Below V.heap.size V ((s.alloc (.cells zcf 110)).setCells s.heap.size 0 (vg.map bv))):=N.o.trans (H.mono N.o.size);clear Q H u HG;go_wp2_with fail
    first | go_end0 | refine z8 (zcg rfl _ _ _) rfl ?_
    rw [S.o,ae.o];exact⟨rfl,((zq.of_below i.o).trans (ad.o.mono (fun _ h=> .inl h) (fun _ h=>h))).then_below B.o,ao.o.below B.o⟩
theorem zxk (g:World)(O A e:Nat→Prop)(i q l s r:Nat)(C:Array Value)(d:Dk)(b:Int)(t:Mm)(a k:Nat)(c:a < 9223372036854775808):∀ f,zvd g O A e i q l s r C d b t a k f:=by
 intro f
 induction f with
 | zero =>
  intro L j h m w D u x E p n;refine z5i g O A e i q l s r C d b t a k c L j h m w u x ?_ n;cases v:m.needed.get (zv a (L:Int) j) with
  | none=>rfl
  | some B =>
   exfalso;have o:=p _ (Mm.get_mem v);unfold zv at o;simp only at o;have y:qg (L:Int) a=0:=by
    unfold qg;rw [yj];refine zet (zx c ?_);exact zu (by decide:9223372036854775808≤4 ^ 32) (js (by omega) (by omega))
   rw [y] at o;omega
 | succ f z=>exact z5j g O A e i q l s r C d b t a k f c z
end
end Go.Proofs.YtlcllcgngjhoaaaGreatDoor
