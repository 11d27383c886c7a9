import Derived.Test.YtlcllcgngjhoaaaGreatDoorG30
import Derived.Test.YtlcllcgngjhoaaaGreatDoorG31
set_option maxHeartbeats 8000000
set_option maxRecDepth 100000
set_option linter.all false
namespace Go.Proofs.YtlcllcgngjhoaaaGreatDoor
open Go.RowKit Go.Proofs.Tryz
variable {A A' O OP:Nat→Prop}{C:Array Value}{T:List Nat}{V W W0 W1 w w' w4:World}{b cb db k k' k0 nb nm pm:Nat}{d:Dk}
section
attribute [local go_sem ↓] jy jn j4 jo ji jh j3 jm zoj
theorem zjx.below (h:zjx W)(a:Below W.heap.size W w):zjx w:=fun j b=>by
 have:=h j b;rw [a.cell (p:=⟨_,j,none⟩) (yg this)];exact this
def z9z (a:Nat→Addr)(b:World)(o:Sum (zc) (zc))(r:Ending):Prop :=
 (∃ h,o= .inr h∧h.length=8∧r= .returned (.tuple #[.agg (hv h),.nilIface])) ∨
 (∃ p g,o= .inl p∧b.heap[g]?=some (.cells #[qo p,zd2 a 5] 179 (0,0))∧r= .returned (.tuple #[.agg (hv vg),za7 g]))
theorem CS.less {a:Int}{b:Mm}{m:Ms Nt}(h:CS W0 w O A OP cb nb db pm nm C d a b m k)(c:k'≤k):CS W0 w O A OP cb nb db pm nm C d a b m k' :=
 ⟨h.base,h.own,h.apart,h.lt,h.disk,h.net,h.st,by have:=h.few;omega,h.cli,h.cells,h.prv,h.away,h.nee,by have:=h.short;omega⟩
theorem CS.below {a:Int}{g:Mm}{m:Ms Nt}(h:CS W0 w O A OP cb nb db pm nm C d a g m k)(c:Below w.heap.size w w'):CS W0 w' O A OP cb nb db pm nm C d a g m k:=by
 have e:zq (fun _=>False) [] w w':= .of_below c;exact⟨h.base.trans (c.mono h.base.size),h.own,h.apart,fun b f=>zx (h.lt b f) c.size,h.disk.stay e (by simp) (by simp),h.net.below c,h.st,h.few,e.keep h.cli (by simp),h.cells,h.prv.stay e (fun _ _ h=>h) (by simp) (fun _ h=>h),h.away,h.nee.stay e (fun _ _ h=>h) (by simp) (by simp) (fun _ h=>h),h.short⟩
theorem CS.mono {f:Int}{o:Mm}{m:Ms Nt}(h:CS W0 w O A OP cb nb db pm nm C d f o m k)(l:∀ b,A b→A' b)(i:∀ b,A' b→A b∨(W0.heap.size≤b∧b < w.heap.size∧¬ O b∧¬ OP b)):CS W0 w O A' OP cb nb db pm nm C d f o m k:=by
 refine⟨h.base,?_,?_,?_,h.disk,h.net,h.st,h.few,h.cli,h.cells,h.prv,?_,?_,h.short⟩
 ·rintro b (c | c)
  ·exact h.own b (.inl c)
  ·rcases i b c with c | c
   ·exact h.own b (.inr c)
   ·exact c.1
 ·intro b j g;rcases i b g with c | c
  ·exact h.apart b j c
  ·exact c.2.2.1 j
 ·rintro b (c | c | c)
  ·exact h.lt b (.inl c)
  ·rcases i b c with c | c
   ·exact h.lt b (.inr (.inl c))
   ·exact c.2.1
  ·exact h.lt b (.inr (.inr c))
 ·rintro b c (j | g)
  ·exact h.away b c (.inl j)
  ·rcases i b g with g | g
   ·exact h.away b c (.inr g)
   ·exact g.2.2.2 c
 ·obtain⟨p,r,s,t⟩:=h.nee;refine⟨p,r.below (yf _ _) l,s.mono fun a _ b n=>⟨n.1,?_⟩,t⟩;obtain⟨q,x,e,u,v⟩:=n.2;exact⟨q,x,e,l _ u,v⟩
theorem zw0 {x:Px}(h:w.heap[b]?=some (.cells x.cs.toArray zbk (0,0))):w.rangeAt b 2 (x.hash.map bv):=by
 have c:=j6 h;intro j v hv;have a:j < (x.hash.map bv).length:=(xy.1 hv).1;have:=c (2+j) v (by
  unfold Px.cs;rw [show 2+j=j+1+1 by omega,zac,zac,qd (by simpa using a)];exact hv)
 rw [xk] at this;exact this
theorem CS.aside {c:Int}{j:Mm}{m:Ms Nt}{x:Nat}(h:CS W0 w O A OP cb nb db pm nm C d c j m k)(g:zq (fun b=>b=x) T w w')(l:W0.heap.size≤x)(i:¬ O x∧¬ A x∧¬ OP x)
 (a:∀ t∈[82,99,93,36,3,zbx,5,xg],t∉T):CS W0 w' O A OP cb nb db pm nm C d c j m k:=by
 refine⟨h.base.trans (g.below (fun b f=>by rw [f];exact l) h.base.size),h.own,h.apart,fun b f=>zx (h.lt b f) g.size,h.disk.stay g (a _ (by simp)) (a _ (by simp)),h.net.turn g (a _ (by simp)) (a _ (by simp)) (a _ (by simp)),h.st,h.few,g.keep h.cli (a _ (by simp)),h.cells,h.prv.stay g (fun b f e=>?_) (a _ (by simp)) (fun _ h=>h),h.away,h.nee.stay g (fun b f e=>?_) (a _ (by simp)) (a _ (by simp)) (fun _ h=>h),h.short⟩
 ·subst e;exact i.2.2 f
 ·subst e;exact i.2.1 f
theorem zsc {g:Int}{r:Mm}{m t:Ms Nt}(h0:CS W0 w O A OP cb nb db pm nm C d g r m k0)(B:w.heap.size+1 < W1.heap.size)(p:CS W0 w4 O (jz A W1 w4) OP cb nb db pm nm C d g r t k)(o:Below w.heap.size w W1)(l:Below w4.heap.size w4 V)(v:zq (fun b=>O b∨A b) qT w V)
 (i:V.heap[w.heap.size+1]?=some (.cells (hv vg) 110 (0,0))) (a:zc) (s:a.length=8) :
  (zj0 (.pointer (some ⟨w.heap.size+1,0,none⟩)) (.agg (hv a))).run prog V= .ok () (V.setCells (w.heap.size+1) 0 (a.map bv))∧(V.setCells (w.heap.size+1) 0 (a.map bv)).heap[w.heap.size+1]?=some (.cells (hv a) 110 (0,0))∧zq (fun b=>O b∨A b) qT w (V.setCells (w.heap.size+1) 0 (a.map bv))∧CS W0 (V.setCells (w.heap.size+1) 0 (a.map bv)) O (jz A w (V.setCells (w.heap.size+1) 0 (a.map bv))) OP cb nb db pm nm C d g r t k∧zq (fun b=>b=w.heap.size+1) [110] V (V.setCells (w.heap.size+1) 0 (a.map bv)):=by
 have hv8:(V.setCells (w.heap.size+1) 0 (a.map bv)).heap[w.heap.size+1]?=some (.cells (hv a) 110 (0,0)):=zb2 (cs:=vg.map bv) i (ds:=a.map bv) (by simp [s,vg]);have j:zq (fun b=>b=w.heap.size+1) [110] V (V.setCells (w.heap.size+1) 0 (a.map bv)):=(zq.refl (fun b=>b=w.heap.size+1) [110] V).setCells (.inl rfl) i (by simp) _ _;have z:(V.setCells (w.heap.size+1) 0 (a.map bv)).heap.size=V.heap.size:=zdu _ _;have y:=zi i;have E:=o.size;have F:=l.size;refine⟨zgp (by have:=zb1 (cs:=vg.map bv) i;simpa [vg] using this) s,hv8,v.setCellsNew (vk _) _ _,?_,j⟩;have q:=p.below l;generalize V.setCells (w.heap.size+1) 0 (a.map bv)=D at *;have x:=h0.base.size;have f:∀ b,O b∨A b∨OP b→b≠w.heap.size+1:=fun b l e=>by have:=h0.lt b l;omega
 have u:=q.aside j (by omega) ⟨fun h=>f _ (.inl h) rfl,fun h=>by
  rcases h with h | h
  ·exact f _ (.inr (.inl h)) rfl
  ·omega,fun h=>f _ (.inr (.inr h)) rfl⟩ (by decide)
 refine u.mono ?_ ?_
 ·rintro b (c | c)
  ·exact .inl c
  ·exact .inr ⟨by omega,by omega⟩
 ·rintro b (c | c)
  ·exact .inl (.inl c)
  ·refine .inr ⟨by omega,by omega,fun n=>?_,fun n=>?_⟩
   ·have:=h0.lt b (.inl n);omega
   ·have:=h0.lt b (.inr (.inr n));omega
abbrev spV (a n:Nat):Value:= .agg #[.int .i64 a,.int .i64 n]
theorem yec (D:World)(z:Nat→Addr)(O A OP:Nat→Prop)(S nb db pm nm:Nat)(C:Array Value)(d:Dk)(l:Int)(t:Mm)(m:Ms Nt)(k i a n f:Nat)(aF:i < 9223372036854775808)(hl:a+n≤i)(h1:1≤n)(he:n / 4 ^ lvl n=1)(w:World)(hE:Env D)(hS:zbz D z)(aj:zjx D)
 (h:CS D w O A OP S nb db pm nm C d l t m (k+1)) :
  Calls prog 167 #[yx S,.int .i64 i,spV a n] w fun r R =>
   zq (fun b=>O b∨A b) qT w R∧CS D R O (jz A w R) OP S nb db pm nm C d l t (vm (yz d.fs) t i (f+1) m a n).2 k∧z9z z R (vm (yz d.fs) t i (f+1) m a n).1 r:=by
 obtain⟨-,aH,F⟩:=zg3 n h1 (by omega);have hj:=zsd a n (lvl n) i hl (F.1 he);have HJ:=zf hj;have ak:qg ((lvl n:Nat):Int) n=1:=by unfold qg;rw [yj];exact he
 have al:qg ((lvl n:Nat):Int) a=a / 4 ^ lvl n:=by unfold qg;rw [yj]
 have ar:=zf ak;have au:=zf al;have ae:=zf (fun w (hT:zjx w)=>z9n n (by omega) (by omega) w hT);have hq:((Lib.ctz 64 n:Nat):Int) / 2=((lvl n:Nat):Int):=by unfold lvl;omega
 have HQ:=zf hq;have ap:IntKind.u64.wrap (n:Int)=(n:Int):=by
  have h1:(n:Int) < 18446744073709551616:=by omega
  have h0:0≤(n:Int):=by omega
  simp [IntKind.wrap,IntKind.bits,IntKind.signed];omega
 have H:=zf (fun(x:Nat) (T:x < 9223372036854775808) w=>zj9 ((lvl n:Nat):Int) (by omega) (by omega) x T w);have u:=zf (fun R (h':CS D R O A OP S nb db pm nm C d l t m (k+1))=>z34 D z O A OP S nb db pm nm C d l t m k i ((lvl n:Nat):Int) (a / 4 ^ lvl n) aF (by omega) (by omega) hj R hE hS h');have HH:=zf h;have HE:=zf hE;have HS:=zf hS;have az:=zf aj;have ab:Hid (∀ o U,zaq (yz d.fs) t i m ((lvl n:Nat):Int) (a / 4 ^ lvl n)=(o,U)→vm (yz d.fs) t i (f+1) m a n=(match o with
  | .inl e=>(.inl e,U)
  | .inr c=>(.inr c.hash,U))):=by
  intro o U e;cases o with
  | inl p=>exact znj he e
  | inr c=>exact zpx he e
 have HN:Hid (n < 9223372036854775808∧a < 9223372036854775808):=⟨by omega,by omega⟩;clear h hE hS aj hj ak al he F hl hq;generalize hL:lvl n=L at *;clear hL;generalize a / 4 ^ L=J at *;generalize Lib.ctz 64 n=Z at *;unfold spV yx;go_enter func167,ntmps167;go_wp2_with fail;have ag:Below w.heap.size w ((w.alloc (.cells #[.int .i64 a,.int .i64 n] 228)).alloc (.cells zcf 110)):=xu w _ _;have ai:((w.alloc (.cells #[.int .i64 a,.int .i64 n] 228)).alloc (.cells zcf 110)).heap[w.heap.size]?=some (.cells #[.int .i64 a,.int .i64 n] 228 (0,0)):=zj (zg _ _);have ah:((w.alloc (.cells #[.int .i64 a,.int .i64 n] 228)).alloc (.cells zcf 110)).heap[w.heap.size+1]?=some (.cells (hv vg) 110 (0,0)):=by
  have:=zg (w.alloc (.cells #[.int .i64 a,.int .i64 n] 228)) (.cells zcf 110);rw [show(w.alloc (.cells #[.int .i64 a,.int .i64 n] 228)).heap.size=w.heap.size+1 by simp] at this;exact this
 have G:=zf ag;have ad:=zf ai;have Y:=zf ah;clear ap ag ai ah;generalize (w.alloc (.cells #[.int .i64 a,.int .i64 n] 228)).alloc (.cells zcf 110)=W1 at *;have W:=zf (HH.o.below G.o);refine(ae.o W1 (az.o.below W.o.base)).mono ?_;rintro r w1 ⟨rfl,rfl⟩;obtain⟨q0,-⟩:=zw ad.o 0 _ rfl;obtain⟨q1,-⟩:=zw ad.o 1 _ rfl;simp only [zdz,zan,zam] at q0 q1;have aG:wrap64 (L:Int)=(L:Int):=by unfold wrap64;omega
 go_wp2_with fail;rw [HQ.o,aG];refine(H.o n HN.o.1 w1).mono ?_;rintro r w2 ⟨rfl,rfl⟩;rw [ar.o];go_wp2_with fail;refine(H.o a HN.o.2 w2).mono ?_;rintro r w3 ⟨rfl,rfl⟩;rw [au.o];go_wp2_with fail;have N:=zf (u.o w3 W.o);unfold yx at N;refine N.o.mono ?_;rintro r j ⟨Q,E,aC⟩;have ay:=zf Q;have X:=zf E;have ao:j.heap[w.heap.size+1]?=some (.cells (hv vg) 110 (0,0)):=Q.keep Y.o (by decide);have aa:=zf ao;have HM:=zf (ab.o (zaq (yz d.fs) t i m (L:Int) J).1 (zaq (yz d.fs) t i m (L:Int) J).2 rfl);have ax:Hid (w.heap.size+1 < w3.heap.size):=zi Y.o;clear Q E ao q0 q1 N u ab ae H;generalize zaq (yz d.fs) t i m (L:Int) J=NM at *;obtain⟨o,U⟩:=NM;simp only at *;have HG:Hid (∀ x:Px,x.ok→(zph (.pointer (some ⟨j.heap.size,0,none⟩)) (.agg x.cs.toArray)).run prog (j.alloc (.cells zhr zbk))= .ok () ((j.alloc (.cells zhr zbk)).setCells j.heap.size 0 x.cs)∧(zez (.pointer (some ⟨j.heap.size,2,none⟩))).run prog ((j.alloc (.cells zhr zbk)).setCells j.heap.size 0 x.cs)= .ok (.agg (hv x.hash)) ((j.alloc (.cells zhr zbk)).setCells j.heap.size 0 x.cs)∧Below j.heap.size j ((j.alloc (.cells zhr zbk)).setCells j.heap.size 0 x.cs)):=by
  intro x T;have am:(j.alloc (.cells zhr zbk)).heap[j.heap.size]?=some (.cells Px.no.cs.toArray zbk (0,0)):=zg _ _;have aB:=zb2 am (ds:=x.cs) (by rw [Px.cs_len T,Px.cs_len Px.no_ok]);refine⟨zhv (zb1 am) (Px.cs_len T) (Px.cs_one T),za5 (zw0 aB) T.1,xn (zk _ _) (zm _) _ _⟩
 have q:Hid (∀(V:World) (y:zc),y.length=8→Below j.heap.size j V→(zj0 (.pointer (some ⟨w.heap.size+1,0,none⟩)) (.agg (hv y))).run prog V= .ok () (V.setCells (w.heap.size+1) 0 (y.map bv))∧(V.setCells (w.heap.size+1) 0 (y.map bv)).heap[w.heap.size+1]?=some (.cells (hv y) 110 (0,0))∧zq (fun b=>O b∨A b) qT w (V.setCells (w.heap.size+1) 0 (y.map bv))∧CS D (V.setCells (w.heap.size+1) 0 (y.map bv)) O (jz A w (V.setCells (w.heap.size+1) 0 (y.map bv))) OP S nb db pm nm C d l t U k∧zq (fun b=>b=w.heap.size+1) [110] V (V.setCells (w.heap.size+1) 0 (y.map bv))):=by
  intro V y h8 hb;have aD:V.heap[w.heap.size+1]?=some (.cells (hv vg) 110 (0,0)):=(hb.block _ (zi aa.o)).trans aa.o;have hT:zq (fun b=>O b∨A b) qT w V:=((zq.of_below G.o).trans (ay.o.mono (fun _ h=> .inl h) (fun _ h=>h))).then_below hb;exact zsc HH.o ax.o X.o G.o hb hT aD y h8
 rcases aC with ⟨x,c,rfl,B,aq,rfl⟩ | ⟨p,g,rfl,P,rfl⟩
 ·obtain⟨aE,an,s⟩:=HG.o x B;obtain⟨e1,e2,e3,e4,e5⟩:=q.o _ x.hash B.1 s;have af:=zf B;have aA:=zf aq.hash;have I:=zf e2;have K:=zf e3;have M:=zf e4;clear e2 e3 e4 e5 B aq s HG q;go_wp2_with fail;refine z8 (v:= .tuple #[.agg (hv x.hash),.nilIface]) (qa results167 _ _ (w.heap.size+1) 110 _ (0,0) _ rfl I.o underlying110 rfl (by rw [zm8,zay,af.o.1]) _ rfl) rfl ?_;rw [HM.o];exact⟨K.o,M.o,.inl ⟨x.hash,by rw [aA.o],af.o.1,rfl⟩⟩
 ·obtain⟨aE,an,s⟩:=HG.o .no Px.no_ok;obtain⟨e1,e2,e3,e4,e5⟩:=q.o _ vg rfl s;have aw:Hid (((j.alloc (.cells zhr zbk)).setCells j.heap.size 0 Px.no.cs).heap[g]?=some (.cells #[qo p,zd2 z 5] 179 (0,0))):=(s.block _ (zi P)).trans P;have I:=zf e2;have K:=zf e3;have M:=zf e4;have av:=zf e5;rw [show Px.no.hash=vg from rfl] at an;clear e2 e3 e4 e5 P s HG q;unfold za7;go_wp2_with fail;refine z8 (v:= .tuple #[.agg (hv vg),za7 g]) (qa results167 _ _ (w.heap.size+1) 110 _ (0,0) _ rfl I.o underlying110 rfl (by rw [zm8];rfl) _ rfl) rfl ?_;rw [HM.o];exact⟨K.o,M.o,.inr ⟨p,g,rfl,av.o.keep aw.o (by decide),rfl⟩⟩
end
section
attribute [local go_sem ↓] jy jn j4 jo ji jh j3 jm zoj
abbrev yfk (o:World)(i:Nat→Addr)(O l:Nat→Prop)(j q p t s:Nat)(C:Array Value)(d:Dk)(e:Int)(g:Mm)(c f:Nat):Prop :=
 ∀(A:Nat→Prop) (m:Ms Nt) (k a n:Nat) (w:World),a+n≤c→1≤n→n≤2 ^ f→CS o w O A l j q p t s C d e g m ((xr c (f+1) a n).length+k) →
  Calls prog 167 #[yx j,.int .i64 c,spV a n] w fun r h =>
   zq (fun b=>O b∨A b) qT w h∧CS o h O (jz A w h) l j q p t s C d e g (vm (yz d.fs) g c (f+1) m a n).2 k∧z9z i h (vm (yz d.fs) g c (f+1) m a n).1 r
theorem yee (W0:World)(W:Nat→Addr)(O OP:Nat→Prop)(cb nb db pm nm:Nat)(C:Array Value)(d:Dk)(t:Int)(j:Mm)(c f:Nat)(be:c < 9223372036854775808)(aS:zjx W0)(ih:yfk W0 W O OP cb nb db pm nm C d t j c f)
 (A:Nat→Prop) (m:Ms Nt) (k a n:Nat) (w:World) (hl:a+n≤c) (az:2≤n) (hn:n≤2 ^ (f+1)) (he:¬ n / 4 ^ lvl n=1) (h:CS W0 w O A OP cb nb db pm nm C d t j m ((xr c (f+2) a n).length+k)) :
  Calls prog 167 #[yx cb,.int .i64 c,spV a n] w fun r w' =>
   zq (fun b=>O b∨A b) qT w w'∧CS W0 w' O (jz A w w') OP cb nb db pm nm C d t j (vm (yz d.fs) j c (f+2) m a n).2 k∧z9z W w' (vm (yz d.fs) j c (f+2) m a n).1 r:=by
 obtain⟨k1,k2,k3,k4,k5,k6⟩:=zaw n f az hn;have al:(xr c (f+2) a n).length=(xr c (f+1) a (yo n)).length+(xr c (f+1) (a+yo n) (n - yo n)).length:=by
  rw [xr,if_neg he,zy]
 rw [al] at h;obtain⟨-,ba,aW⟩:=zg3 n (by omega) (by omega);have aV:¬((qg ((lvl n:Nat):Int) n:Nat):Int)=1:=by unfold qg;rw [yj];omega
 have aL:=zf (fun w (hT:zjx w)=>z9n n (by omega) (by omega) w hT);have aB:=zf (fun(x:Nat) (hx:x < 9223372036854775808) w=>zj9 ((lvl n:Nat):Int) (by omega) (by omega) x hx w);have HQ:Hid (((Lib.ctz 64 n:Nat):Int) / 2=((lvl n:Nat):Int)):=by show _=_;unfold lvl;omega
 have aX:IntKind.u64.wrap (n:Int)=(n:Int):=by
  have h1:(n:Int) < 18446744073709551616:=by omega
  have h0:0≤(n:Int):=by omega
  simp [IntKind.wrap,IntKind.bits,IntKind.signed];omega
 have ar:=zf (fun w=>zk2 a n w (by omega) az);have am:((a:Int)+(yo n:Int))=((a+yo n:Nat):Int):=by omega
 have an:((n:Int) - (yo n:Int))=((n - yo n:Nat):Int):=by omega
 rw [am,an] at ar;have HL:=zf (fun w (h:CS W0 w O A OP cb nb db pm nm C d t j m ((xr c (f+1) a (yo n)).length+(xr c (f+1) (a+yo n) (n - yo n)).length+k))=>ih A m ((xr c (f+1) (a+yo n) (n - yo n)).length+k) a (yo n) w (by omega) k3 k1 (by rw [← zes];exact h));have HR:=zf (fun A' m' w (h:CS W0 w O A' OP cb nb db pm nm C d t j m' ((xr c (f+1) (a+yo n) (n - yo n)).length+k))=>ih A' m' k (a+yo n) (n - yo n) w (by omega) k4 k2 h);have aC:Hid (∀ e z,vm (yz d.fs) j c (f+1) m a (yo n)=(.inl e,z)→vm (yz d.fs) j c (f+2) m a n=(.inl e,z)):=fun e z h=>zni he h;have aD:Hid (∀ x z e D,vm (yz d.fs) j c (f+1) m a (yo n)=(.inr x,z)→vm (yz d.fs) j c (f+1) z (a+yo n) (n - yo n)=(.inl e,D)→vm (yz d.fs) j c (f+2) m a n=(.inl e,D)):=fun x z e D h h'=>zlz he h h';have aF:Hid (∀ x z y D,vm (yz d.fs) j c (f+1) m a (yo n)=(.inr x,z)→vm (yz d.fs) j c (f+1) z (a+yo n) (n - yo n)=(.inr y,D)→vm (yz d.fs) j c (f+2) m a n=(.inr (jx x y),D)):=fun x z y D h h'=>zpy he h h';have HH:=zf h;have a3:=zf aS;have HN:Hid (n < 9223372036854775808∧a < 9223372036854775808):=⟨by omega,by omega⟩;have aZ:=zf aV;clear h aS aV he aW hl am an al ih k1 k2 k3 k4 k5 k6 hn az;generalize hL:lvl n=L at *;clear hL;generalize Lib.ctz 64 n=Z at *;generalize (xr c (f+1) (a+yo n) (n - yo n)).length=lr at *;generalize (xr c (f+1) a (yo n)).length=ll at *;generalize yo n=K at *;generalize a+K=B at *;generalize n - K=M at *;unfold spV yx;go_enter func167,ntmps167;go_wp2_with fail;have aO:Below w.heap.size w ((w.alloc (.cells #[.int .i64 a,.int .i64 n] 228)).alloc (.cells zcf 110)):=xu w _ _;have aR:((w.alloc (.cells #[.int .i64 a,.int .i64 n] 228)).alloc (.cells zcf 110)).heap[w.heap.size]?=some (.cells #[.int .i64 a,.int .i64 n] 228 (0,0)):=zj (zg _ _);have aQ:((w.alloc (.cells #[.int .i64 a,.int .i64 n] 228)).alloc (.cells zcf 110)).heap[w.heap.size+1]?=some (.cells (hv vg) 110 (0,0)):=by
  have:=zg (w.alloc (.cells #[.int .i64 a,.int .i64 n] 228)) (.cells zcf 110);rw [show(w.alloc (.cells #[.int .i64 a,.int .i64 n] 228)).heap.size=w.heap.size+1 by simp] at this;exact this
 have ao:=zf aO;have aJ:=zf aR;have aH:=zf aQ;clear aX aO aR aQ;generalize (w.alloc (.cells #[.int .i64 a,.int .i64 n] 228)).alloc (.cells zcf 110)=W1 at *;have a0:=zf (HH.o.below ao.o);refine(aL.o W1 (a3.o.below a0.o.base)).mono ?_;rintro r w1 ⟨rfl,rfl⟩;obtain⟨q0,-⟩:=zw aJ.o 0 _ rfl;obtain⟨q1,-⟩:=zw aJ.o 1 _ rfl;simp only [zdz,zan,zam] at q0 q1;have aY:wrap64 (L:Int)=(L:Int):=by unfold wrap64;omega
 go_wp2_with fail;rw [HQ.o,aY];refine(aB.o n HN.o.1 w1).mono ?_;rintro r w2 ⟨rfl,rfl⟩;generalize a6:((qg (L:Int) n:Nat):Int)=cc at *;have a7:(cc==1)=false:=by simpa using aZ.o
 clear a6 aY;go_wp2_with fail;refine(ar.o w2).mono ?_;rintro r S ⟨rfl,X⟩;go_wp2_with fail;have aP:Below w.heap.size w ((S.alloc (.cells #[.int .i64 a,.int .i64 K] 228)).alloc (.cells #[.int .i64 B,.int .i64 M] 228)):=ao.o.trans ((X.trans ((xu S _ _).mono X.size)).mono ao.o.size);have a2:Hid (((S.alloc (.cells #[.int .i64 a,.int .i64 K] 228)).alloc (.cells #[.int .i64 B,.int .i64 M] 228)).heap[S.heap.size+1]?=some (.cells #[.int .i64 B,.int .i64 M] 228 (0,0))):=by
  have:=zg (S.alloc (.cells #[.int .i64 a,.int .i64 K] 228)) (.cells #[.int .i64 B,.int .i64 M] 228);rw [show(S.alloc (.cells #[.int .i64 a,.int .i64 K] 228)).heap.size=S.heap.size+1 by simp] at this;exact this
 have aI:Hid (((S.alloc (.cells #[.int .i64 a,.int .i64 K] 228)).alloc (.cells #[.int .i64 B,.int .i64 M] 228)).heap[w.heap.size+1]?=some (.cells (hv vg) 110 (0,0))):=zj (zj ((X.block _ (zi aH.o)).trans aH.o));have E:=zf aP;clear aP X q0 q1;generalize (S.alloc (.cells #[.int .i64 a,.int .i64 K] 228)).alloc (.cells #[.int .i64 B,.int .i64 M] 228)=W4 at *;generalize S.heap.size=sb at *;have au:=zf (HL.o W4 (HH.o.below E.o));unfold spV yx at au;refine au.o.mono ?_;rintro r l ⟨ae,aj,a8⟩;have ax:Hid (w.heap.size+1 < W4.heap.size):=zi aI.o;have aw:=zf ae;have ag:=zf aj;have U:Hid (l.heap[w.heap.size+1]?=some (.cells (hv vg) 110 (0,0))):=ae.keep aI.o (by decide);have aK:Hid (l.heap[sb+1]?=some (.cells #[.int .i64 B,.int .i64 M] 228 (0,0))):=ae.keep a2.o (by decide);clear ae aj au HL aL aB ar a7;generalize vm (yz d.fs) j c (f+1) m a K=ML at *;obtain⟨o1,z⟩:=ML;simp only at *;have T:Hid (∀ x:zc,x.length=8→(zj0 (.pointer (some ⟨l.heap.size,0,none⟩)) (.agg (hv x))).run prog (l.alloc (.cells zcf 110))= .ok () ((l.alloc (.cells zcf 110)).setCells l.heap.size 0 (x.map bv))∧((l.alloc (.cells zcf 110)).setCells l.heap.size 0 (x.map bv)).heap[l.heap.size]?=some (.cells (hv x) 110 (0,0))∧Below l.heap.size l ((l.alloc (.cells zcf 110)).setCells l.heap.size 0 (x.map bv))):=by
  intro x hx;have Q:(l.alloc (.cells zcf 110)).heap[l.heap.size]?=some (.cells (vg.map bv).toArray 110 (0,0)):=zg _ _;have ay:=zb2 Q (ds:=x.map bv) (by simp [hx,vg]);exact⟨zgp (by have:=zb1 Q;simpa [vg] using this) hx,ay,xn (zk _ _) (zm _) _ _⟩
 rcases a8 with ⟨x,rfl,I,rfl⟩ | ⟨p,g,rfl,F,rfl⟩
 ·obtain⟨ad,Y,s⟩:=T.o x I;have a1:=zf Y;have H:=zf s;have aN:=zf I;have ab:=(s.block _ (zi aK.o)).trans aK.o;have bb:=zf ab;obtain⟨q0,-⟩:=zw ab 0 _ rfl;obtain⟨q1,-⟩:=zw ab 1 _ rfl;simp only [zdz,zan,zam] at q0 q1;clear Y s ab T I;go_wp2_with fail;generalize (l.alloc (.cells zcf 110)).setCells l.heap.size 0 (x.map bv)=V6 at *;have aE:Hid (∀ e D,vm (yz d.fs) j c (f+1) z B M=(.inl e,D)→vm (yz d.fs) j c (f+2) m a n=(.inl e,D)):=fun e D h'=>aD.o x z e D rfl h';have aG:Hid (∀ y D,vm (yz d.fs) j c (f+1) z B M=(.inr y,D)→vm (yz d.fs) j c (f+2) m a n=(.inr (jx x y),D)):=fun y D h'=>aF.o x z y D rfl h';have av:=zf (HR.o _ z V6 (ag.o.below H.o));unfold spV yx at av;refine av.o.mono ?_;rintro r i ⟨R,ak,a9⟩;have aM:Hid (i.heap[l.heap.size]?=some (.cells (hv x) 110 (0,0))):=R.keep a1.o (by decide);have V:Hid (i.heap[w.heap.size+1]?=some (.cells (hv vg) 110 (0,0))):=R.keep ((H.o.block _ (zi U.o)).trans U.o) (by decide);have ai:Hid (zq (fun b=>O b∨A b) qT w i):=(((zq.of_below E.o).trans (aw.o.mono (fun _ h=> .inl h) (fun _ h=>h))).then_below H.o).trans (R.mono (fun b q=>by
   rcases q with q | q | q
   ·exact .inl (.inl q)
   ·exact .inl (.inr q)
   ·exact .inr ⟨by have:=E.o.size;omega,zx q.2 H.o.size⟩) (fun _ h=>h))
  have ah:Hid (CS W0 i O (jz A W4 i) OP cb nb db pm nm C d t j (vm (yz d.fs) j c (f+1) z B M).2 k):=ak.mono (fun b q=>by
   have s1:=H.o.size;have s2:=R.size;rcases q with (q | q) | q
   ·exact .inl q
   ·exact .inr ⟨q.1,by omega⟩
   ·exact .inr ⟨by have:=aw.o.size;omega,q.2⟩) (fun b q=>by
   have s0:=HH.o.base.size;have s1:=E.o.size;rcases q with q | q
   ·exact .inl (.inl (.inl q))
   ·refine .inr ⟨by omega,q.2,fun hO=>?_,fun hO=>?_⟩
    ·have:=HH.o.lt b (.inl hO);omega
    ·have:=HH.o.lt b (.inr (.inr hO));omega)
  clear R ak av HR aC aD aF q0 q1 ad;generalize vm (yz d.fs) j c (f+1) z B M=MR at *;obtain⟨o2,D⟩:=MR;simp only at *;have T:Hid (∀ y:zc,y.length=8→(zj0 (.pointer (some ⟨i.heap.size,0,none⟩)) (.agg (hv y))).run prog (i.alloc (.cells zcf 110))= .ok () ((i.alloc (.cells zcf 110)).setCells i.heap.size 0 (y.map bv))∧((i.alloc (.cells zcf 110)).setCells i.heap.size 0 (y.map bv)).heap[i.heap.size]?=some (.cells (hv y) 110 (0,0))∧Below i.heap.size i ((i.alloc (.cells zcf 110)).setCells i.heap.size 0 (y.map bv))):=by
   intro y hy;have Q:(i.alloc (.cells zcf 110)).heap[i.heap.size]?=some (.cells (vg.map bv).toArray 110 (0,0)):=zg _ _;have ay:=zb2 Q (ds:=y.map bv) (by simp [hy,vg]);exact⟨zgp (by have:=zb1 Q;simpa [vg] using this) hy,ay,xn (zk _ _) (zm _) _ _⟩
  rcases a9 with ⟨y,rfl,af,rfl⟩ | ⟨p,g,rfl,F,rfl⟩
  ·obtain⟨ad,aa,u⟩:=T.o y af;have I:((i.alloc (.cells zcf 110)).setCells i.heap.size 0 (y.map bv)).heap[l.heap.size]?=some (.cells (hv x) 110 (0,0)):=(u.block _ (zi aM.o)).trans aM.o;have bc:=za5 (j6 (cs:=x.map bv) I) aN.o;have bd:=za5 (j6 (cs:=y.map bv) aa) af;have aA:=zf u;have a4:=zf af;clear aa u I T af;go_wp2_with fail;generalize (i.alloc (.cells zcf 110)).setCells i.heap.size 0 (y.map bv)=V8 at *;refine(zgd x y V8 aN.o a4.o).mono ?_;rintro r w9 ⟨rfl,aU⟩;have G:Below i.heap.size i w9:=aA.o.trans (aU.mono aA.o.size);obtain⟨e1,e2,e3,e4,e5⟩:=zsc HH.o ax.o ah.o E.o G (ai.o.then_below G) ((G.block _ (zi V.o)).trans V.o) (jx x y) (vb x y);have J:=zf e2;have N:=zf e3;have P:=zf e4;clear e2 e3 e4 e5 aU G;go_wp2_with fail;refine z8 (v:= .tuple #[.agg (hv (jx x y)),.nilIface]) (qa results167 _ _ (w.heap.size+1) 110 _ (0,0) _ rfl J.o underlying110 rfl (by rw [zm8,zay,vb]) _ rfl) rfl ?_;rw [aG.o _ _ rfl];exact⟨N.o,P.o,.inl ⟨_,rfl,vb x y,rfl⟩⟩
  ·obtain⟨ad,aa,u⟩:=T.o vg rfl;obtain⟨e1,e2,e3,e4,e5⟩:=zsc HH.o ax.o ah.o E.o u (ai.o.then_below u) ((u.block _ (zi V.o)).trans V.o) vg rfl;have aq:Hid (((i.alloc (.cells zcf 110)).setCells i.heap.size 0 (vg.map bv)).heap[g]?=some (.cells #[qo p,zd2 W 5] 179 (0,0))):=(u.block _ (zi F)).trans F;have J:=zf e2;have N:=zf e3;have P:=zf e4;have ap:=zf e5;have a5:=fun w0=>zsr w0;clear e2 e3 e4 e5 F aa u T;unfold za7;go_wp2_with fail;refine z8 (v:= .tuple #[.agg (hv vg),za7 g]) (qa results167 _ _ (w.heap.size+1) 110 _ (0,0) _ rfl J.o underlying110 rfl (by rw [zm8];rfl) _ rfl) rfl ?_;rw [aE.o _ _ rfl];exact⟨N.o,P.o,.inr ⟨p,g,rfl,ap.o.keep aq.o (by decide),rfl⟩⟩
 ·obtain⟨ad,Y,s⟩:=T.o vg rfl;have H:=zf s;have hT:zq (fun b=>O b∨A b) qT w ((l.alloc (.cells zcf 110)).setCells l.heap.size 0 (vg.map bv)):=((zq.of_below E.o).trans (aw.o.mono (fun _ h=> .inl h) (fun _ h=>h))).then_below s;obtain⟨e1,e2,e3,e4,e5⟩:=zsc HH.o ax.o ag.o E.o s hT ((s.block _ (zi U.o)).trans U.o) vg rfl;have aq:Hid (((l.alloc (.cells zcf 110)).setCells l.heap.size 0 (vg.map bv)).heap[g]?=some (.cells #[qo p,zd2 W 5] 179 (0,0))):=(s.block _ (zi F)).trans F;have J:=zf e2;have N:=zf e3;have P:=zf (e4.less (Nat.le_add_left _ _));have ap:=zf e5;have a5:=fun w0=>zsr w0;clear e2 e3 e4 e5 F Y s hT T;unfold za7;go_wp2_with fail;refine z8 (v:= .tuple #[.agg (hv vg),za7 g]) (qa results167 _ _ (w.heap.size+1) 110 _ (0,0) _ rfl J.o underlying110 rfl (by rw [zm8];rfl) _ rfl) rfl ?_;rw [aC.o _ _ rfl];exact⟨N.o,P.o,.inr ⟨p,g,rfl,ap.o.keep aq.o (by decide),rfl⟩⟩
theorem yjg (i:World)(g:Nat→Addr)(O s:Nat→Prop)(o x t z y:Nat)(C:Array Value)(d:Dk)(e:Int)(l:Mm)(c:Nat)(v:c < 9223372036854775808)(G:Env i)(H:zbz i g)(u:zjx i):∀ f,yfk i g O s o x t z y C d e l c f:=by
 have j:∀(f:Nat) (A:Nat→Prop) (m:Ms Nt) (k a n:Nat) (w:World),a+n≤c→1≤n→n / 4 ^ lvl n=1→CS i w O A s o x t z y C d e l m ((xr c (f+1) a n).length+k) →
   Calls prog 167 #[yx o,.int .i64 c,spV a n] w fun r D =>
    zq (fun b=>O b∨A b) qT w D∧CS i D O (jz A w D) s o x t z y C d e l (vm (yz d.fs) l c (f+1) m a n).2 k∧z9z g D (vm (yz d.fs) l c (f+1) m a n).1 r:=by
  intro f A m k a n w q B p h;rw [xr,if_pos p,zab,zsk] at h;exact yec i g O A s o x t z y C d e l m k c a n f v q B p w G H u h
 intro f
 induction f with
 | zero =>
  intro A m k a n w q B F h;obtain rfl:n=1:=by omega
  exact j 0 A m k a 1 w q (by omega) (by decide) h
 | succ f I =>
  intro A m k a n w q B F h
  by_cases p:n / 4 ^ lvl n=1
  ·exact j (f+1) A m k a n w q B p h
  ·have E:2≤n:=by
    rcases qu n 2 with h | h
    ·exact absurd (by
       obtain rfl:n=1:=by omega
       decide) p
    ·exact h
   exact yee i g O s o x t z y C d e l c f v u I A m k a n w q E F p h
end
variable {B cap off:Nat}{v x:Value}
def zg1 (B:Nat)(w:World)(x:Value)(ps:za):Prop:=w.ownsRow B 110 8 x ps.length (zug ps)
theorem ycd (ps:za)(p:zc):zug (ps++[p])=zug ps++(hv p).toList:=by simp [zug]
theorem ynp (a:List (Nat×Nat))(i:Nat)(h:i < a.length):(spv a)[i*2]?=some (.int .i64 (a[i].1:Int))∧(spv a)[i*2+1]?=some (.int .i64 (a[i].2:Int)):=by
 induction a generalizing i with
 | nil=>simp at h
 | cons s a b =>
  cases i with
  | zero=>simp [spv]
  | succ i =>
   have:=b i (by simpa using h);have e:spv (s::a)= .int .i64 (s.1:Int):: .int .i64 (s.2:Int)::spv a:=by simp [spv]
   rw [e,show(i+1)*2=i*2+1+1 by omega];simpa using this
theorem ymd (a:List (Nat×Nat)):(spv a).length=a.length*2:=by
 induction a with
 | nil=>rfl
 | cons s a b =>
  have e:spv (s::a)= .int .i64 (s.1:Int):: .int .i64 (s.2:Int)::spv a:=by simp [spv]
  rw [e];simp [b];omega
def Sps (w:World)(v:Value)(c:List (Nat×Nat)):Prop :=
 ∃ a d,v= .slice a c.length d∧c.length≤d∧(c=[]∨∃ b,a=some ⟨b,0,none⟩∧∀ i (h:i < c.length),w.cell? ⟨b,i*2,none⟩=some (.int .i64 (c[i].1:Int))∧w.cell? ⟨b,i*2+1,none⟩=some (.int .i64 (c[i].2:Int)))
theorem zxp {a:List (Nat×Nat)}(h:zf4 B w x a):Sps w x a:=by
 obtain⟨h0,h | ⟨g,c,d,rfl,q,l,t,v,y,p⟩⟩:=h
 ·obtain⟨rfl,k⟩:=h;have:a=[]:=by
   cases a with
   | nil=>rfl
   | cons s a=>simp at k
  subst this;exact⟨none,0,rfl,zm _,.inl rfl⟩
 ·refine⟨_,c,rfl,by omega,?_⟩;cases o:a with
  | nil=>exact .inl rfl
  | cons s r =>
   rw [← o];refine .inr ⟨g,rfl,fun i m=>?_⟩;obtain⟨e,f⟩:=ynp a i m;have u:=ymd a;have b:∀ j,j < a.length*2→w.cell? ⟨g,j,none⟩=(spv a)[j]?:=by
    intro j n;rw [yq _ _ _ _ _ _ l,← p];simp [n]
   rw [b _ (by omega),b _ (by omega)];exact⟨e,f⟩
theorem Sps.below {j:List (Nat×Nat)}(h:Sps w v j)(g:Below w.heap.size w w'):Sps w' v j:=by
 obtain⟨a,d,rfl,c,h⟩:=h;refine⟨a,d,rfl,c,?_⟩;rcases h with h | ⟨b,rfl,k⟩
 ·exact .inl h
 ·refine .inr ⟨b,rfl,fun i l=>?_⟩;obtain⟨e,f⟩:=k i l;exact⟨by rw [g.cell (p:=⟨b,i*2,none⟩) (yg (p:=⟨b,i*2,none⟩) e)];exact e,by rw [g.cell (p:=⟨b,i*2+1,none⟩) (yg (p:=⟨b,i*2+1,none⟩) f)];exact f⟩
theorem Bss.run {n:Nat}{es:za}(h:Bss w (.slice (some ⟨b,off,none⟩) n cap) es)(a k:Nat)(d:a+k≤es.length):Bss w (.slice (some ⟨b,off+a,none⟩) k (cap - a)) (run es (a,k)):=by
 have c:=h.drop a (by omega);have:=c.take k (by simp;omega);exact this
end Go.Proofs.YtlcllcgngjhoaaaGreatDoor
