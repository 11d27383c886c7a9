import Derived.Test.YtlcllcgngjhoaaaGreatDoorG47
set_option maxHeartbeats 8000000
set_option maxRecDepth 100000
set_option linter.all false
namespace Go.Proofs.YtlcllcgngjhoaaaGreatDoor
open Go.RowKit Go.Proofs.Tryz
theorem z2z (w:World)(n:Nat):Below w.heap.size w (w.drewN n):=⟨rfl,rfl,rfl,zm _,fun _ _=>rfl⟩
theorem znl (x y:Value)(e:List ByteArray)(w:World)(E:e.length≤1000000)(j:Sss w x e)(l:Sss w y e):
  Calls prog 25 #[x,y] w fun r v=>r= .returned (.bool true)∧Below w.heap.size w v:=by
 obtain⟨a,u,rfl,h,j⟩:=j;obtain⟨b,m,rfl,d,l⟩:=l;have s:=zf j;have t:=zf l;clear j l h d;go_enter func25,ntmps25;go_wp2_with fail;go_loopw [5] (fun i wr=>∃ k n:Nat,k≤e.length∧i= .int .i64 k∧wr=w.drewN n) (fun i _=>e.length - (intOf i).toNat)
 case atStart=>exact⟨0,0,yv _,rfl,rfl⟩
 case round =>
  obtain⟨k,n,D,rfl,rfl⟩:=hrel
  by_cases c:k < e.length
  ·rcases s.o with h0 | ⟨z,p,rfl,f⟩
   ·simp [h0] at c
   rcases t.o with h0 | ⟨A,q,rfl,g⟩
   ·simp [h0] at c
   have B:=f k c;have C:=g k c;clear f g;go_wp2_with fail
   go_quiet (fail)
   go_wp2_with fail
   go_roundw
   case rel=>exact⟨k+1,_,by omega,by go_num,rfl⟩
   case measure=>simp [intOf];omega
  ·go_wp2_with fail;go_ret;exact⟨rfl,z2z w _⟩
variable {B cap db m nb pb s wb:Nat}{N O:Nat→Prop}{T:List Nat}{W w w' w1 w4:World}{c:Cl}{d:Dk}{e:TypeId}{gs:Fs}{ls:za}{v:Value}{xs:List Value}
structure StA (W w:World)(wb db:Nat)(es:za)(key:zc)(d:Dk):Prop where
 blk:∃ lv ev x,WAt w wb db lv ev x∧x.key=key
 disk:yw w (fun k=>W.heap.size≤k∧k < w.heap.size) db d
 chk:Chp d.fs es es.length key
 apart:zff d.fs
 data:∀ f∈d.fs,f.2.length≤1048576
 few:d.fs.length≤800000000
 short:∀ e∈es,e.length≤20
theorem StA.of {n:Nat}{es:za}{a:zc}(h:RP W.heap.size w O wb db n es es.length a d)(j:n≤4100):StA W w wb db es a d:=by
 obtain⟨k,l,m,b,c,-,-,-,e,f,g,i,-⟩:=h.facts j;exact⟨⟨k,_,_,b,rfl⟩,c.mono h.own,h.chk,i,g,f,e⟩
theorem StA.turn {es:za}{g:zc}(h:StA W w wb db es g d)(j:zq O T w w')(m:42∉T)(n:82∉T)(o:99∉T):StA W w' wb db es g d:=by
 obtain⟨⟨r,l,x,q,i⟩,p,a,b,c,e,f⟩:=h;exact⟨⟨r,l,x,j.keep q m,i⟩,(p.stay j n o).mono (fun k i=>⟨i.1,zx i.2 j.size⟩),a,b,c,e,f⟩
theorem StA.below {es:za}{a:zc}(h:StA W w wb db es a d)(b:Below w.heap.size w w'):StA W w' wb db es a d :=
 h.turn (O:=fun _=>False) (T:=[]) (.of_below b) (by simp) (by simp) (by simp)
theorem StA.cells {es:za}{a:zc}(h:StA W w wb db es a d):w.cell? ⟨wb,0,none⟩=some (zdp db)∧w.cell? ⟨wb,1,none⟩=some (qo a):=by
 obtain⟨e,c,x,b,rfl⟩:=h.blk;exact⟨(zns b).1.1,(zns b).2.1.1⟩
theorem z5k {es:za}{l:zc}(n:Below W.heap.size W w)(h:StA W w wb db es l d)(o:Below w.heap.size w w4)(s:zdn w4 (fun k=>k=w.heap.size) w.heap.size db ⟨[],[],0⟩):Sh W w4 (fun k=>W.heap.size≤k∧k < w4.heap.size) w.heap.size db d ⟨[],[],0⟩:=by
 have b:=n.size;obtain⟨x,tv,y,m,q,⟨a,i,e,j⟩,r⟩:=s;have c:=zi m;refine⟨n.trans (o.mono b),fun _ h=>h,(h.below o).disk,⟨x,tv,⟨b,c⟩,m,q,⟨a,i,e,?_⟩,r⟩,⟨?_,fun f t=>?_,by simp,by simp,by simp,by simp⟩⟩
 ·rcases j with j | ⟨g,p,u,v⟩
  ·exact .inl j
  ·exact .inr ⟨g,p,by subst u;exact⟨b,c⟩,v⟩
 ·have:=h.few;omega
 ·have:=h.data f t;omega
theorem z9d {n:Nt}(b:Sh W w O nb db d n)(h:KC W w O pb nb c N)(e:zq N [zbx] w w1):Sh W w1 O nb db d n :=
 b.past e (fun k a=>(h.own k a).1) (by decide) (by decide) (by decide) (by decide) (by decide)
theorem zxl {n:Nt}{f:List Ly}(b:Sh W w O nb db d n)(h:KC W w O pb nb c N)(g:zq O [93] w w1)(m:zdn w1 (jz O w w1) nb db ⟨f,List.replicate f.length 0,n.fetches⟩)(q:f.length≤1048576)(p:∀ l∈f,l.data.length≤1048576):
  Sh W w1 (jz O w w1) nb db d ⟨f,List.replicate f.length 0,n.fetches⟩∧KC W w1 (jz O w w1) pb nb c N:=by
 have o:=b.base.size;refine⟨⟨b.base.trans (g.below (fun k a=>(b.own k a).1) o),fun k a=>?_,(b.disk.stay g (by decide) (by decide)).mono (fun _ h=> .inl h),m,⟨b.st.nf,b.st.fl,fun l i=>?_,?_,b.st.fe,fun t j=>?_⟩⟩,(h.other g (fun k a e=>(h.own k a).2.2 e) (by decide)).grow (fun k a e=>?_)⟩
 ·rcases a with a | a
  ·exact⟨(b.own k a).1,zx (b.own k a).2 g.size⟩
  ·exact⟨by omega,a.2⟩
 ·have:=p l i;omega
 ·show f.length≤_;omega
 ·obtain rfl:=(List.mem_replicate.1 j).2;exact⟨zfg _,b.st.fe⟩
 ·rcases e with e | e
  ·exact(h.own k a).2.2 e
  ·have:=(h.own k a).2.1;omega
theorem zsh {tb:Nat}{c:Array Value}(h:w.heap[tb]?=some (.cells c 52 (0,0)))(d:c.size=2)(u v:Value):zq (fun k=>k=tb) [52] w ((w.setCell ⟨tb,0,none⟩ u).setCell ⟨tb,1,none⟩ v)∧((w.setCell ⟨tb,0,none⟩ u).setCell ⟨tb,1,none⟩ v).heap[tb]?=some (.cells #[u,v] 52 (0,0)):=by
 refine⟨((zq.refl (fun k=>k=tb) [52] w).set (.inl rfl) h (by simp) _).set (.inl rfl) (zav h 0 _) (by simp) _,?_⟩;have:=zav (zav h 0 u) 1 v;rw [this]
 match c,d with
 | ⟨[a,b]⟩,_=>rfl
theorem z24 {fs:Fs}(a:zff fs)(h:gs.Perm fs)(L:List Ly)(p:zc):zaj gs L p=zaj fs L p:=by
 unfold zaj;rw [zgm a h]
theorem z5g {fs:Fs}(a:zff fs)(h:gs.Perm fs)(L:List Ly):qc gs L=qc fs L:=by
 funext p;rw [zlc,zlc,z24 a h]
theorem zwt {n:Nat}(h:w.ownsRow B e s v n xs)(c:1≤n):∃ g a,v= .slice (some ⟨g,0,none⟩) n a:=by
 rcases h.2 with ⟨rfl,h0⟩ | ⟨g,a,b,rfl,-⟩
 ·omega
 ·exact⟨g,a,rfl⟩
theorem z5w {a:Option Addr}(h:Tss w (.slice a ls.length cap) ls)(o:m≤ls.length):Tss w (.slice a m cap) (ls.take m):=by
 obtain⟨k,d,e,l,h⟩:=h;cases e;have g:(ls.take m).length=m:=by rw [vi];omega
 refine⟨a,cap,by rw [g],by omega,?_⟩;rcases h with h | ⟨b,c,f,j⟩
 ·exact .inl (by rw [h];simp)
 ·exact .inr ⟨b,c,f,fun i n=>by rw [j i (by omega),vv]⟩
theorem z4p {σ:Type}(fe:σ→zc→(zc×Bool)×σ)(con:Nat→Nat→zc→zc→za→Bool)(c:Cl)(m:Nat)(r:zc)(s:σ)(a:c.size=0)(b:0 < m):vt fe con c s m r=(.inr [],c.proved,s):=by
 unfold vt;rw [if_neg (by omega),if_neg (by omega),if_pos a]
theorem z0g {σ:Type}(fe:σ→zc→(zc×Bool)×σ)(con:Nat→Nat→zc→zc→za→Bool)(c:Cl)(m:Nat)(r:zc)(s:σ)(a:c.size=0)(b:0 < m):zi8 fe con c s (some (m,r))=(.inr [],{ c with size:=m,root:=r },s):=by
 unfold zi8;simp only;rw [z4p fe con c m r s a b]
theorem yb5 (fs:Fs)(x:zc):zaj fs [⟨cpF,x,false,0⟩] cpF=(x,true):=by
 generalize cpF=p;simp [zaj]
theorem zsy {fs:Fs}{n:Nt}{L:List Ly}(b:n.lies=L)(c:∀ l∈L,l.times=0):(yz fs n cpP).1.2=(zaj fs L cpF).2∧((yz fs n cpP).1.2=true→(yz fs n cpP).1.1=(zaj fs L cpF).1):=by
 have a:=(znp fs L c).says n cpP b;rw [yf9] at a ⊢;rw [zlc] at a;cases d:(yz fs n cpF).1.2<;>cases e:(zaj fs L cpF).2<;>simp_all
theorem zvq {key:zc}{x y:zc×Bool}{o q:Option (Nat×zc)}(h:x.2=y.2∧(x.2=true→x.1=y.1))(b:zkt key x o)(c:zkt key y q):o=q:=by
 cases a:y.2 with
 | false =>
  cases o with
  | some z=>obtain⟨n,r⟩:=z;have:=b.1;rw [h.1,a] at this;simp at this
  | none =>
   cases q with
   | none=>rfl
   | some z=>obtain⟨n,r⟩:=z;have:=c.1;rw [a] at this;simp at this
 | true =>
  obtain⟨e,f⟩:=x;obtain⟨g,i⟩:=y;simp only at h a;subst a;obtain⟨rfl,d⟩:=h;obtain rfl:=d rfl;cases q with
  | none =>
   cases o with
   | none=>rfl
   | some z =>
    obtain⟨n,r⟩:=z;rcases c with h | h
    ·simp at h
    ·exact absurd b.2 (h n r)
  | some z =>
   obtain⟨n,r⟩:=z;exact b.yes c.2
theorem z52 (W:World)(b6:Nat→Addr)(hE:Env W)(cY:zbz W b6)(cZ:zjx W)(wa da wv dv:Nat)(dA dB:Dk)(es:za)(ev lv:Value)(m:Nat)(b:zc)(L:List Ly)(w:World)(hW:Below W.heap.size W w)(hA:StA W w wa da es b dA)(hB:StA W w wv dv (es.take m) b dB)(b8:w.ownsRow 0 9 1 ev es.length (es.map qo))(dy:1≤m)(dz:m≤es.length)(he:es.length≤100)(ce:w.ownsRow 0 36 4 lv L.length (lcs L))(cV:∀ l∈L,l.times=0)(cU:∀ l∈L,l.data.length≤1048576)(dU:L.length≤100)(d:b.length≤1048576):
  Calls prog 8 #[yx wa,yx wv,ev,.int .i64 m,lv] w fun r w'=>r= .returned (.bool true)∧zq (fun k=>W.heap.size≤k) kcT w w':=by
 have cs:=zf hE;have cH:=zf cY;have cO:=zf cZ;have HW:=zf hW;have HA:=zf hA;have HB:=zf hB;have dp:=zf b8;have dq:=zf ce;have bV:=zf cV;have bU:=zf cU;have HK:Hid (b.length≤9223372036854775807):=zu d (by decide);obtain⟨c0,c1⟩:=hA.cells;obtain⟨eg,ec,rfl⟩:=zwt b8 (by omega);obtain⟨la,lc,rfl⟩:=qr ce;have bY:=zf (zt7 da w);unfold zdp yx at bY;unfold zdp at c0;unfold qo at c1;clear hE cY cZ hW hA hB b8 ce cV cU;unfold yx;go_enter func8,ntmps8;go_wp2_with fail;refine bY.o.mono ?_;rintro r w4 ⟨rfl,aK,cW⟩;have ay:=zf (z5k HW.o HA.o aK cW);have bQ:=zf (HA.o.below aK);have cq:=zf (HB.o.below aK);have cK:Hid (zq (fun k=>W.heap.size≤k) kcT w w4):= .of_below aK;have d1:w4.cell? ⟨wa,1,none⟩=some (.string ⟨b.toArray⟩):=bQ.o.cells.2;clear aK cW bY c0 c1;have dG:W.heap.size≤w4.heap.size:=ay.o.base.size;generalize dd:w.heap.size=nb at *;have bX:=zf dd;clear dd;have bW:=zf (yhe W (fun k=>W.heap.size≤k∧k < w4.heap.size) nb b 16 w4 dG (fun _ h=>h.2));unfold yx qo at bW;go_wp2_with fail;refine bW.o.mono ?_;rintro r w5 ⟨pf,rfl,aL,c5⟩;have ct:=zf c5;have bo:=zf (ay.o.below aL);have cm:=zf (bQ.o.below aL);have E:=zf (cq.o.below aL);have a0:=zf (cK.o.then_below aL);have bf:=zf (zo dp.o a0.o (by decide));have bj:=zf (zo dq.o a0.o (by decide));obtain⟨v0,-⟩:=E.o.cells;have cw:=zf (ziv _ dv wv dB w5 (by have:=E.o.few;omega) E.o.disk v0);clear aL c5 bW ay bQ cq cK d1 v0;go_wp2_with fail;refine cw.o.mono ?_;rintro r w6 ⟨fv,P,rfl,a,V,Q,-⟩;have a3:je P cpF=some (zbp m (qm (es.take m)) b):=by
  rw [zgm E.o.apart a];have hl:(es.take m).length=m:=by rw [vi];omega
  rcases E.o.chk.2 with ⟨-,h⟩ | ⟨h,-⟩
  ·omega
  ·rw [hl,ja (by omega)] at h;exact h
 have c4:∃ k,ixF P cpF=some k:=by
  cases hx:ixF P cpF with
  | some k=>exact⟨k,rfl⟩
  | none=>rw [(zci hx).1] at a3;simp at a3
 obtain⟨k,ca⟩:=c4;obtain⟨c6,-,cb,-⟩:=zb8 ca;have aM:P[k].2=zbp m (qm (es.take m)) b:=by rw [a3] at cb;simpa using cb.symm
 have dw:P.length≤1000000000:=by rw [a.length_eq];have:=E.o.few;omega
 have cy:Hid (ixI P cpF=k):=by show _=_;unfold ixI;rw [ca]
 have bT:=zf (zck fv P cpF w6 dw V);obtain⟨fa,fc,rfl,-,-⟩:=id V;obtain⟨-,-,dl⟩:=V.at;obtain⟨b1,o1,rfl,hx⟩:=dl (by omega);obtain⟨-,y1⟩:=hx k c6;rw [aM] at y1;have cu:=zf (ct.o.below Q);have bp:=zf (bo.o.below Q);have cn:=zf (cm.o.below Q);have cL:=zf (a0.o.then_below Q);have bg:=zf (ym bf.o Q);have bk:=zf (ym bj.o Q);have di:(zbp m (qm (es.take m)) b).length≤1048576:=by rw [← aM];exact zti a E.o.data _ (yd c6)
 have dt:Hid (zba (zbp m (qm (es.take m)) b) b m (qm (es.take m))):=⟨by omega,zsa _,rfl⟩;clear a V Q a3 ca cb aM hx dl cw ct bo cm E a0 bf bj;unfold qo at bT y1;generalize a2:zbp m (qm (es.take m)) b=ck at *;go_wp2_with fail;refine bT.o.mono ?_;rintro r w2 ⟨rfl,dk⟩;rw [dk,cy.o];clear dk w2 bT cy;have cB:Hid (Lss (w6.alloc (.cells #[qo cpF,qo ck,.bool false,.int .i64 0] 36)) (.slice (some ⟨w6.heap.size,0,none⟩) 1 1) [⟨cpF,ck,false,0⟩]):=zo2 (B:=0) (L:=[⟨cpF,ck,false,0⟩]) ⟨rfl,.inr ⟨w6.heap.size,1,#[qo cpF,qo ck,.bool false,.int .i64 0],rfl,yv _,zg _ _,zm _,by unfold maxLen;omega,rfl,rfl⟩⟩;have s:Hid (Below w6.heap.size w6 (w6.alloc (.cells #[qo cpF,qo ck,.bool false,.int .i64 0] 36))):=zk _ _;go_wp2_with fail;have bI:(Value.string ⟨#[99,104,101,99,107,112,111,105,110,116]⟩)=qo cpF:=rfl;rw [bI];clear bI;rw [show(Value.string ⟨ck.toArray⟩)=qo ck from rfl];generalize w6.alloc (.cells #[qo cpF,qo ck,.bool false,.int .i64 0] 36)=w7 at *;have cv:=zf (cu.o.below s.o);have T:=zf (bp.o.below s.o);have co:=zf (cn.o.below s.o);have cM:=zf (cL.o.then_below s.o);have bh:=zf (ym bg.o s.o);have bl:=zf (ym bk.o s.o);clear cu bp cn cL bg bk s y1;refine(zrv _ nb da ⟨[],[],0⟩ _ [⟨cpF,ck,false,0⟩] w7 (by simp) T.o.net cB.o).mono ?_;rintro r w8 ⟨rfl,Z,cX⟩;obtain⟨bK,bG⟩:=zxl T.o cv.o Z cX (by simp) (by intro l hl;rw [xm] at hl;subst hl;exact di);obtain⟨n8,bJ,dc,aS⟩:∃ n8:Nt,n8.lies=[⟨cpF,ck,false,0⟩]∧n8.fetches=0∧Sh W w8 (jz (fun k=>W.heap.size≤k∧k < w4.heap.size) w7 w8) nb da dA n8:=⟨_,rfl,rfl,bK⟩;have az:=zf aS;have bS:=zf bG;have cN:Hid (zq (fun k=>W.heap.size≤k) kcT w w8):=cM.o.trans (Z.mono (fun k d=> .inl (T.o.own k d).1) (by decide));have bi:=zf (zo bh.o Z (by decide));have bm:=zf (zo bl.o Z (by decide));have bR:=zf (co.o.turn Z (by decide) (by decide) (by decide));clear Z cX bK aS bG cB cv T cM bh bl co;generalize jz (fun k=>W.heap.size≤k∧k < w4.heap.size) w7 w8=O8 at *;have HU:=zf (zs3 b6 cs.o cH.o cO.o bS.o az.o (yhg b 16) (by omega) (by rw [dc];omega) HK.o bR.o.data (by intro l hl;rw [bJ,xm] at hl;subst hl;exact di));unfold yx at HU;go_wp2_with fail;refine HU.o.mono ?_;rintro r R ⟨q,o,c9,n9,x9,hq,cg,bH,⟨cc,a4⟩,⟨db,c3,bF⟩,-,-,rfl,dm,-,-,g1,g2,g3⟩;have dE:q=some (m,qm (es.take m)):=by
  obtain⟨f1,f2⟩:=zsy (fs:=dA.fs) (n:=n8) bJ (by intro l hl;rw [xm] at hl;subst hl;rfl);have e1:zaj dA.fs [⟨cpF,ck,false,0⟩] cpF=(ck,true):=yb5 _ _;rw [e1] at f1 f2;refine zvq (key:=b) ⟨f1,f2⟩ hq ?_;exact⟨rfl,dt.o⟩
 subst dE;rw [z0g _ _ _ _ _ _ rfl (by omega)] at cg;simp only [ye] at cg;obtain⟨rfl,c2,rfl⟩:=cg;have x:Hid (c9.size=m∧c9.root=qm (es.take m)∧c9.proved=[]∧c9.key=b):=by rw [← c2];exact⟨rfl,rfl,rfl,rfl⟩
 clear c2;have cr:=zf g3;have bq:=zf g2;have cz:=zf bH;have ds:Hid (∀ k,jz (fun k=>w4.heap.size≤k∧k < w5.heap.size) w8 R k→k < R.heap.size):=fun k d=>(g3.own k d).2.1;have cD:=zf (And.intro c3 bF);have dM:=zf db;have b3:Hid (zq (fun k=>W.heap.size≤k) kcT w R):=cN.o.trans (g1.mono (fun k d=>by
  rcases d with d | d
  ·exact .inl (az.o.own k d).1
  ·exact .inl (bS.o.own k d).1) (fun _ h=>h))
 have cI:Hid (w.heap.size≤R.heap.size):=b3.o.size;have am:=zf (zo bi.o g1 (by decide));have bn:=zf (zo bm.o g1 (by decide));have cp:=zf (bR.o.turn g1 (by decide) (by decide) (by decide));have bO:R.ownsRow w8.heap.size 9 1 x9 0 []:=dm;obtain⟨dZ,ea,rfl⟩:=qr bO;have bL:∀ ps:za,zl0 (ze9 (Sum.inr ps:Sum Er (za))).2= .agg #[.int .i64 0,.string ⟨#[]⟩]:=fun _=>rfl;rw [bL];clear HU hq bH cc a4 db c3 bF dm bO bL g1 g2 g3 az bS cN bi bm bR;generalize (yz dA.fs n8 cpP).2=n9 at *;have aA:Hid ((R.alloc (.cells #[.int .i64 0,.string ⟨#[]⟩] 52)).heap[R.heap.size]?=some (.cells #[.int .i64 0,.string ⟨#[]⟩] 52 (0,0))):=zg _ _;have c:Hid (Below R.heap.size R (R.alloc (.cells #[.int .i64 0,.string ⟨#[]⟩] 52))):=zk _ _;have dC:m≤ec:=by
  rcases am.o.2 with ⟨h,-⟩ | ⟨g,dR,dS,h,-,-,dN,-⟩
  ·simp at h
  ·simp at h;omega
 go_wp2_with fail;generalize R.alloc (.cells #[.int .i64 0,.string ⟨#[]⟩] 52)=dK at *;have bc:=zf (cr.o.below c.o);have av:=zf (bq.o.below c.o);have a7:=zf (cp.o.below c.o);have aG:=zf (b3.o.then_below c.o);have H:=zf (ym am.o c.o);have an:=zf (ym bn.o c.o);have dH:(es.take m).length=m:=by rw [vi];omega
 refine(zg7 (.slice (some ⟨eg,0,none⟩) m ec) (es.take m) dK (by omega) HB.o.short (z5w (zha H.o) dz)).mono ?_;rintro r dL ⟨rfl,i⟩;have S:=zf (bc.o.below i);have aw:=zf (av.o.below i);have a8:=zf (a7.o.below i);have aH:=zf (aG.o.then_below i);have ai:=zf (ym H.o i);have ao:=zf (ym an.o i);have aC:Hid (dL.heap[R.heap.size]?=some (.cells #[.int .i64 0,.string ⟨#[]⟩] 52 (0,0))):=(i.block _ (zi aA.o)).trans aA.o;have a1:=zf (zv9 S.o);rw [x.o.1,x.o.2.1] at a1;clear i cr bq cp b3 am bn c aA bc av a7 aG H an dH dC HB;unfold yx qo at a1;have cP:Hid (nb≤R.heap.size):=bX.o▸cI.o;generalize jz (fun k=>w4.heap.size≤k∧k < w5.heap.size) w8 R=N9 at *;generalize R.heap.size=j at *;generalize dF:qm (es.take m)=bP at *;go_wp2_with fail;refine a1.o.mono ?_;rintro r aY ⟨rfl,t,aN⟩;have bd:=zf aN;have z:=zf (z9d aw.o S.o t);have a9:=zf (a8.o.turn t (by decide) (by decide) (by decide));have aI:Hid (zq (fun k=>W.heap.size≤k) kcT w aY):=aH.o.trans (t.mono (fun k d=> .inl (S.o.own k d).1) (by decide));have aj:=zf (zo ai.o t (by decide));have I:=zf (zo ao.o t (by decide));have K:Hid (aY.heap[j]?=some (.cells #[.int .i64 0,.string ⟨#[]⟩] 52 (0,0))):=t.keep aC.o (by decide);have q0:=(zw K.o 0 _ rfl).1;have cA:=zf (zrv _ nb da n9 _ L aY (by omega) z.o.net (zo2 I.o));clear t aN a1 S aw a8 aH ai ao aC;go_wp2_with fail;refine cA.o.mono ?_;rintro r ab ⟨rfl,v,bD⟩;obtain⟨aR,aO⟩:=zxl z.o bd.o v bD (by omega) bU.o;obtain⟨aa,C,aP,Y⟩:∃ aa:Nt,aa.lies=L∧aa.fetches=n9.fetches∧Sh W ab (jz O8 aY ab) nb da dA aa:=⟨⟨L,List.replicate L.length 0,n9.fetches⟩,rfl,rfl,aR⟩;have J:=zf Y;have af:=zf aO;have br:Hid (zq (fun k=>W.heap.size≤k) kcT w ab):=aI.o.trans (v.mono (fun k d=> .inl (z.o.own k d).1) (by decide));have ak:=zf (zo aj.o v (by decide));have ap:=zf (zo I.o v (by decide));have ad:=zf (a9.o.turn v (by decide) (by decide) (by decide));have M:Hid (ab.heap[j]?=some (.cells #[.int .i64 0,.string ⟨#[]⟩] 52 (0,0))):=v.keep K.o (by decide);clear v bD aR Y aO cA bd z aI aj I a9 K q0;generalize jz O8 aY ab=dP at *;have b4:=zf (zs3 b6 cs.o cH.o cO.o af.o J.o cz.o (by omega) (by rw [aP];have:=cD.o;omega) (by rw [x.o.2.2.2];exact HK.o) ad.o.data (by rw [C];exact bU.o));unfold yx at b4;go_wp2_with fail;refine b4.o.mono ?_;rintro r a6 ⟨q2,o2,dQ,dV,dY,dh,bM,cd,-,⟨c7,-,-⟩,-,-,rfl,aV,aW,-,g1,g2,g3⟩;have be:=zf g3;have ax:=zf g2;have bs:Hid (zq (fun k=>W.heap.size≤k) kcT w a6):=br.o.trans (g1.mono (fun k d=>by
  rcases d with d | d
  ·exact .inl (J.o.own k d).1
  ·exact .inl (af.o.own k d).1) (fun _ h=>h))
 have al:=zf (zo ak.o g1 (by decide));have aq:=zf (zo ap.o g1 (by decide));have ba:=zf (ad.o.turn g1 (by decide) (by decide) (by decide));have ah:Hid (∀ k,jz N9 ab a6 k→¬ k=j):=fun k d e=>by
  subst e;rcases d with d | d
  ·have:=ds.o k d;omega
  ·have:=zi M.o;omega
 have A:Hid (a6.heap[j]?=some (.cells #[.int .i64 0,.string ⟨#[]⟩] 52 (0,0))):=g1.keep M.o (by decide);have cF:=zf dh;have ag:=zf C;have cR:=zf bM;have bx:=zf aV;have dO:=zf aW;have b9:Hid (aa.lies=L):=C;obtain⟨xa,xc,rfl⟩:=qr aV;clear g1 g2 g3 b4 J af br ak ap ad M dh bM aV aW cd C aP c7;unfold zl0;generalize dj:(ze9 o2).2=tt at *;obtain⟨tn,tp⟩:=tt;have cQ:=zf dj;clear dj;have q0:=zw A.o 0 _ rfl;have q1:=zw A.o 1 _ rfl;obtain⟨q0,dn⟩:=q0;obtain⟨q1,dJ⟩:=q1;have F:=zf (zsh A.o rfl (.int .i64 tn) (.string ⟨tp.toArray⟩));have cx:Hid (w.heap.size≤j):=by show _≤_;rw [bX.o];exact cP.o
 have bt:=zf ((bs.o.setNew cx.o 0 (.int .i64 tn)).setNew cx.o 1 (.string ⟨tp.toArray⟩));go_wp2_with fail;generalize (a6.setCell ⟨j,0,none⟩ (.int .i64 tn)).setCell ⟨j,1,none⟩ (.string ⟨tp.toArray⟩)=dW at *;have ae:=zf (be.o.other F.o.1 ah.o (by decide));have b2:=zf (ax.o.past F.o.1 (fun k d=>by subst d;exact zu HW.o.size (bX.o▸cP.o)) (by decide) (by decide) (by decide) (by decide) (by decide));have bZ:=zf (zo al.o F.o.1 (by decide));have ar:=zf (zo aq.o F.o.1 (by decide));have bb:=zf (ba.o.turn F.o.1 (by decide) (by decide) (by decide));have bz:=zf (zo bx.o F.o.1 (by decide));have aD:=zf F.o.2;have aF:=zf (zv9 ae.o);unfold yx qo at aF;clear be ax bs al aq ba bx A F ah q0 q1 dn dJ;refine aF.o.mono ?_;rintro r ch ⟨rfl,y,-⟩;have bu:Hid (zq (fun k=>W.heap.size≤k) kcT w ch):=bt.o.trans (y.mono (fun k d=> .inl (ae.o.own k d).1) (by decide));have au:=zf (zo ar.o y (by decide));have D:=zf (bb.o.turn y (by decide) (by decide) (by decide));have bA:=zf (zo bz.o y (by decide));have N:Hid (ch.heap[j]?=some (.cells #[.int .i64 tn,.string ⟨tp.toArray⟩] 52 (0,0))):=y.keep aD.o (by decide);obtain⟨c0,-⟩:=D.o.cells;have cC:=zf (yap _ da wa dA _ L ch (by have:=D.o.few;omega) (by omega) D.o.disk c0 (zo2 au.o));clear y c0 aF ae b2 bt bZ ar bb bz aD;go_wp2_with fail;refine cC.o.mono ?_;rintro r ci ⟨dI,b7,rfl,de,a,G,df⟩;have b0:=zf a;have bw:=zf (bu.o.then_below G);have f:=zf (D.o.below G);have bB:=zf (ym bA.o G);have O:Hid (ci.heap[j]?=some (.cells #[.int .i64 tn,.string ⟨tp.toArray⟩] 52 (0,0))):=(G.block _ (zi N.o)).trans N.o;have bE:∃ k,ixF b7 cpF=some k:=by
  cases hx:ixF b7 cpF with
  | some k=>exact⟨k,rfl⟩
  | none =>
   have h1:=(zci hx).1;rw [zgm f.o.apart a] at h1;rcases f.o.chk.2 with ⟨-,h⟩ | ⟨h,-⟩
   ·omega
   ·rw [h1] at h;simp at h
 have b5:=zf (ymo dI b7 L b m bP ci df (by rw [a.length_eq];have:=f.o.few;omega) (by omega) (zti a f.o.data) bU.o bE d dy (by omega) (by rw [← dF];exact zsa _));have k1:ci.cell? ⟨wa,1,none⟩=some (.string ⟨b.toArray⟩):=f.o.cells.2;unfold yx qo at b5;clear de a G df cC bu au D bA N bE;unfold yx;go_wp2_with fail;refine b5.o.mono ?_;rintro r cj ⟨oq,dX,a2,dg,rfl,U,aQ,a5⟩;have dD:oq=q2:=by
  have h1:=cF.o;rw [x.o.2.2.2] at h1;rw [z24 f.o.apart b0.o] at a2;exact(zvq (zsy ag.o bV.o) h1 a2).symm
 subst dD;rw [z5g f.o.apart b0.o] at aQ a5 ⊢;have cf:=yj3 (znp dA.fs L bV.o).says_file (con:=zc7) ((znp dA.fs L bV.o).keep aa cpP ag.o) x.o.2.2.1 (by rw [x.o.1];omega) (fun n r h=>(dg n r h).1) cR.o;rw [x.o.1,x.o.2.1] at cf;have aB:=zf (bw.o.then_below U);have bC:=zf (ym bB.o U);have aE:Hid (cj.heap[j]?=some (.cells #[.int .i64 tn,.string ⟨tp.toArray⟩] 52 (0,0))):=(U.block _ (zi O.o)).trans O.o;obtain⟨q0,-⟩:=zw aE.o 0 _ rfl;obtain⟨q1,-⟩:=zw aE.o 1 _ rfl;generalize zj1 zc7 (qc dA.fs L) m bP oq=u at *;obtain⟨uf,uw,us,ux⟩:=u;simp only at aQ a5 cf ⊢;have cE:=zf aQ;have cS:=zf a5;obtain⟨ua,uc,rfl⟩:=qr aQ;clear a2 dg U aQ a5 b5 cF cR bw bB O f b0 k1 ag b9;rcases cf with ⟨er,rfl,rfl,du,X,rfl⟩ | ⟨ps,rfl,hu⟩
 ·have aU:er.n=tn∧er.p=tp:=by have:=cQ.o;simpa [ze9,erT] using this
  obtain⟨h1,h2⟩:=aU;rw [h1] at du X ⊢;rw [h2] at X;have aX:(ze9 (Sum.inl er:Sum Er (za))).1.length=0:=rfl;rw [aX,x.o.1,x.o.2.1];have dr:=zf X;clear X h1 h2 aX
  by_cases h6:tn=6
  ·have aZ:=zf (zyk (.slice ua uw.length uc) uw tp cj (by have:=cS.o;omega) (Sss.of_tb cE.o));have dx:tp∈uw:=dr.o h6;rw [decide_eq_true dx] at aZ;unfold qo at aZ;subst h6;go_wp2_with fail;refine aZ.o.mono ?_;rintro r cl ⟨rfl,bN⟩;rw [bN];clear bN cl aZ;unfold qo;go_wp2_with fail;go_ret;exact⟨by simp,aB.o⟩
  ·unfold qo;go_wp2_with fail;go_ret;exact⟨by simp,aB.o⟩
 ·have aU:(0:Int)=tn∧([]:zc)=tp:=by have:=cQ.o;simpa [ze9] using this
  obtain⟨rfl,rfl⟩:=aU;simp only [ye] at hu;obtain⟨rfl,rfl,rfl,rfl⟩:=hu;have aX:(ze9 (Sum.inr uw:Sum Er (za))).1=uw:=rfl;rw [aX] at bC ⊢;have cG:=zf (znl (.slice xa uw.length xc) (.slice ua uw.length uc) (uw.map tb) cj (by rw [yi];exact cS.o) (Sss.of_tb bC.o) (Sss.of_tb cE.o));clear aX;unfold qo;go_wp2_with fail;refine cG.o.mono ?_;rintro r cl ⟨rfl,aJ⟩;have cJ:=zf (aB.o.then_below aJ);have dn:cl.cell? ⟨j,0,none⟩=some (.int .i64 0):=(aJ.cell (p:=⟨j,0,none⟩) (yg q0)).trans q0;clear aJ cG;go_wp2_with fail;go_ret;exact⟨by simp,cJ.o⟩
variable {ix:Int}
def zvj (fs:Fs)(L:List Ly)(p:zc):Option (za):=if (zaj fs L p).2 then zd6 (zaj fs L p).1 else none
theorem zuo (fs:Fs)(L:List Ly)(p:zc):(qc fs L p).bind zd6=zvj fs L p:=by
 rw [zlc];unfold zvj;cases (zaj fs L p).2<;>rfl
theorem yfy {fs:Fs}{L:List Ly}{w:Nat}{es:za}(h:zvj fs L (qq (-1) ix w)=some es)(a:es.length=w):zh0 (qc fs L) ix w=some es:=by
 unfold zh0;rw [zuo,h];simp [a]
theorem ybk {fs:Fs}{L:List Ly}{w:Nat}(h:∀ es,zvj fs L (qq (-1) ix w)=some es→es.length≠w):zh0 (qc fs L) ix w=zh0.again (qc fs L) ix:=by
 unfold zh0;rw [zuo];cases a:zvj fs L (qq (-1) ix w) with
 | none=>rfl
 | some es=>simp [h es a]
theorem z6w {fs:Fs}{L:List Ly}{es:za}(h:zvj fs L (qq (-1) ix 4)=some es)(a:es.length=4):zh0.again (qc fs L) ix=some es:=by
 unfold zh0.again;rw [zuo,h];simp [a]
theorem ybj {fs:Fs}{L:List Ly}(h:∀ es,zvj fs L (qq (-1) ix 4)=some es→es.length≠4):zh0.again (qc fs L) ix=none:=by
 unfold zh0.again;rw [zuo];cases a:zvj fs L (qq (-1) ix 4) with
 | none=>rfl
 | some es=>simp [h es a]
theorem zyq (fs:Fs)(L:List Ly)(p:zc)(n:Nat):(∃ es,(zaj fs L p).2=true∧zd6 (zaj fs L p).1=some es∧es.length=n∧zvj fs L p=some es) ∨
  ((∀ es,zvj fs L p=some es→es.length≠n)∧((zaj fs L p).2=false∨((zaj fs L p).2=true∧(zd6 (zaj fs L p).1).isSome=false)∨((zaj fs L p).2=true∧(zd6 (zaj fs L p).1).isSome=true∧¬(((zd6 (zaj fs L p).1).getD []).length:Int)=n))):=by
 unfold zvj;cases d:(zaj fs L p).2 with
 | false=>exact .inr ⟨by simp,.inl rfl⟩
 | true =>
  cases e:zd6 (zaj fs L p).1 with
  | none=>exact .inr ⟨by simp,.inr (.inl ⟨rfl,rfl⟩)⟩
  | some es =>
   by_cases b:es.length=n
   ·exact .inl ⟨es,rfl,rfl,b,by simp⟩
   ·exact .inr ⟨fun c a=>by simp at a;subst a;exact b,.inr (.inr ⟨rfl,rfl,by simp only [Option.getD];omega⟩)⟩
theorem z8v {fs:Fs}{L:List Ly}{a:Nat}(hC:LkC W nb fs L a)(n:Nat)(mb:Option Nat)(i:Nat)(hi:i < a)(Q:za)(aj:Q.length≤1000000)(w:World)(hW:Below W.heap.size W w)(h:vy w n mb nb a Q):
  Calls prog 27 #[yx n,.int .i64 i] w fun r w'=>(∃ ok,r= .returned (.tuple #[qo (zrj (qc fs L) a i),.bool ok]))∧Lkd w w' n mb nb a (Q++zcj (qt (qc fs L)) [(zv a (-1) i,i % 4)]):=by
 obtain⟨wd,ay,az,aq,ar,e1,e2,e3⟩:=zyw (qc fs L) a i hi;have ax:=hC.sz;have al:Hid (Q.length≤1000000000):=zu aj (by decide);have l:=zf e1;have m:=zf e3;have X:=zf h;have C:=zf hC;obtain⟨mv,y,e,G⟩:=h;have R:=zf hW;have x0:w.cell? ⟨n,0,none⟩=some (yx nb):=by rw [yq _ _ _ _ _ _ y];rfl
 have x1:w.cell? ⟨n,1,none⟩=some (.int .i64 a):=by rw [yq _ _ _ _ _ _ y];rfl
 have ap:=ju y;clear y e hW G e1 e2 e3 aj;have I:((i / 4:Nat):Int)=(i:Int) / 4:=by omega
 have M:∀(W1:World) (v:Int),Calls prog 59 #[.int .i64 (-1),.int .i64 ((i:Int) / 4),.int .i64 v] W1 fun r w'=>r= .returned (.string ⟨(qq (-1) ((i / 4:Nat):Int) v).toArray⟩)∧Below W1.heap.size W1 w':=fun W1 v=>by rw [← I];exact zjq (-1) ((i / 4:Nat):Int) v (by omega) W1
 have HN:=zf M;clear M I;unfold yx at x0 ⊢;go_enter func27,ntmps27;have ad:Hid (((a:Int) - (i:Int) / 4*4≤4→(a:Int) - (i:Int) / 4*4=wd)∧(¬(a:Int) - (i:Int) / 4*4≤4→Value.int .i64 4= .int .i64 (wd:Int))):=⟨fun h=>by omega,fun h=>by rw [show(wd:Int)=4 by omega]⟩;clear aq
 by_cases h4:(a:Int) - (i:Int) / 4*4≤4
 all_goals
  go_wp2_with fail
  first
   | rw [ad.o.1 h4]
   | rw [ad.o.2 h4]
  refine(HN.o _ _).mono ?_;rintro r w1 ⟨rfl,D⟩;have y0:w1.cell? ⟨n,0,none⟩=some (.pointer (some ⟨nb,0,none⟩)):=by rw [D.cell (p:=⟨n,0,none⟩) ap];exact x0
  have T:=zf D;have am:Hid (zso w1 nb fs L):=C.o.net.below (R.o.trans (D.mono R.o.size));clear D h4 x0 x1;generalize H:qq (-1) ((i / 4:Nat):Int) wd=B at *;go_wp2_with fail;refine(znh nb fs L B w1 C.o.nf C.o.nl am.o).mono ?_;rintro r w2 ⟨rfl,ae⟩;have U:=zf (T.o.trans (ae.mono T.o.size));have aa:=zf (zw8 ⟨(zaj fs L B).1.toArray⟩ w2 (zur C.o B));clear ae y0;unfold qo;go_wp2_with fail;refine aa.o.mono ?_;rintro r w3 ⟨x3,rfl,af,f⟩;have t:=zf (U.o.trans (af.mono U.o.size));have au:Hid (zso w3 nb fs L):=C.o.net.below (R.o.trans (t.o.mono R.o.size));have z0:w3.cell? ⟨n,0,none⟩=some (.pointer (some ⟨nb,0,none⟩)):=by obtain⟨mv,y,-,-⟩:=X.o.below t.o;rw [yq _ _ _ _ _ _ y];rfl
  obtain⟨a3,c3,rfl,E,f⟩:=f;simp only [yi] at E f ⊢;clear af aa;rcases zyq fs L B wd with ⟨es,A,k2,k3,S⟩ | ⟨k0,A⟩
  ·have u:=zf (yfy (by rw [H];exact S) k3);rw [k2] at E f ⊢;simp only [Option.getD,Option.isSome] at E f ⊢;have c:i % 4 < es.length:=by omega
   obtain⟨b3,o3,rfl,hx⟩:∃ b d,a3=some ⟨b,d,none⟩∧∀ j (hj:j < es.length),w3.cell? ⟨b,d+j,none⟩=some (.string ⟨es[j].toArray⟩):=by
    rcases f with h | ⟨b,d,h1,h2⟩
    ·have h0:es=[]:=by simpa using h
     rw [h0] at c;simp at c
    ·exact⟨b,d,h1,fun j hj=>(h2 j hj).trans (by rw [za4];rfl)⟩
   have hy:=hx (i % 4) c;have HV:Hid (zrj (qc fs L) a i=es[i % 4]):=by
    show _=_;rw [l.o,u.o];simp [c]
   have Y:Hid (zcj (qt (qc fs L)) [(zv a (-1) i,i % 4)]=[]):=m.o.trans (by rw [u.o];rfl);clear hx f u k2 S l m;generalize zaj fs L B=q at *;obtain⟨s,ok⟩:=q;simp only at A;subst A;generalize es[i % 4]=v at *;go_wp2_with fail
   go_ret2
   refine⟨⟨true,by rw [HV.o];rfl⟩,?_⟩;rw [Y.o,za3];exact X.o.same t.o
  ·have N:=zf (ybk (by rw [H];exact k0));clear k0 f E;have M:=zf H;clear H;generalize (zd6 (zaj fs L B).1).isSome=yb at *;generalize ((zd6 (zaj fs L B).1).getD []).length=yn at *;generalize zaj fs L B=q at *;obtain⟨s,ok⟩:=q;simp only at A;rcases A with rfl | ⟨rfl,rfl⟩ | ⟨rfl,rfl,k3⟩
   all_goals
    go_wp2_with fail;refine(HN.o _ 4).mono ?_;rintro r w4 ⟨rfl,P⟩;have J:=zf (t.o.trans (P.mono t.o.size));have an:Hid (zso w4 nb fs L):=C.o.net.below (R.o.trans (J.o.mono R.o.size));have z1:w4.cell? ⟨n,0,none⟩=some (.pointer (some ⟨nb,0,none⟩)):=by rw [P.cell (p:=⟨n,0,none⟩) (yg z0)];exact z0
    clear P z0;generalize ai:qq (-1) ((i / 4:Nat):Int) 4=O at *;go_wp2_with fail;refine(znh nb fs L O w4 C.o.nf C.o.nl an.o).mono ?_;rintro r w5 ⟨rfl,ag⟩;have V:=zf (J.o.trans (ag.mono J.o.size));have ab:=zf (zw8 ⟨(zaj fs L O).1.toArray⟩ w5 (zur C.o _));clear ag z1;unfold qo;go_wp2_with fail;refine ab.o.mono ?_;rintro r w6 ⟨x6,rfl,ah,g⟩;have K:=zf (V.o.trans (ah.mono V.o.size));have ak:=zf (X.o.below K.o);obtain⟨a6,c6,rfl,F,g⟩:=g;simp only [yi] at F g ⊢;clear ah ab;rcases zyq fs L O 4 with ⟨es,A,k2,k3,S⟩ | ⟨k0,A⟩
    ·have u:=zf (N.o.trans (z6w (by rw [ai];exact S) k3));rw [k2] at F g ⊢;simp only [Option.getD,Option.isSome] at F g ⊢;have c:i % 4 < es.length:=by omega
     obtain⟨b3,o3,rfl,hx⟩:∃ b d,a6=some ⟨b,d,none⟩∧∀ j (hj:j < es.length),w6.cell? ⟨b,d+j,none⟩=some (.string ⟨es[j].toArray⟩):=by
      rcases g with h | ⟨b,d,h1,h2⟩
      ·have h0:es=[]:=by simpa using h
       rw [h0] at c;simp at c
      ·exact⟨b,d,h1,fun j hj=>(h2 j hj).trans (by rw [za4];rfl)⟩
     have hy:=hx (i % 4) c;have HV:Hid (zrj (qc fs L) a i=es[i % 4]):=by
      show _=_;rw [l.o,u.o];simp [c]
     have Y:Hid (zcj (qt (qc fs L)) [(zv a (-1) i,i % 4)]=[]):=m.o.trans (by rw [u.o];rfl);clear hx g u k2 S l m;generalize zaj fs L O=q at *;obtain⟨s,ok⟩:=q;simp only at A;subst A;generalize es[i % 4]=v at *;go_wp2_with fail
     go_ret2
     refine⟨⟨true,by rw [HV.o];rfl⟩,?_⟩;rw [Y.o,za3];exact X.o.same K.o
    ·have u:=zf (N.o.trans (ybj (by rw [ai];exact k0)));have HV:Hid (zrj (qc fs L) a i=[]):=by show _=_;rw [l.o,u.o];simp
     have Y:Hid (zcj (qt (qc fs L)) [(zv a (-1) i,i % 4)]=[B]):=m.o.trans (by rw [u.o];rfl);obtain⟨mv,y,e,G⟩:=ak.o;obtain⟨ma,mc,rfl⟩:=qr e;have z2:w6.cell? ⟨n,2,none⟩=some (.slice ma Q.length mc):=by rw [yq _ _ _ _ _ _ y];rfl
     have HG:=zf y;have HO:=zf e;have Z:=zf G;have ao:Hid (n+1≤w6.heap.size):=ju y;clear k0 g F u l m N y e G;generalize (zd6 (zaj fs L O).1).isSome=zb at *;generalize ((zd6 (zaj fs L O).1).getD []).length=zn at *;generalize zaj fs L O=q at *;obtain⟨s2,aA⟩:=q;simp only at A;rcases A with rfl | ⟨rfl,rfl⟩ | ⟨rfl,rfl,S⟩
     all_goals
      go_wp2_with (at_builtin;refine zg2 w6 rfl _ _ rfl (n+1) ao.o (.slice ma Q.length mc) Q rfl HO.o B _ rfl rfl al.o ?_;intro v' w7 k z x;have HX:=zf (zzc HG.o z k x);obtain⟨aw,av⟩:=zw (z.keep HG.o (by decide)) 2 _ rfl;obtain⟨ya,yc,he⟩:=qr k;subst he;clear k z x)
      go_ret2
      refine⟨⟨false,by rw [HV.o];rfl⟩,?_⟩;rw [Y.o,← Z.o];exact Lkd.before (Z.o▸X.o) K.o (by have h:=HX.o;rw [zy] at h;exact h)
end Go.Proofs.YtlcllcgngjhoaaaGreatDoor
