import Derived.Test.YtlcllcgngjhoaaaGreatDoorG48
set_option maxHeartbeats 8000000
set_option maxRecDepth 100000
set_option linter.all false
namespace Go.Proofs.YtlcllcgngjhoaaaGreatDoor
open Go.RowKit Go.Proofs.Tryz
def z18 (w a:World)(x:Value)(ps:za):Prop:=a.ownsRow w.heap.size 9 1 x ps.length (ps.map txt)
theorem z72 (w b:World)(z:za)(a:z=[]):z18 w b (.slice none 0 0) z:=by
 subst a;exact⟨rfl,.inl ⟨rfl,rfl⟩⟩
theorem z84 (f:Nat)(b p c i:Nat)(a:List ByteArray)(w:World)(h2:2≤a.length)(hn:a.length≤1000000)(U:i < yo a.length)(aa:a.length≤c)(u:∀ s∈a,s.size < maxLen)(h:Sss w (.slice (some ⟨b,p,none⟩) a.length c) a)(hf:a.length≤f+1)(T:f≤1000000)
 (ih:∀(v:Value) (a:List ByteArray) (i:Int) (w:World),1≤a.length→a.length≤f→0≤i→i < a.length→(∀ s∈a,s.size < maxLen)→Sss w v a→Calls prog 31 #[v,.int .i64 i] w fun r q=>∃ x,r= .returned x∧Below w.heap.size w q∧z18 w q x (ze3 f (bys a) i.toNat)) :
  Calls prog 31 #[.slice (some ⟨b,p,none⟩) a.length c,.int .i64 i] w fun r q=>∃ x,r= .returned x∧Below w.heap.size w q∧z18 w q x (ze3 (f+1) (bys a) i):=by
 obtain⟨t,hi,C⟩:=zz.1 zps;obtain⟨G,I,J⟩:t.zero=some (.string ⟨#[]⟩)∧t.size=1∧t.bytes=16:=by simpa using C
 clear C;have HI:=zf hi;have O:=zf (And.intro G (And.intro I J));clear hi G I J;obtain⟨k1,k2,k3⟩:=vz a.length h2;unfold z18;have Q:=jq a;rw [zk8 f (bys a) i (by omega) (by rw [Q];exact U),yy,zy,zab,Q];clear Q;have hk:yo a.length≤a.length:=by omega
 have X:=zf u;have H:=zf h;have Y:=zf (ih (.slice (some ⟨b,p,none⟩) (yo a.length) c) (a.take (yo a.length)) (i:Int));have RT:=zf (zpb f);have f1:(a.take (yo a.length)).length≤f:=by simp;omega
 have f2:(a.drop (yo a.length)).length≤f:=by simp;omega
 have f3:1≤(a.take (yo a.length)).length:=by simp;omega
 have f4:(a.drop (yo a.length)).length≤1000000:=by simp;omega
 have f5:0≤((i:Int):Int):=by omega
 have f6:(i:Int) < ((a.take (yo a.length)).length:Int):=by simp;omega
 have F:=zf (And.intro f1 (And.intro f2 (And.intro f3 (And.intro f4 (And.intro f5 f6)))));clear f1 f2 f3 f4 f5 f6;have HE:Hid (((i:Int):Int).toNat=i):=(by omega:((i:Int):Int).toNat=i);rw [HE.o,zf7] at Y;have W:=zf (zu (zt4 f ((bys a).take (yo a.length)) (i)) T);have N:=zf (zvl a (yo a.length));generalize hR:zaf f ((bys a).drop (yo a.length))=R at *;have HR:=zf hR;generalize ze3 f ((bys a).take (yo a.length)) (i)=P at *;have n2:((a.length:Int)==1)=false:=yk.2 (by omega);clear u h ih hR;have c1:(yo a.length:Int)≤(c:Int):=by omega
 have c2:(yo a.length:Int)≤(a.length:Int):=by omega
 have c3:(0:Int)≤(yo a.length:Int):=by omega
 have c6:IntKind.i64.wrap ((i:Int))=(i:Int):=by rw [zf2];omega
 have c5:¬ c=yo a.length:=by omega
 have c4:(i:Int) < (yo a.length:Int):=by omega
 go_enter func31,ntmps31;go_wp2_with fail;refine(zee a.length _ h2 (zu hn (by decide))).mono ?_;rintro e q ⟨rfl,hw⟩;rw [hw];clear hw q;go_wp2_with fail;refine(Y.out _ F.out.2.2.1 F.out.1 F.out.2.2.2.2.1 F.out.2.2.2.2.2 (fun l u=>X.o l (qh u)) (by exact H.o.take _ hk)).mono ?_;rintro e w1 ⟨y,rfl,B,E⟩;have n:=zf B;have A:Hid (w1.ownsRow w.heap.size 9 1 y P.length (P.map txt)):=E;clear B E;go_wp2_with fail;refine(RT.out _ (a.drop (yo a.length)) _ F.out.2.1 F.out.2.2.2.1 (fun l u=>X.o l (zb5 u)) (by exact(H.o.drop _ hk).below n.o)).mono ?_;rintro e z ⟨hr,k⟩;rw [N.o,HR.o] at hr;subst hr;have j:=zf (n.o.trans (k.mono n.o.size));have L:Hid (∀ o,(z.alloc o).ownsRow w.heap.size 9 1 y P.length (P.map txt)):=fun o=>ym A.o (k.trans ((zk z o).mono k.size));have V:Hid (w.heap.size≤z.heap.size):=j.o.size;clear k;unfold txt;go_wp2_with (at_builtin;refine zaa _ rfl _ _ _ rfl w.heap.size 9 t (.string ⟨#[]⟩) 1 16 underlying22 HI.o O.o.1 O.o.2.1 O.o.2.2 rfl (by omega) y P.length _ rfl (L.o _) ⟨z.heap.size,0,none⟩ 1 1 [.string ⟨R.toArray⟩] rfl rfl (xj (zg _ _)) (by simp [Value.oneCell']) (by omega) (by have:=W.o;unfold maxLen;omega) (by have:=W.o;omega) (by have:=V.out;simp;omega) (z.heap.size+1) (by simp) ?_;intro g Z w3 m d S D);have K:Hid (Below w.heap.size w w3):=((j.o.trans ((zk z _).mono j.o.size)).grown d (by have:=j.o.size;simp;omega) (vq A.o));have M:=zf m;clear d S D m;go_wp2_with fail;go_ret;exact⟨_,rfl,K.o,M.o⟩
theorem z5c (f:Nat)(b p c i:Nat)(a:List ByteArray)(w:World)(h2:2≤a.length)(hn:a.length≤1000000)(U:¬ i < yo a.length)(ab:i < a.length)(aa:a.length≤c)(u:∀ s∈a,s.size < maxLen)(h:Sss w (.slice (some ⟨b,p,none⟩) a.length c) a)(hf:a.length≤f+1)(T:f≤1000000)
 (ih:∀(v:Value) (a:List ByteArray) (i:Int) (w:World),1≤a.length→a.length≤f→0≤i→i < a.length→(∀ s∈a,s.size < maxLen)→Sss w v a→Calls prog 31 #[v,.int .i64 i] w fun r q=>∃ x,r= .returned x∧Below w.heap.size w q∧z18 w q x (ze3 f (bys a) i.toNat)) :
  Calls prog 31 #[.slice (some ⟨b,p,none⟩) a.length c,.int .i64 i] w fun r q=>∃ x,r= .returned x∧Below w.heap.size w q∧z18 w q x (ze3 (f+1) (bys a) i):=by
 obtain⟨t,hi,C⟩:=zz.1 zps;obtain⟨G,I,J⟩:t.zero=some (.string ⟨#[]⟩)∧t.size=1∧t.bytes=16:=by simpa using C
 clear C;have HI:=zf hi;have O:=zf (And.intro G (And.intro I J));clear hi G I J;obtain⟨k1,k2,k3⟩:=vz a.length h2;unfold z18;have Q:=jq a;rw [zjo f (bys a) i (by omega) (by rw [Q];exact U),yy,zy,zab,Q];clear Q;have hk:yo a.length≤a.length:=by omega
 have X:=zf u;have H:=zf h;have Y:=zf (ih (.slice (some ⟨b,p+yo a.length,none⟩) (a.length - yo a.length) (c - yo a.length)) (a.drop (yo a.length)) ((i:Int) - (yo a.length:Int)));have RT:=zf (zpb f);have f1:(a.drop (yo a.length)).length≤f:=by simp;omega
 have f2:(a.take (yo a.length)).length≤f:=by simp;omega
 have f3:1≤(a.drop (yo a.length)).length:=by simp;omega
 have f4:(a.take (yo a.length)).length≤1000000:=by simp;omega
 have f5:0≤((i:Int) - (yo a.length:Int):Int):=by omega
 have f6:(i:Int) - (yo a.length:Int) < ((a.drop (yo a.length)).length:Int):=by simp;omega
 have F:=zf (And.intro f1 (And.intro f2 (And.intro f3 (And.intro f4 (And.intro f5 f6)))));clear f1 f2 f3 f4 f5 f6;have HE:Hid (((i:Int) - (yo a.length:Int):Int).toNat=i - yo a.length):=(by omega:((i:Int) - (yo a.length:Int):Int).toNat=i - yo a.length);rw [HE.o,zvl] at Y;have W:=zf (zu (zt4 f ((bys a).drop (yo a.length)) (i - yo a.length)) T);have N:=zf (zf7 a (yo a.length));generalize hR:zaf f ((bys a).take (yo a.length))=R at *;have HR:=zf hR;generalize ze3 f ((bys a).drop (yo a.length)) (i - yo a.length)=P at *;have n2:((a.length:Int)==1)=false:=yk.2 (by omega);clear u h ih hR;have c1:(yo a.length:Int)≤(c:Int):=by omega
 have c2:(yo a.length:Int)≤(a.length:Int):=by omega
 have c3:(0:Int)≤(yo a.length:Int):=by omega
 have c6:IntKind.i64.wrap ((i:Int) - (yo a.length:Int))=(i:Int) - (yo a.length:Int):=by rw [zf2];omega
 have c5:¬ c=yo a.length:=by omega
 have c4:¬(i:Int) < (yo a.length:Int):=by omega
 go_enter func31,ntmps31;go_wp2_with fail;refine(zee a.length _ h2 (zu hn (by decide))).mono ?_;rintro e q ⟨rfl,hw⟩;rw [hw];clear hw q;go_wp2_with fail;refine(Y.out _ F.out.2.2.1 F.out.1 F.out.2.2.2.2.1 F.out.2.2.2.2.2 (fun l u=>X.o l (zb5 u)) (by exact H.o.drop _ hk)).mono ?_;rintro e w1 ⟨y,rfl,B,E⟩;have n:=zf B;have A:Hid (w1.ownsRow w.heap.size 9 1 y P.length (P.map txt)):=E;clear B E;go_wp2_with fail;refine(RT.out _ (a.take (yo a.length)) _ F.out.2.1 F.out.2.2.2.1 (fun l u=>X.o l (qh u)) (by exact(H.o.take _ hk).below n.o)).mono ?_;rintro e z ⟨hr,k⟩;rw [N.o,HR.o] at hr;subst hr;have j:=zf (n.o.trans (k.mono n.o.size));have L:Hid (∀ o,(z.alloc o).ownsRow w.heap.size 9 1 y P.length (P.map txt)):=fun o=>ym A.o (k.trans ((zk z o).mono k.size));have V:Hid (w.heap.size≤z.heap.size):=j.o.size;clear k;unfold txt;go_wp2_with (at_builtin;refine zaa _ rfl _ _ _ rfl w.heap.size 9 t (.string ⟨#[]⟩) 1 16 underlying22 HI.o O.o.1 O.o.2.1 O.o.2.2 rfl (by omega) y P.length _ rfl (L.o _) ⟨z.heap.size,0,none⟩ 1 1 [.string ⟨R.toArray⟩] rfl rfl (xj (zg _ _)) (by simp [Value.oneCell']) (by omega) (by have:=W.o;unfold maxLen;omega) (by have:=W.o;omega) (by have:=V.out;simp;omega) (z.heap.size+1) (by simp) ?_;intro g Z w3 m d S D);have K:Hid (Below w.heap.size w w3):=((j.o.trans ((zk z _).mono j.o.size)).grown d (by have:=j.o.size;simp;omega) (vq A.o));have M:=zf m;clear d S D m;go_wp2_with fail;go_ret;exact⟨_,rfl,K.o,M.o⟩
theorem yef (i:Nat)(v:Value)(c:List ByteArray)(w:World)(e:c.length=1)(h:Sss w v c):
  Calls prog 31 #[v,.int .i64 i] w fun r f=>r= .returned (.slice none 0 0)∧Below w.heap.size w f:=by
 obtain⟨a,d,rfl,b,-⟩:=h;rw [e];clear b;go_enter func31,ntmps31
 go_wp2
 go_ret;exact⟨rfl,yf _ _⟩
theorem zz0 (f:Nat)(z:f≤1000000):∀(v:Value) (c:List ByteArray) (i:Int) (w:World),1≤c.length→c.length≤f→0≤i→i < c.length→(∀ s∈c,s.size < maxLen)→Sss w v c→Calls prog 31 #[v,.int .i64 i] w fun r k=>∃ x,r= .returned x∧Below w.heap.size w k∧z18 w k x (ze3 f (bys c) i.toNat):=by
 induction f with
 | zero=>intro v c i w m o;omega
 | succ f u =>
  intro v c i w m p j A t h;obtain⟨n,rfl⟩:=qv j
  by_cases o:c.length=1
  ·refine(yef n v c w o h).mono ?_;rintro r k ⟨rfl,y⟩;exact⟨_,rfl,y,z72 _ _ _ (zkk _ _ _ (by rw [jq];omega))⟩
  have l:=h;obtain⟨a,e,rfl,d,h⟩:=h;rcases h with h | ⟨b,g,rfl,-⟩
  ·simp [h] at m
  by_cases q:n < yo c.length
  ·exact z84 f b g e n c w (by omega) (by omega) q d t l p (by omega) (u (by omega))
  ·exact z5c f b g e n c w (by omega) (by omega) q (by omega) d t l p (by omega) (u (by omega))
variable {ix:Int}
theorem ykm {say:Say}{w:Nat}{es:za}(h:zh0 say ix w=some es):∀ e∈es,e.length≤20:=by
 have b:∀(o:Option (zc)) (c:za),o.bind zd6=some c→∀ e∈c,e.length≤20:=fun o c g=>by
  cases o with
  | none=>simp at g
  | some d=>exact ya2 (d:=d) (by simpa using g)
 have f:zh0.again say ix=some es→∀ e∈es,e.length≤20:=fun h=>by
  unfold zh0.again at h;cases a:(say (qq (-1) ix 4)).bind zd6 with
  | none=>rw [a] at h;simp at h
  | some c =>
   rw [a] at h;simp only at h;split at h
   ·cases h;exact b _ _ a
   ·simp at h
 unfold zh0 at h;cases a:(say (qq (-1) ix w)).bind zd6 with
 | none=>rw [a] at h;exact f h
 | some c =>
  rw [a] at h;simp only at h;split at h
  ·cases h;exact b _ _ a
  ·exact f h
theorem ykz (say:Say)(a i:Nat)(c:i < a):(zrj say a i).length≤20:=by
 obtain⟨w,-,-,-,-,e,-⟩:=zyw say a i c;rw [e];cases b:zh0 say ((i / 4:Nat):Int) w with
 | none=>simp
 | some es =>
  simp only [Option.getD];rw [zl];cases d:es[i % 4]? with
  | none=>simp
  | some x=>exact ykm b x (List.mem_of_getElem? d)
theorem ygn {fs:Fs}{p x:zc}(h:je fs p=some x):zaj fs [] p=(x,true):=by
 unfold zaj;simp [h]
theorem ybd (W:World)(bB:Nat→Addr)(hE:Env W)(dS:zbz W bB)(dU:zjx W)(wa da:Nat)(G:Dk)(es:za)(ev lv:Value)(i:Nat)(aa:zc)(L:List Ly)(w:World)(hW:Below W.heap.size W w)(hA:StA W w wa da es aa G)(dc:w.ownsRow 0 9 1 ev es.length (es.map qo))(hi:i < es.length)(he:es.length≤100)(df:w.ownsRow 0 36 4 lv L.length (lcs L))(dQ:∀ l∈L,l.times=0)(dP:∀ l∈L,l.data.length≤1048576)(eO:L.length≤100)(d:aa.length≤1048576):
  Calls prog 9 #[yx wa,ev,.int .i64 i,lv] w fun r w'=>r= .returned (.bool true)∧zq (fun k=>W.heap.size≤k) kcT w w':=by
 have bT:=zf hE;have bX:=zf dS;have bZ:=zf dU;have HW:=zf hW;have HA:=zf hA;have et:=zf dc;have ew:=zf df;have eu:=zf dQ;have dB:=zf dP;have HK:Hid (aa.length≤9223372036854775807):=zu d (by decide);obtain⟨c0,c1⟩:=hA.cells;obtain⟨eg,ec,rfl⟩:=zwt dc (by omega);obtain⟨la,lc,rfl⟩:=qr df;have cY:=zf (zt7 da w);unfold zdp yx at cY;unfold zdp at c0;unfold qo at c1;clear hE dS dU hW hA dc df dQ dP;unfold yx;go_enter func9,ntmps9;go_wp2_with fail;refine cY.o.mono ?_;rintro r w4 ⟨rfl,b1,dR⟩;have bq:=zf (z5k HW.o HA.o b1 dR);have cR:=zf (HA.o.below b1);have dN:Hid (zq (fun k=>W.heap.size≤k) kcT w w4):= .of_below b1;have d1:w4.cell? ⟨wa,1,none⟩=some (.string ⟨aa.toArray⟩):=cR.o.cells.2;clear b1 dR cY c0 c1;have eE:W.heap.size≤w4.heap.size:=bq.o.base.size;generalize dZ:w.heap.size=nb at *;have a4:=zf dZ;clear dZ;have cX:=zf (yhe W (fun k=>W.heap.size≤k∧k < w4.heap.size) nb aa 16 w4 eE (fun _ h=>h.2));unfold yx qo at cX;go_wp2_with fail;refine cX.o.mono ?_;rintro r w8 ⟨pf,rfl,b2,dX⟩;have cU:=zf dX;obtain⟨n8,aU,bH,cN⟩:∃ n8:Nt,n8.lies=[]∧n8.fetches=0∧Sh W w8 (fun k=>W.heap.size≤k∧k < w4.heap.size) nb da G n8:=⟨⟨[],[],0⟩,rfl,rfl,bq.o.below b2⟩;have br:=zf cN;have aW:=zf (cR.o.below b2);have bY:=zf (dN.o.then_below b2);have cr:=zf (zo et.o bY.o (by decide));have ct:=zf (zo ew.o bY.o (by decide));clear b2 dX cX bq cR dN d1 cN;generalize (fun k=>W.heap.size≤k∧k < w4.heap.size)=O8 at *;have HU:=zf (zs3 bB bT.o bX.o bZ.o cU.o br.o (yhg aa 16) (by omega) (by rw [bH];omega) HK.o aW.o.data (by rw [aU];simp));unfold yx at HU;go_wp2_with fail;refine HU.o.mono ?_;rintro r w9 ⟨q,o,c9,n9,x9,hq,dj,cL,⟨de,b3⟩,⟨eA,dd,cI⟩,-,-,rfl,eh,-,-,Z,g2,g3⟩;obtain⟨c',n',bM,ee,cH⟩:=z5u aW.o.chk aU aW.o.short (zcy he (by decide)) (by omega) (ym2 es aa 16) (yv _) rfl hq;have eD:q=some (es.length,qm es):=by
  obtain⟨f1,f2⟩:=zsy (fs:=G.fs) (n:=n8) aU (by simp);have eB:je G.fs cpF=some (zbp es.length (qm es) aa):=by
   rcases aW.o.chk.2 with ⟨-,h⟩ | ⟨h,-⟩
   ·omega
   ·rw [jg] at h;exact h
  rw [ygn eB] at f1 f2;refine zvq (key:=aa) ⟨f1,f2⟩ hq ?_;exact⟨rfl,by omega,zsa _,rfl⟩
 subst eD;rw [z0g _ _ _ _ _ _ rfl (by omega)] at dj bM;simp only [ye] at dj bM;obtain⟨rfl,c6,rfl⟩:=dj;obtain⟨-,cG,-⟩:=bM;have dV:c'=c9:=cG.symm.trans c6;subst dV;have A:Hid (c'.size=es.length∧c'.root=qm es∧c'.proved=[]∧c'.key=aa):=by rw [← c6];exact⟨rfl,rfl,rfl,rfl⟩
 clear c6 cG;have dw:=zf g3;have bs:=zf g2;have dz:=zf cL;have ck:=zf cH;have ex:Hid (∀ k,jz (fun k=>w4.heap.size≤k∧k < w8.heap.size) w8 w9 k→k < w9.heap.size):=fun k d=>(g3.own k d).2.1;have cp:Hid (0≤((yz G.fs n8 cpP).2).fetches∧((yz G.fs n8 cpP).2).fetches≤20000):=by rw [bH] at dd cI;exact⟨dd,by omega⟩
 have c3:Hid (zq (fun k=>W.heap.size≤k) kcT w w9):=bY.o.trans (Z.mono (fun k d=>by
  rcases d with d | d
  ·exact .inl (br.o.own k d).1
  ·exact .inl (cU.o.own k d).1) (fun _ h=>h))
 have dM:Hid (w.heap.size≤w9.heap.size):=c3.o.size;have cs:=zf (zo cr.o Z (by decide));have bi:=zf (zo ct.o Z (by decide));have dv:=zf (aW.o.turn Z (by decide) (by decide) (by decide));have cQ:w9.ownsRow w8.heap.size 9 1 x9 0 []:=eh;obtain⟨eU,eV,rfl⟩:=qr cQ;have cO:∀ ps:za,zl0 (ze9 (Sum.inr ps:Sum Er (za))).2= .agg #[.int .i64 0,.string ⟨#[]⟩]:=fun _=>rfl;rw [cO];clear HU hq cL de b3 eA dd cI eh cQ cO Z g2 g3 br cU bY cr ct aW ee cH aU bH;generalize (yz G.fs n8 cpP).2=n9 at *;have b0:Hid (nb≤w9.heap.size):=a4.o▸dM.o;generalize jz (fun k=>w4.heap.size≤k∧k < w8.heap.size) w8 w9=N9 at *;have cw:Hid ((w9.alloc (.cells #[.int .i64 0,.string ⟨#[]⟩] 52)).heap[w9.heap.size]?=some (.cells #[.int .i64 0,.string ⟨#[]⟩] 52 (0,0))):=zg _ _;have f:Hid (Below w9.heap.size w9 (w9.alloc (.cells #[.int .i64 0,.string ⟨#[]⟩] 52))):=zk _ _;have dD:=zf (zrv _ nb da n9 _ L (w9.alloc (.cells #[.int .i64 0,.string ⟨#[]⟩] 52)) (by omega) (bs.o.below f.o).net (zo2 (ym bi.o f.o)));go_wp2_with fail;refine dD.o.mono ?_;generalize w9.alloc (.cells #[.int .i64 0,.string ⟨#[]⟩] 52)=em at *;have ce:=zf (dw.o.below f.o);have aE:=zf (bs.o.below f.o);have b9:=zf (dv.o.below f.o);have bz:=zf (c3.o.then_below f.o);have a8:=zf (ym cs.o f.o);have bf:=zf (ym bi.o f.o);generalize w9.heap.size=a at *;rintro r aX ⟨rfl,U,cF⟩;obtain⟨bL,bE⟩:=zxl aE.o ce.o U cF (by omega) dB.o;obtain⟨b5,bG,aJ,aV⟩:∃ b5:Nt,b5.lies=L∧b5.fetches=n9.fetches∧Sh W aX (jz O8 em aX) nb da G b5:=⟨⟨L,List.replicate L.length 0,n9.fetches⟩,rfl,rfl,bL⟩;have aF:=zf aV;have a2:=zf bE;have cy:Hid (zq (fun k=>W.heap.size≤k) kcT w aX):=bz.o.trans (U.mono (fun k d=> .inl (aE.o.own k d).1) (by decide));have a9:=zf (zo a8.o U (by decide));have bg:=zf (zo bf.o U (by decide));have ca:=zf (b9.o.turn U (by decide) (by decide) (by decide));have aG:Hid (aX.heap[a]?=some (.cells #[.int .i64 0,.string ⟨#[]⟩] 52 (0,0))):=U.keep cw.o (by decide);clear U cF bL aV bE dD ce aE bz a8 bf b9 dw bs dv c3 cs bi f cw;generalize jz O8 em aX=dO at *;have c2:=zf (z01 bB bT.o bX.o bZ.o a2.o aF.o dz.o (by omega) (by rw [aJ];have:=cp.o;omega) i (by rw [A.o.1];exact hi));unfold yx at c2;go_wp2_with fail;refine c2.o.mono ?_;rintro r b8 ⟨o2,eN,aK,nn,eT,ed,bF,-,⟨dY,dW,bD⟩,-,-,rfl,eC,cM,bN,dk,-,Z,g2,g3⟩;have cf:=zf g3;have bn:=zf g2;have a3:=zf bF;have cz:Hid (zq (fun k=>W.heap.size≤k) kcT w b8):=cy.o.trans (Z.mono (fun k d=>by
  rcases d with d | d
  ·exact .inl (aF.o.own k d).1
  ·exact .inl (a2.o.own k d).1) (fun _ h=>h))
 have ba:=zf (zo a9.o Z (by decide));have bh:=zf (zo bg.o Z (by decide));have cb:=zf (ca.o.turn Z (by decide) (by decide) (by decide));have a6:Hid (∀ k,jz N9 aX b8 k→¬ k=a):=fun k d e=>by
  subst e;rcases d with d | d
  ·have:=ex.o k d;omega
  ·have:=zi aG.o;omega
 have ag:Hid (b8.heap[a]?=some (.cells #[.int .i64 0,.string ⟨#[]⟩] 52 (0,0))):=Z.keep aG.o (by decide);have dH:=zf bG;have dK:=zf ed;have cC:=zf bN;have cq:=zf cM;have a5:Hid (aK.fetches≤40000):=by have:=cp.o;show _≤_;rw [aJ] at bD;omega
 obtain⟨xa,xc,rfl⟩:=qr bN;clear Z g2 g3 c2 aF a2 cy a9 bg ca aG ed bN dk bF bG aJ dY dW bD eC cM;unfold zl0;generalize ef:(zhi o2).2.2=tt at *;obtain⟨tn,tp⟩:=tt;have c4:=zf ef;clear ef;obtain⟨q0,dq⟩:=zw ag.o 0 _ rfl;obtain⟨q1,dr⟩:=zw ag.o 1 _ rfl;have au:=zf (zsh ag.o rfl (.int .i64 tn) (.string ⟨tp.toArray⟩));have dx:Hid (w.heap.size≤a):=by show _≤_;rw [a4.o];exact b0.o
 have cA:=zf ((cz.o.setNew dx.o 0 (.int .i64 tn)).setNew dx.o 1 (.string ⟨tp.toArray⟩));have al:=zf (cb.o.turn au.o.1 (by decide) (by decide) (by decide));obtain⟨c0,-⟩:=al.o.cells;have dI:=zf (yap _ da wa G _ L _ (by have:=al.o.few;omega) (by omega) al.o.disk c0 (zo2 (zo bh.o au.o.1 (by decide))));unfold qo;clear c0;go_wp2_with fail;refine dI.o.mono ?_;generalize (b8.setCell ⟨a,0,none⟩ (.int .i64 tn)).setCell ⟨a,1,none⟩ (.string ⟨tp.toArray⟩)=eS at *;have cg:=zf (cf.o.other au.o.1 a6.o (by decide));have bo:=zf (bn.o.past au.o.1 (fun k d=>by subst d;exact zu HW.o.size (a4.o▸b0.o)) (by decide) (by decide) (by decide) (by decide) (by decide));have bb:=zf (zo ba.o au.o.1 (by decide));have cD:=zf (zo cC.o au.o.1 (by decide));have aH:=zf au.o.2;clear cf bn cz ba bh cb cC ag au a6 q0 q1 dq dr;rintro r t ⟨b7,ah,rfl,ea,ai,F,eb⟩;have dJ:=zf ai;have ch:=zf (cg.o.below F);have bp:=zf (bo.o.below F);have cB:=zf (cA.o.then_below F);have ab:=zf (al.o.below F);have cE:=zf (ym cD.o F);have aC:=zf (ym bb.o F);have aI:Hid (t.heap[a]?=some (.cells #[.int .i64 tn,.string ⟨tp.toArray⟩] 52 (0,0))):=(F.block _ (zi aH.o)).trans aH.o;have cW:Hid (LkC t b7 ah L es.length):=⟨eb,by rw [ai.length_eq];have:=ab.o.few;omega,by omega,zti ai ab.o.data,dB.o,by omega⟩;have dL:Hid (qc ah L=qc G.fs L):=z5g ab.o.apart dJ.o L;clear ea ai F eb dI cg bo cA al cD bb aH;have bV:Hid (vy (t.alloc (.cells #[yx b7,.int .i64 (es.length:Int),.slice none 0 0] 68)) t.heap.size none b7 es.length []):=⟨_,zg _ _,⟨rfl,.inl ⟨rfl,rfl⟩⟩,rfl⟩;have bS:Hid (Below t.heap.size t (t.alloc (.cells #[yx b7,.int .i64 (es.length:Int),.slice none 0 0] 68))):=zk _ _;have cS:=zf (z8v cW.o t.heap.size none i hi [] (by simp) _ bS.o bV.o);unfold yx at cS bV bS ⊢;go_wp2_with fail;refine cS.o.mono ?_;rintro r eo ⟨⟨eP,rfl⟩,cK⟩;have aZ:Hid (Below t.heap.size t eo):=cK.below bV.o bS.o (zm _);obtain⟨t19,ek,b4,eG⟩:=cK;rw [zal] at b4;have dE:Hid ((zcj (qt (qc ah L)) [(zv es.length (-1) i,i % 4)]).length≤1):=by show _≤_;rw [ziw];split<;>simp
 have cl:=zf b4;have bW:=zf (z8z cW.o t.heap.size (zm _) 64 0 es.length i ek _ eo (by omega) (by omega) (by omega) (by omega) (yv _) (by omega) (zmy _) (by have:=dE.o;omega) aZ.o b4);have er:Hid ((zrj (qc ah L) es.length i).length < maxLen):=zcy (ykz _ _ _ hi) (by decide);clear t19 eG b4 bV bS cS;unfold zi9 at bW;rw [z17] at bW;unfold qo;generalize db:zrj (qc ah L) es.length i=en at *;go_wp2_with fail;refine bW.o.mono ?_;rintro r ep ⟨eR,rfl,t20,dp,el,dn,ej,d20⟩;have a0:Hid (Below t.heap.size t ep):=Lkd.below ⟨t20,el,dn,ej⟩ cl.o aZ.o (zm _);obtain⟨pa,pc,rfl⟩:=qr dp;have cu:=zf dp;have cm:=zf dn;clear t20 dp dn ej d20 bW cl;have dC:=zf (zt9 ⟨en.toArray⟩ ep (by exact er.o));go_wp2_with fail;refine dC.o.mono ?_;rintro r eI ⟨rfl,aQ⟩;have aL:=zf (a0.o.trans (aQ.mono a0.o.size));have cv:=zf (ym cu.o aQ);have cn:=zf (cm.o.below aQ);have bc:=zf (ym aC.o aL.o);clear aQ dC cu cm;unfold txt;go_wp2_with fail;refine(zg7 (.slice (some ⟨eg,0,none⟩) es.length ec) es eI (by omega) ab.o.short (zha bc.o)).mono ?_;rintro r eJ ⟨rfl,aR⟩;have a1:=zf (aL.o.trans (aR.mono aL.o.size));have bj:=zf (ym cv.o aR);have co:=zf (cn.o.below aR);clear aR cv cn bc;have bm:Hid ((zct (qc ah L) es.length (qz 64 0 es.length i)).length≤65∧∀ p∈zct (qc ah L) es.length (qz 64 0 es.length i),p.length≤8):=⟨by unfold zct;rw [yi];have:=zcx 64 0 es.length i;omega,fun p hp=>by
  unfold zct at hp;obtain⟨s,-,rfl⟩:=yl.1 hp;exact zu1 _ _ _ _ _⟩
 have bU:=zf (z8o 1001 (zae en) (qm es) (i:Int) (es.length:Int) (by omega) (.slice pa (zct (qc ah L) es.length (qz 64 0 es.length i)).length pc) ((zct (qc ah L) es.length (qz 64 0 es.length i)).map tb) eJ (by rw [yi];have:=bm.o.1;omega) (by rw [yi];have:=bm.o.1;omega) (by rw [show(zae en).length=8 from zjk _];omega) (by rw [zom];exact bm.o.2) (Sss.of_tb bj.o));rw [zom] at bU;unfold txt at bU;go_wp2_with fail;refine bU.o.mono ?_;rintro r X ⟨rfl,aS⟩;have z:=zf (a1.o.trans (aS.mono a1.o.size));have bk:=zf (ym bj.o aS);have aN:=zf (co.o.below aS);clear aS bU bj co a1 aL a0 aZ;have dh:=ydy (znp G.fs L eu.o).says_file (inc:=zfw) (i:=i) dH.o A.o.2.2.1 (by rw [A.o.1];exact hi) (by rw [A.o.1];omega);rw [dK.o,A.o.1,A.o.2.1] at dh;rw [dL.o] at db bk aN bm ⊢;rw [db] at dh;have dF:Hid (zcj (qt (qc G.fs L)) [(zv es.length (-1) i,i % 4)]++zdv (qc G.fs L) es.length (qz 64 0 es.length i)=zng (qc G.fs L) es.length i):=rfl;rw [dF.o] at aN;have dy:Hid (zui 1001 (zae en) (i:Int) (es.length:Int) (zct (qc G.fs L) es.length (qz 64 0 es.length i)) (qm es)=zfw (zae en) i es.length (zct (qc G.fs L) es.length (qz 64 0 es.length i)) (qm es)):=rfl;rw [dy.o];have aP:=zf (ym cE.o z.o);have ap:=zf (cB.o.then_below z.o);have E:Hid (X.heap[a]?=some (.cells #[.int .i64 tn,.string ⟨tp.toArray⟩] 52 (0,0))):=(z.o.block _ (zi aI.o)).trans aI.o;obtain⟨q0,dq⟩:=zw E.o 0 _ rfl;obtain⟨q1,dr⟩:=zw E.o 1 _ rfl;obtain⟨mv,cJ,bI,-⟩:=aN.o;obtain⟨ma,mc,rfl⟩:=qr bI;have z2:X.cell? ⟨t.heap.size,2,none⟩=some (.slice ma (zng (qc G.fs L) es.length i).length mc):=by rw [yq _ _ _ _ _ _ cJ];rfl
 have dG:=zf bI;clear cJ bI aN dF dy dK dJ dL cE cB aI dE db cW;have ey:Hid ((zng (qc G.fs L) es.length i).length≤100000):=by
  show _≤_;unfold zng;have h1:=zs5 (qt (qc G.fs L)) [(zv es.length (-1) i,i % 4)];have h2:=zoz (qc G.fs L) es.length (by omega) (qz 64 0 es.length i) (fun s hs=>⟨zwz 64 0 es.length i (by omega) (zmy _) s hs,by have:=zg5 64 0 es.length i (by omega) s hs;omega,by have:=zg5 64 0 es.length i (by omega) s hs;omega⟩);have h3:=zcx 64 0 es.length i;rw [zy];simp only [y9,jc] at h1;omega
 generalize zng (qc G.fs L) es.length i=rm at *;generalize zct (qc G.fs L) es.length (qz 64 0 es.length i)=lr at *;rcases dh with ⟨pp,dg,rfl,rfl⟩ | ⟨di,ay,rfl,rfl⟩ | ⟨di,ay,rfl⟩
 ·have aA:(6:Int)=tn∧pp=tp:=by have:=c4.o;simpa [zhi,erT,Er.tile] using this
  obtain⟨rfl,rfl⟩:=aA;obtain rfl:=cq.o _ rfl;have eM:0 < rm.length:=List.length_pos_of_mem dg;have aB:(zhi (Sum.inl (Er.tile pp):Sum Er (zc×za))).2.1.length=0:=rfl;rw [aB];have bR:=zf (zyk (.slice ma rm.length mc) rm pp X.drew (by have:=ey.o;omega) (Sss.of_tb dG.o));rw [decide_eq_true dg] at bR;unfold qo at bR;clear aB dg;go_wp2_with fail
  go_region_law (go_simp;go_at_call 24;(refine bR.o.mono ?_;rintro r aY ⟨rfl,cP⟩;rw [cP];clear cP aY))
  all_goals
   have aM:Hid (Below t.heap.size t X.drew):=z.o.drew;have aO:Hid (zq (fun k=>W.heap.size≤k) kcT w X.drew):=ap.o.drew;have bx:Hid (X.drew.heap[a]?=some (.cells #[.int .i64 6,.string ⟨pp.toArray⟩] 52 (0,0))):=E.o;have eQ:X.drew.cell? ⟨a,0,none⟩=some (.int .i64 6):=q0;clear z ap E q0 dq q1 dr z2 aP bk dG bR;generalize X.drew=aY at *;have cj:=zf (ch.o.below aM.o);have af:=zf (bp.o.below aM.o);have cd:=zf (ab.o.below aM.o);have be:=zf (ym aC.o aM.o);have an:=zf (zrv _ nb da aK (.slice none 0 0) [] aY (by simp) af.o.net ⟨none,0,rfl,.inl rfl⟩);go_wp2_with fail;refine an.o.mono ?_;rintro r Y ⟨rfl,c,ax⟩;obtain⟨T,P⟩:=zxl af.o cj.o c ax (by simp) (by simp);obtain⟨aj,R,Q,D⟩:∃ aj:Nt,aj.lies=[]∧aj.fetches=aK.fetches∧Sh W Y (jz dO aY Y) nb da G aj:=⟨⟨[],List.replicate ([]:List Ly).length 0,aK.fetches⟩,rfl,rfl,T⟩;have v:=zf D;have I:=zf P;have aq:Hid (zq (fun k=>W.heap.size≤k) kcT w Y):=aO.o.trans (c.mono (fun k d=> .inl (af.o.own k d).1) (by decide));have J:=zf (zo be.o c (by decide));have H:=zf (cd.o.turn c (by decide) (by decide) (by decide));have N:Hid (Y.heap[a]?=_):=c.keep bx.o (by decide);have M:=zf (z01 bB bT.o bX.o bZ.o I.o v.o a3.o (by omega) (by rw [Q];have:=a5.o;omega) i (by rw [A.o.1];exact hi));clear c ax T D P an cj af be cd bx aO;unfold yx at M;go_wp2_with fail;refine M.o.mono ?_;rintro r ak ⟨o3,ez,eH,n3,du,az,-,-,-,-,-,rfl,-,-,V,-,-,Z,g2,g3⟩;obtain⟨cx,nx,x,-⟩:=z0c (by rw [A.o.1];exact H.o.chk.all) R H.o.short (zcy he (by decide)) ck.o (by rw [A.o.1];exact hi);rw [az] at x;simp only [ye] at x;obtain⟨rfl,-,-⟩:=x;rw [A.o.1] at V ⊢;have ar:Hid (zq (fun k=>W.heap.size≤k) kcT w ak):=aq.o.trans (Z.mono (fun k d=>by
    rcases d with d | d
    ·exact .inl (v.o.own k d).1
    ·exact .inl (I.o.own k d).1) (fun _ h=>h))
   have K:=zf (zo J.o Z (by decide));have g:=zf (Z.keep N.o (by decide));have y:ak.ownsRow Y.heap.size 9 1 du (zgt es es.length i).length ((zgt es es.length i).map txt):=V;have av:=zf y;obtain⟨xb,xd,rfl⟩:=qr y;have bJ:zl0 (zhi (Sum.inr (es.getD i [],zgt es es.length i):Sum Er (zc×za))).2.2= .agg #[.int .i64 0,.string ⟨#[]⟩]:=rfl;have bK:(zhi (Sum.inr (es.getD i [],zgt es es.length i):Sum Er (zc×za))).1=es.getD i []:=rfl;rw [bJ,bK];have B:=zf (zsh g.o rfl (.int .i64 0) (.string ⟨#[]⟩));have am:Hid (w.heap.size≤a):=by show _≤_;rw [a4.o];exact b0.o
   have bt:=zf ((ar.o.setNew am.o 0 (.int .i64 0)).setNew am.o 1 (.string ⟨#[]⟩));obtain⟨k0,dl⟩:=zw g.o 0 _ rfl;obtain⟨k1,dm⟩:=zw g.o 1 _ rfl;have u:=zf (zo K.o B.o.1 (by decide));have aw:=zf (zo av.o B.o.1 (by decide));have O:=zf B.o.2;have aD:=zf (zz0 100 (by omega) (.slice (some ⟨eg,0,none⟩) es.length ec) (es.map tb) (i:Int) _ (by rw [yi];omega) (by rw [yi];omega) (by omega) (by rw [yi];omega) (fun s hs=>by
    obtain⟨e,c7,rfl⟩:=yl.1 hs;exact zcy (H.o.short e c7) (by decide)) (Sss.of_tb u.o))
   have cZ:Hid (ze3 100 (bys (es.map tb)) ((i:Int)).toNat=zgt es es.length i):=by
    show _=_;rw [zom,yj];have:=zwy es es.length i 100 (zm _) (by omega) hi (by omega)
    rwa [jg] at this
   have bl:Hid ((zgt es es.length i).length≤64):=ztg _ _ _;rw [cZ.o] at aD;obtain⟨b6,o6,c5,bO⟩:∃ b bP,(some ⟨eg,0,none⟩:Option Addr)=some ⟨b,bP,none⟩∧∀ j (h:j < es.length),((ak.setCell ⟨a,0,none⟩ (.int .i64 0)).setCell ⟨a,1,none⟩ (.string ⟨#[]⟩)).cell? ⟨b,bP+j,none⟩=some (qo es[j]):=by
    obtain⟨a',c',e',-,h | h⟩:=zha u.o
    ·rw [h] at hi;simp at hi
    ·cases e';exact h
   have ad:=zf (bO i hi);have cV:Hid (es.getD i []=es[i]):=by show _=_;rw [zl,zt hi];rfl
   rw [cV.o];cases c5;rw [xk] at ad;clear bO az V y bJ bK Z g2 g3 M av K g N J v I aq ar R Q;generalize zgt es es.length i=pr at *;generalize es[i]=ei at *;unfold qo at ad ⊢;go_wp2_with fail;refine aD.o.mono ?_;generalize (ak.setCell ⟨a,0,none⟩ (.int .i64 0)).setCell ⟨a,1,none⟩ (.string ⟨#[]⟩)=eK at *;rintro r ds ⟨eL,rfl,m,S⟩;have bA:=zf (ym aw.o m);have a7:=zf S;have bu:=zf (bt.o.then_below m);have ke:=(m.cell (p:=⟨eg,_,none⟩) (yg ad.o)).trans ad.o;obtain⟨r0,-⟩:=zw O.o 0 _ rfl;have bQ:=(m.cell (p:=⟨a,0,none⟩) (yg r0)).trans r0;obtain⟨pz,pq,rfl⟩:=qr S;have ao:=zf (znl (.slice xb pr.length xd) (.slice pz pr.length pq) (pr.map tb) ds (by rw [yi];have:=bl.o;omega) (Sss.of_tb bA.o) (Sss.of_tb a7.o));clear m S aD O aw u B k0 dl k1 dm r0;go_wp2_with fail;refine ao.o.mono ?_;rintro r dt ⟨rfl,C⟩;have bw:=zf (bu.o.then_below C);have eF:=(C.cell (p:=⟨eg,_,none⟩) (yg ke)).trans ke;have r1:dt.cell? ⟨a,0,none⟩=some (.int .i64 0):=(C.cell (p:=⟨a,0,none⟩) (yg bQ)).trans bQ;clear C ao;go_wp2_with fail;go_ret;exact⟨by simp,bw.o⟩
 ·have aA:(5:Int)=tn∧([]:zc)=tp:=by have:=c4.o;simpa [zhi,erT,Er.proof] using this
  obtain⟨rfl,rfl⟩:=aA;obtain rfl:=cq.o _ rfl;subst di;rw [ay];simp only [jc] at z2;have aB:(zhi (Sum.inl Er.proof:Sum Er (zc×za))).2.1.length=0:=rfl;rw [aB];clear aB ay;have ci:=zf (ch.o.below z.o);have ae:=zf (bp.o.below z.o);have cc:=zf (ab.o.below z.o);have bd:=zf (ym aC.o z.o);have an:=zf (zrv _ nb da aK (.slice none 0 0) [] X (by simp) ae.o.net ⟨none,0,rfl,.inl rfl⟩);go_wp2_with fail;refine an.o.mono ?_;rintro r Y ⟨rfl,c,ax⟩;obtain⟨T,P⟩:=zxl ae.o ci.o c ax (by simp) (by simp);obtain⟨aj,R,Q,D⟩:∃ aj:Nt,aj.lies=[]∧aj.fetches=aK.fetches∧Sh W Y (jz dO X Y) nb da G aj:=⟨⟨[],List.replicate ([]:List Ly).length 0,aK.fetches⟩,rfl,rfl,T⟩;have v:=zf D;have I:=zf P;have aq:Hid (zq (fun k=>W.heap.size≤k) kcT w Y):=ap.o.trans (c.mono (fun k d=> .inl (ae.o.own k d).1) (by decide));have J:=zf (zo bd.o c (by decide));have H:=zf (cc.o.turn c (by decide) (by decide) (by decide));have N:Hid (Y.heap[a]?=_):=c.keep E.o (by decide);have M:=zf (z01 bB bT.o bX.o bZ.o I.o v.o a3.o (by omega) (by rw [Q];have:=a5.o;omega) i (by rw [A.o.1];exact hi));clear c ax T D P an ci ae bd cc E ap;unfold yx at M;go_wp2_with fail;refine M.o.mono ?_;rintro r ak ⟨o3,ez,eH,n3,du,az,-,-,-,-,-,rfl,-,-,V,-,-,Z,g2,g3⟩;obtain⟨cx,nx,x,-⟩:=z0c (by rw [A.o.1];exact H.o.chk.all) R H.o.short (zcy he (by decide)) ck.o (by rw [A.o.1];exact hi);rw [az] at x;simp only [ye] at x;obtain⟨rfl,-,-⟩:=x;rw [A.o.1] at V ⊢;have ar:Hid (zq (fun k=>W.heap.size≤k) kcT w ak):=aq.o.trans (Z.mono (fun k d=>by
   rcases d with d | d
   ·exact .inl (v.o.own k d).1
   ·exact .inl (I.o.own k d).1) (fun _ h=>h))
  have K:=zf (zo J.o Z (by decide));have g:=zf (Z.keep N.o (by decide));have y:ak.ownsRow Y.heap.size 9 1 du (zgt es es.length i).length ((zgt es es.length i).map txt):=V;have av:=zf y;obtain⟨xb,xd,rfl⟩:=qr y;have bJ:zl0 (zhi (Sum.inr (es.getD i [],zgt es es.length i):Sum Er (zc×za))).2.2= .agg #[.int .i64 0,.string ⟨#[]⟩]:=rfl;have bK:(zhi (Sum.inr (es.getD i [],zgt es es.length i):Sum Er (zc×za))).1=es.getD i []:=rfl;rw [bJ,bK];have B:=zf (zsh g.o rfl (.int .i64 0) (.string ⟨#[]⟩));have am:Hid (w.heap.size≤a):=by show _≤_;rw [a4.o];exact b0.o
  have bt:=zf ((ar.o.setNew am.o 0 (.int .i64 0)).setNew am.o 1 (.string ⟨#[]⟩));obtain⟨k0,dl⟩:=zw g.o 0 _ rfl;obtain⟨k1,dm⟩:=zw g.o 1 _ rfl;have u:=zf (zo K.o B.o.1 (by decide));have aw:=zf (zo av.o B.o.1 (by decide));have O:=zf B.o.2;have aD:=zf (zz0 100 (by omega) (.slice (some ⟨eg,0,none⟩) es.length ec) (es.map tb) (i:Int) _ (by rw [yi];omega) (by rw [yi];omega) (by omega) (by rw [yi];omega) (fun s hs=>by
   obtain⟨e,c7,rfl⟩:=yl.1 hs;exact zcy (H.o.short e c7) (by decide)) (Sss.of_tb u.o))
  have cZ:Hid (ze3 100 (bys (es.map tb)) ((i:Int)).toNat=zgt es es.length i):=by
   show _=_;rw [zom,yj];have:=zwy es es.length i 100 (zm _) (by omega) hi (by omega)
   rwa [jg] at this
  have bl:Hid ((zgt es es.length i).length≤64):=ztg _ _ _;rw [cZ.o] at aD;obtain⟨b6,o6,c5,bO⟩:∃ b bP,(some ⟨eg,0,none⟩:Option Addr)=some ⟨b,bP,none⟩∧∀ j (h:j < es.length),((ak.setCell ⟨a,0,none⟩ (.int .i64 0)).setCell ⟨a,1,none⟩ (.string ⟨#[]⟩)).cell? ⟨b,bP+j,none⟩=some (qo es[j]):=by
   obtain⟨a',c',e',-,h | h⟩:=zha u.o
   ·rw [h] at hi;simp at hi
   ·cases e';exact h
  have ad:=zf (bO i hi);have cV:Hid (es.getD i []=es[i]):=by show _=_;rw [zl,zt hi];rfl
  rw [cV.o];cases c5;rw [xk] at ad;clear bO az V y bJ bK Z g2 g3 M av K g N J v I aq ar R Q;generalize zgt es es.length i=pr at *;generalize es[i]=ei at *;unfold qo at ad ⊢;go_wp2_with fail;refine aD.o.mono ?_;generalize (ak.setCell ⟨a,0,none⟩ (.int .i64 0)).setCell ⟨a,1,none⟩ (.string ⟨#[]⟩)=eK at *;rintro r ds ⟨eL,rfl,m,S⟩;have bA:=zf (ym aw.o m);have a7:=zf S;have bu:=zf (bt.o.then_below m);have ke:=(m.cell (p:=⟨eg,_,none⟩) (yg ad.o)).trans ad.o;obtain⟨r0,-⟩:=zw O.o 0 _ rfl;have bQ:=(m.cell (p:=⟨a,0,none⟩) (yg r0)).trans r0;obtain⟨pz,pq,rfl⟩:=qr S;have ao:=zf (znl (.slice xb pr.length xd) (.slice pz pr.length pq) (pr.map tb) ds (by rw [yi];have:=bl.o;omega) (Sss.of_tb bA.o) (Sss.of_tb a7.o));clear m S aD O aw u B k0 dl k1 dm r0;go_wp2_with fail;refine ao.o.mono ?_;rintro r dt ⟨rfl,C⟩;have bw:=zf (bu.o.then_below C);have eF:=(C.cell (p:=⟨eg,_,none⟩) (yg ke)).trans ke;have r1:dt.cell? ⟨a,0,none⟩=some (.int .i64 0):=(C.cell (p:=⟨a,0,none⟩) (yg bQ)).trans bQ;clear C ao;go_wp2_with fail;go_ret;exact⟨by simp,bw.o⟩
 ·have aA:(0:Int)=tn∧([]:zc)=tp:=by have:=c4.o;simpa [zhi] using this
  obtain⟨rfl,rfl⟩:=aA;subst di;rw [ay];have aB:(zhi (Sum.inr (en,lr):Sum Er (zc×za)))=(en,lr,(0,[])):=rfl;rw [aB] at aP ⊢;simp only at aP ⊢;have ao:=zf (znl (.slice xa lr.length xc) (.slice pa lr.length pc) (lr.map tb) X (by rw [yi];have:=bm.o.1;omega) (Sss.of_tb aP.o) (Sss.of_tb bk.o));clear aB ay;simp only [jc] at z2;go_wp2_with fail;refine ao.o.mono ?_;rintro r aY ⟨rfl,bC⟩;have aO:=zf (ap.o.then_below bC);have q2:aY.cell? ⟨a,0,none⟩=some (.int .i64 0):=(bC.cell (p:=⟨a,0,none⟩) (yg q0)).trans q0;clear bC ao;go_wp2_with fail;go_ret;exact⟨by simp,aO.o⟩
def zl5 (a:za):za:=a.filter fun l=>decide (l.length≤20)
theorem yhq (W:World)(w:Nat→Addr)(hE:Env W)(aB:zbz W w)(aC:zjx W)(v lv:Value)(c:za)(L:List Ly)(m i:Int)(d:zc)(hm:-9223372036854775808≤m∧m≤9223372036854775807)(hi:-9223372036854775808≤i∧i≤9223372036854775807)(T:d.length≤1048576)(hn:c.length≤maxLen)(hl:∀ l∈c,l.length≤maxLen)(a2:L.length≤1048576)(aA:∀ l∈L,l.data.length≤1048576)(h:Sss W v (c.map tb))(hL:Lss W lv L):
  Calls prog 3 #[v,.int .i64 m,qo d,lv,.int .i64 i] W fun r w'=>r= .returned (.bool true)∧Below W.heap.size W w':=by
 have N:=zf hE;have P:=zf aB;have au:=zf aC;have HL:=zf hL;have aN:=zf aA;have aO:=zf hl;have ad:=zf (yk4 v (c.map tb) W (by rw [yi];exact hn) (fun s hs=>by
  obtain⟨l,aX,rfl⟩:=yl.1 hs;exact hl l aX) h)
 obtain⟨a,a1,rfl,aD,E⟩:=h;obtain⟨la,lc,rfl,-⟩:=id hL;simp only [yi] at aD E ad ⊢;have H:=zf E;clear E hE aB aC hL aA hl;unfold qo;go_enter func3,ntmps3;go_wp2_with fail;refine ad.o.mono ?_;rintro r w1 ⟨rfl,aH⟩;rw [aH];clear aH w1 ad;cases hf:z26 (c.map tb) with
 | false =>
  go_wp2_with fail;go_ret;exact⟨rfl,yf _ _⟩
 | true =>
  by_cases g:c.length≤100∧L.length≤100
  ·obtain⟨h1,h2⟩:=g;go_wp2_with fail;go_loopw [12,13] (fun e k wr=>∃(n:Nat) (A:za),n≤c.length∧k= .int .i64 n∧A=zl5 (c.take n)∧A.length≤n∧Below W.heap.size W wr∧wr.ownsRow W.heap.size 9 1 e A.length (A.map qo)) (fun _ k _=>c.length - (intOf k).toNat)
   case atStart=>exact⟨0,[],yv _,rfl,by simp [zl5],zm _,yf _ _,⟨rfl,.inl ⟨rfl,rfl⟩⟩⟩
   case round =>
    obtain⟨n,A,aZ,rfl,hA,aU,hb,U⟩:=hrel;have K:=zf hb;have O:=zf U;have HA:=zf hA;clear hb U hA
    by_cases B:n < c.length
    ·obtain⟨b,I,rfl,aE⟩:∃ b I,a=some ⟨b,I,none⟩∧∀ i (h:i < c.length),W.cell? ⟨b,I+i,none⟩=some (.string ⟨c[i].toArray⟩):=by
      rcases H.o with h | ⟨b,I,h1,h2⟩
      ·have h0:c=[]:=by simpa using h
       rw [h0] at B;simp at B
      ·exact⟨b,I,h1,fun j hj=>(h2 j hj).trans (by rw [za4];rfl)⟩
     have aj:=aE n B;have y0:=(K.o.cell (p:=⟨b,_,none⟩) (yg aj)).trans aj;have av:Hid (zl5 (c.take (n+1))=zl5 (c.take n)++zl5 [c[n]]):=by
      show _=_;unfold zl5;rw [qf B,zn9]
     have a0:=zf (aO.o _ (yd B));clear aE aj;generalize c[n]=t at *;have aQ:Hid (W.heap.size≤wr.heap.size):=K.o.size;have aK:Hid (A.length≤1000000000):=zu aU (zu aZ (zu h1 (by decide)));obtain⟨ea,Q,J⟩:=qr O.o;subst J
     by_cases az:t.length≤20
     ·have ah:Hid (zl5 [t]=[t]):=by show _=_;simp [zl5,az]
      go_wp2_with (at_builtin;refine zg2 wr rfl _ _ rfl W.heap.size aQ.o (.slice ea A.length Q) A rfl O.o t _ rfl rfl aK.o ?_;intro v' w3 C V _;have ae:=zf C;have q:Hid (Below W.heap.size W w3):=K.o.trans (V.below (vq O.o) K.o.size);clear C V)
      go_roundw
      case rel=>exact⟨n+1,A++[t],by omega,by go_num,by rw [av.o,ah.o,HA.o],by simp;omega,q.o,ae.o⟩
      case measure=>simp [intOf];omega
     ·have ah:Hid (zl5 [t]=[]):=by show _=_;simp [zl5,az]
      go_wp2_with fail
      go_roundw
      case rel=>exact⟨n+1,A,by omega,by go_num,by rw [av.o,ah.o,za3,HA.o],by omega,K.o,O.o⟩
      case measure=>simp [intOf];omega
    ·obtain rfl:n=c.length:=by omega
     rw [jg] at HA;have ak:Hid (∀ e∈A,e.length≤20):=fun e J=>by
      rw [HA.o] at J;simpa using (zfd.1 J).2
     have f:A.length≤100:=by omega
     clear HA
     by_cases aS:A.length=0
     ·obtain⟨ea,Q,J⟩:=qr O.o;subst J;rw [aS];go_wp2_with fail;go_ret;exact⟨rfl,K.o⟩
     ·obtain⟨eg,Q,J⟩:=zwt O.o (by omega);subst J;have u:=zf (z4m m A.length wr hm.1 hm.2 (by omega) (by omega));go_wp2_with fail;refine u.o.mono ?_;rintro r wq ⟨⟨m0,aY,rfl⟩,G⟩;rw [G];clear G wq u;go_wp2_with fail;obtain⟨M,a3,a4,aF⟩:∃ M:Nat,1≤M∧M≤A.length∧1+(m0:Int)=(M:Int):=⟨m0+1,by omega,by omega,by omega⟩;rw [aF];clear aF aY;have af:=zf (zz3 W w N.o P.o (.slice (some ⟨eg,0,none⟩) A.length Q) A M d wr K.o T f ak.o (Sss.of_tb O.o));unfold qo at af;refine af.o.mono ?_;rintro r w2 ⟨d1,rfl,R⟩;have ar:=zf R;have Z:Hid (Below W.heap.size W w2):=K.o.trans (R.1.mono K.o.size);have ap:=zf (ym O.o R.1);have aM:Hid (A.length≤Q):=by
       obtain⟨a',c',e',aV,-⟩:=zha O.o;cases e';exact aV
      have a5:M≤Q:=by have:=aM.o;omega
      have ag:=zf (zz3 W w N.o P.o (.slice (some ⟨eg,0,none⟩) M Q) (A.take M) M d w2 Z.o T (by rw [vi];omega) (fun e J=>ak.o e (qh J)) (z5w (zha ap.o) (by omega)).to);unfold qo at ag;clear R af;go_wp2_with fail;refine ag.o.mono ?_;rintro r w3 ⟨d2,rfl,D⟩;have q:Hid (Below W.heap.size W w3):=Z.o.trans (D.1.mono Z.o.size);have al:Hid (StA W w3 wr.heap.size (wr.heap.size+1) A d d1):=(StA.of ar.o.2 (by omega)).below D.1;have aw:Hid (StA W w3 w2.heap.size (w2.heap.size+1) (A.take M) d d2):=StA.of D.2 (by omega);have ae:=zf (ym ap.o D.1);clear D ag ar;have ao:=zf (ycy (.slice la L.length lc) L w3 (zu h2 (by decide)) (HL.o.below q.o));go_wp2_with fail;refine ao.o.mono ?_;rintro r w4 ⟨x,rfl,z,aI⟩;have aa:Hid (Below W.heap.size W w4):=q.o.trans (z.mono q.o.size);have X:=zf (al.o.below z);have ax:=zf (aw.o.below z);have aq:=zf (zcb (ym ae.o z) (yv _));have ay:=zf (zcb aI (yv _));clear z aI ao al aw;have an:Hid (∀ l∈L.map noT,l.times=0):=fun l hl=>by
       obtain⟨y,-,rfl⟩:=yl.1 hl
       rfl
      have S:Hid (∀ l∈L.map noT,l.data.length≤1048576):=fun l hl=>by
       obtain⟨y,hy,rfl⟩:=yl.1 hl;exact aN.o y hy
      have am:Hid ((L.map noT).length≤100):=by show _≤_;rw [yi];exact h2
      have ai:=zf (z52 W w N.o P.o au.o wr.heap.size (wr.heap.size+1) w2.heap.size (w2.heap.size+1) d1 d2 A (.slice (some ⟨eg,0,none⟩) A.length Q) x M d (L.map noT) w4 aa.o X.o ax.o aq.o (by omega) (by omega) f ay.o an.o S.o am.o T);unfold yx at ai;go_wp2_with fail;refine ai.o.mono ?_;rintro r w5 ⟨rfl,F⟩;have ab:Hid (Below W.heap.size W w5):=aa.o.trans (F.below (fun k T=>T) aa.o.size);have aJ:=zf (X.o.turn F (by decide) (by decide) (by decide));have aP:=zf (zo aq.o F (by decide));have aR:=zf (zo ay.o F (by decide));clear F ai X ax;have u:=zf (z4m i A.length w5 hi.1 hi.2 (by omega) (by omega));go_wp2_with fail;refine u.o.mono ?_;rintro r wq ⟨⟨i0,aW,rfl⟩,G⟩;rw [G];clear G wq u;have Y:=zf (ybd W w N.o P.o au.o wr.heap.size (wr.heap.size+1) d1 A (.slice (some ⟨eg,0,none⟩) A.length Q) x i0 d (L.map noT) w5 ab.o aJ.o aP.o aW f aR.o an.o S.o am.o T);unfold yx at Y;go_wp2_with fail;refine Y.o.mono ?_;rintro r w6 ⟨rfl,aG⟩;have aL:Hid (Below W.heap.size W w6):=ab.o.trans (aG.below (fun k T=>T) ab.o.size);clear aG Y;go_wp2_with fail;go_ret;exact⟨rfl,aL.o⟩
  ·by_cases h1:c.length≤100
   ·have h2:¬ L.length≤100:=fun h=>g ⟨h1,h⟩;clear g;go_wp2_with fail;go_ret;exact⟨rfl,yf _ _⟩
   ·clear g;go_wp2_with fail;go_ret;exact⟨rfl,yf _ _⟩
end Go.Proofs.YtlcllcgngjhoaaaGreatDoor
