import Derived.Test.YtndkblnpbjffhaaGreatDoorG52
set_option maxHeartbeats 4000000
set_option maxRecDepth 100000
open Go.RowKit Go.Lib Go.Sort Go.ChangeShapes Go.WideShapes Go.ChangeAt
namespace Go.Proofs.YtndkblnpbjffhaaGreatDoor
theorem z95 {w:World}{B:Nat}{g E:Nat}{es:List (List UInt8)}(h:w.ownsRow B 9 1 (.slice (some ⟨g,0,none⟩) es.length E) es.length (es.map txv))(q:Nat)(r:q < es.length):w.cell? ⟨g,q,none⟩=some (txv (es.getD q [])):=by
 obtain⟨a,D,e,J,h | ⟨b,I,A,H⟩⟩:=zdc h
 ·rw [h] at r;simp at r
 ·simp only [Value.slice.injEq] at e;obtain⟨rfl,-,-⟩:=e;simp only [Option.some.injEq,Addr.mk.injEq] at A;obtain⟨rfl,rfl,-⟩:=A;have:=H q r;rw [Nat.zero_add] at this;rw [this];simp [List.getD_eq_getElem?_getD,r]
theorem z4q {r:Bool}{l:List UInt8}(h:r=true→l=[]):r=false∨(r=true∧l=[]):=by
 cases r with
 | false=>exact .inl rfl
 | true=>exact .inr ⟨rfl,h rfl⟩
theorem RC.past {J w w':World}{O G N:Nat→Prop}{T T':List Nat}{Q L:Nat}{es:List (List UInt8)}{fs:Fs}{E:Nat}{key:List UInt8}{r:Int}{t:Nat}(h:RC J w O Q L es fs E key r t N)(D:zg G T w w')(H:zej G T' w)(h1:MeN∉T')(h2:LkN∉T')(h3:qh∉T')(h4:MeP∉T')(h5:LkP∉T')(h6:TRd∉T')(h7:TPc∉T')(hu:5∉T):RC J w' O Q L es fs E key r t N:=by
 obtain⟨pb,cb,pm,nm,A,R,c,S,U,K,V,W,X,Y,Z,g9⟩:=h.rest;exact⟨⟨pb,cb,pm,nm,A,R,c,D.same H S (zbd h6),D.same H U (zbd h7),K.past D H h1 h2 h3 (K.prv.past D H h4 h5 hu),V,W,X,Y,Z,g9⟩,fun k I=>⟨(h.own k I).1,Nat.lt_of_lt_of_le (h.own k I).2.1 D.size,(h.own k I).2.2⟩⟩
theorem zun {W w E J:World}{O A OP N:Nat→Prop}{cb nb db pm nm L K tb size:Nat}{d:Dk}{c':Cl}{n':Nt}{P:(Nat→Prop)→Prop}{es:List (List UInt8)}{U:Nat}{key:List UInt8}{r:Int}{t:Nat}(H:CR W E J O A OP cb nb db pm nm d c' n' P)(ag:zgz E K cb)(hN:∀ k,A k∨OP k∨k=cb∨k=K∨k=L→Ext N w E k)(R:∀ k,Ext N w E k→W.heap.size≤k∧k < E.heap.size∧¬ O k)(hO:∀ k,O k→k < E.heap.size)(hW:W.heap.size≤E.heap.size)
  (ad:CI es c' t) (ac:ju d.fs es c'.size) (ae:c'.size≤U) (D:c'.key=key) (ai:c'.room=r) (ah:RAt E L K (size:Int) r) (aj:c'.size=size) (ht:zg (fun k=>O k∨N k) rdT w E) (ak:zch tb E) (hs:w.heap.size≤tb∧tb < E.heap.size) (ao:W.heap.size≤w.heap.size) (aa:∀ k,O k→k < w.heap.size) :
  RAt J L K (size:Int) r∧zch tb J∧∀ X,zg (fun k=>k=tb) [31] J X→RAt X L K (size:Int) r∧zg (fun k=>O k∨N k) rdT w X∧Sh W X O nb db d n'∧RC W X O L nb es d.fs U key r t (Ext N w X):=by
 have I:RAt J L K (size:Int) r:=H.turn.keep ah (by decide);have S:zch tb J:=H.turn.keep ak (by decide);refine⟨I,S,fun X Q=>?_⟩;obtain⟨g1,g2,g3⟩:=zdi H ag hN R hO hW ad ac ae D ai I (zg.refl _ _ J) (by rw [aj];exact I);have s1:=Q.size;have s2:=H.turn.size;have af:zej (fun k=>k=tb) [31] J:=fun k D=>by subst D;exact⟨_,_,_,S,by simp⟩
 refine⟨Q.keep I (by decide),?_,g2.past Q (fun k D=>by subst D;omega) (by decide) (by decide) (by decide) (by decide) (by decide),?_⟩
 ·refine zg.apart (ht.trans (g1.mono (fun k D=>?_) (fun _ h=>h))) Q (fun k D=>by subst D;exact hs.1);rcases D with h | h | h
  ·exact .inl (.inl h)
  ·exact .inl (.inr h)
  ·exact .inr h
 ·have h1:=g3.past Q af (by decide) (by decide) (by decide) (by decide) (by decide) (by decide) (by decide) (by decide);obtain⟨am,Z,an,al,A',V,Y,q1,q2,q3,q4,q5,q6,q7,q8,q9⟩:=h1.rest;refine⟨⟨am,Z,an,al,A',V,Y,q1,q2,q3,q4,q5,q6,q7,q8,fun k D=>?_⟩,fun k D=>?_⟩
  ·rcases q9 k D with (h | h) | h
   ·exact .inl h
   ·exact .inr ⟨h.1,by omega⟩
   ·exact .inr ⟨by omega,by omega⟩
  ·rcases D with h | h
   ·have:=R k (.inl h);exact⟨this.1,by omega,this.2.2⟩
   ·exact⟨by omega,h.2,fun e=>by have:=aa k e;omega⟩
theorem zp1 (W:World)(aH:Nat→Addr)(hE:Env W)(hS:ja W aH)(bN:zdq W)(O N:Nat→Prop)(L Z wb db n:Nat)(es:List (List UInt8))(aa:Nat)(key:List UInt8)(d:Dk)(E:Int)(t:Nat)(net:Nt)(i:Int)(w:World)(bV:-9223372036854775808≤i)(bW:i≤9223372036854775807)(hn:n≤4100)(ht:t≤1000000)(hP:RP W.heap.size w O wb db n es aa key d)(hC:RC W w O L Z es d.fs aa key E t N)(aI:Sh W w O Z db d net)(ce:net.lies=[])(hf:net.fetches+80000 < 4611686018427387904):
  Calls Tryz.prog 12 #[zo L,zo wb,zo Z,.int .i64 i] w fun r w'=>r= .returned (.bool true)∧zg (fun k=>O k∨N k) rdT w w'∧(∃ I,Sh W w' O Z db d I∧I.lies=[]∧I.fetches≤net.fetches+40000)∧RC W w' O L Z es d.fs aa key E (t+2) (Ext N w w'):=by
 obtain⟨lv,ea,ec,cv,hd,cr,bP,bU,h20,cB,cD,cA,-⟩:=hP.facts hn;obtain⟨pb,cb,pm,nm,A,OP,c,aK,ci,cj,bh,bO,bZ,hk,cq,hN⟩:=hC.rest;have bT:es.length < 4 ^ 21:=Nat.lt_of_le_of_lt bU (by decide);have az:=bh.le;have aV:=za (z63 i ((c.size:Int)+3) (c.size+3) (by omega) w bV bW (by omega) (by omega));have aC:=za aI;have a5:=za cj;have HP:=za hP;have HC:=za hC;have av:=za ce;have af:Hid (∀ k,O k→k < w.heap.size):=fun k hk=>(aI.own k hk).2;have HW:Hid (W.heap.size≤w.heap.size):=aI.base.size;have bc:=za cv;have aw:=za aK;have ag:=za ci;have ad:=za bh;have U:=za bO;have au:=za bZ;have R:=za (And.intro hk cq);have HN:=za hN;have a8:=za cr;have an:=za h20;have bz:=za bP;have aN:=za bU;have aq:=za bT;have HE:=za hE;have HS:=za hS;have aE:=za bN;obtain⟨r0,-⟩:=zf aK 0 _ rfl;obtain⟨r1,-⟩:=zf aK 1 _ rfl;clear hP hC cv aK ci cj bh bO bZ hk cq hN cr h20 cB cA bP hd cD ce aI bT hE hS bN bV bW;unfold zo at r0 ⊢;go_enter Tryz.func12,Tryz.ntmps12;go_wp2_with fail;refine aV.o.mono ?_;rintro r w0 ⟨⟨m,hm,rfl⟩,cu⟩;obtain rfl:w=w0:=cu.symm;clear cu;go_wp2_with fail;generalize hj:(m:Int) - 1=j at *
 have bA:=za aw.o;by_cases aJ:j < 0∨(c.size:Int)≤j
 ·have Y:=za (zzu W aH O A OP cb Z db pm nm d c net j pb w HS.o a5.o aC.o ag.o (by omega) aJ);unfold zo at Y;refine Y.o.mono ?_;rintro r D ⟨H,x,rfl,hx⟩;obtain⟨xa,xc,he⟩:=xu hx;subst he;have V:=za H;have aj:RAt D L pb (c.size:Int) E:=H.turn.keep aw.o (by decide);have ah:=za aj;have b1:∀ o,(D.alloc o).cell? ⟨L,1,none⟩=some (.int .i64 (c.size:Int)):=fun o=>by have h:=(zf aj 1 _ rfl).1;rw [zl _ _ ⟨L,1,none⟩ (zk h)];exact h
  have ar:Hid (∀ X,Below D.heap.size D X→zg (fun k=>O k∨N k) rdT w X∧(∃ I,Sh W X O Z db d I∧I.lies=[]∧I.fetches≤net.fetches+40000)∧RC W X O L Z es d.fs aa key E (t+2) (Ext N w X)):=fun X hb=>by
   obtain⟨g1,g2,g3⟩:=zdi V.o ag.o HN.o HC.o.own af.o HW.o (ad.o.later (show t≤t+2 by omega)) U.o au.o R.o.1 R.o.2 ah.o (zg.of_below hb) ((zg.of_below (O:=O) (T:=[]) hb).keep ah.o (by simp));exact⟨g1,⟨net,g2,av.o,by omega⟩,g3⟩
  have t0:∀ o,(D.alloc (.cells #[.int .i64 2,.string ⟨#[]⟩] 31)).heap[D.heap.size]?=o→(D.alloc (.cells #[.int .i64 2,.string ⟨#[]⟩] 31)).cell? ⟨D.heap.size,0,none⟩=some (.int .i64 2):=fun _ _=>(zf (heap_alloc_last _ _) 0 _ rfl).1;have cZ:=t0 _ rfl;have Q:Hid (Below D.heap.size D (D.alloc (.cells #[.int .i64 2,.string ⟨#[]⟩] 31))):=ze _ _;clear H hx aj Y t0 r0 r1 aV;unfold txv zgk;by_cases cU:j < 0
  ·have bi:decide (j < 0)=true:=by simp;omega
   clear aJ;go_wp2_with fail;go_ret;obtain⟨g1,g2,g3⟩:=ar.o _ Q.o;exact⟨rfl,g1,g2,g3⟩
  ·have bi:decide (j < 0)=false:=by simp;omega
   have cS:(c.size:Int)≤j:=by omega
   have bS:decide ((c.size:Int)≤j)=true:=by simp;omega
   clear aJ;go_wp2_with fail;go_ret;obtain⟨g1,g2,g3⟩:=ar.o _ Q.o;exact⟨rfl,g1,g2,g3⟩
 ·obtain⟨q,rfl⟩:=Int.eq_ofNat_of_zero_le (show 0≤j by omega);have hq:q < c.size:=by omega
  have cl:q < es.length:=by omega
  obtain⟨c1,n1,c2,n2,e1,e2,⟨cx,cy,cz⟩,⟨c0,c3,c4⟩,bQ,bR,bX,bY,⟨f1,f2⟩,⟨f3,f4⟩,cm,ca⟩:=z5e (n:=net) zav (z19 es aq.o) an.o aq.o U.o av.o ad.o hq;have Y:=za (zsj W aH O A OP cb Z db pm nm d c net q pb w HE.o HS.o aE.o a5.o aC.o ag.o (by omega) (by omega) hq (zsa an.o aq.o U.o av.o ad.o hq) (by have:=ad.o.len;omega) ad.o.gd.wf);rw [e1] at Y;have aM:=za e2;have ao:=za bQ;have aL:=za bR;have HL:=za (And.intro bX bY);have HF:=za (And.intro (And.intro f1 f2) (And.intro f3 f4));have aW:=za (And.intro cm ca);have aQ:=za (And.intro cx (And.intro cy cz));have ae:=za (And.intro c0 (And.intro c3 c4));have b0:Hid (es.getD q []=es[q]):=by show _=_;simp [List.getD_eq_getElem?_getD,cl]
  have b2:=za hj;obtain⟨eg,he⟩:=z3g a8.o (by omega);subst he;clear e1 e2 bQ bR bX bY f1 f2 f3 f4 cm ca cx cy cz c0 c3 c4 hj aV r0 r1;unfold zo at Y;refine Y.o.mono ?_;rintro r D ⟨H,nn,x,hr,a0,hx⟩;have cK:r= .returned (.tuple #[txv (es.getD q []),.bool nn,x,.agg #[.int .i64 0,.string ⟨#[]⟩]]):=hr;have bs:D.ownsRow w.heap.size 9 1 x (zef es c.size q).length ((zef es c.size q).map txt):=hx;have cf:nn=true→es.getD q []=[]:=a0;have ai:CR W w D O A OP cb Z db pm nm d c1 n1 (fun _=>True):=H;subst cK;have V:=za ai;have HX:=za bs;have b5:=za cf;obtain⟨xa,xc,he⟩:=xu bs;subst he;have aj:RAt D L pb (c.size:Int) E:=ai.turn.keep aw.o (by decide);have br:WAt D wb db lv (.slice (some ⟨eg,0,none⟩) es.length ec) { key:=key,published:=(aa:Int),failed:=false,foreign:=false }:=ai.turn.keep bc.o (by decide);have ah:=za aj;have aF:=za br;have a9:=za (zi a8.o ai.turn (by decide));have b8:Hid (RP W.heap.size D O wb db n es aa key d):=HP.o.stay ai.turn (by decide) (by decide) (by decide) (by decide) (by decide) (by decide) (by decide) (by decide);have b1:∀ o,(D.alloc o).cell? ⟨L,1,none⟩=some (.int .i64 (c.size:Int)):=fun o=>by have h:=(zf aj 1 _ rfl).1;rw [zl _ _ ⟨L,1,none⟩ (zk h)];exact h
  have b3:∀ o,(D.alloc o).cell? ⟨wb,3,none⟩=some (.slice (some ⟨eg,0,none⟩) es.length ec):=fun o=>by have h:=(zf br 3 _ rfl).1;rw [zl _ _ ⟨wb,3,none⟩ (zk h)];exact h
  have Q:Hid (Below D.heap.size D (D.alloc (.cells #[.int .i64 0,.string ⟨#[]⟩] 31))):=ze _ _;have bb:Hid (zch D.heap.size (D.alloc (.cells #[.int .i64 0,.string ⟨#[]⟩] 31))):=heap_alloc_last _ _;have ba:Hid (w.heap.size≤D.heap.size):=ai.turn.size;have z1:=b1 (.cells #[.int .i64 0,.string ⟨#[]⟩] 31);have z3:=b3 (.cells #[.int .i64 0,.string ⟨#[]⟩] 31);clear H hx hr a0 aj br Y bs cf ai b1 b3 aJ;have bi:decide ((q:Int) < 0)=false:=by simp
  have bS:decide ((c.size:Int)≤(q:Int))=false:=by simp;omega
  have cC:¬(c.size:Int)≤(q:Int):=by omega
  have a2:Hid (∀ X:World,X.ownsRow 0 9 1 (.slice (some ⟨eg,0,none⟩) es.length ec) es.length (es.map txv)→X.cell? ⟨eg,q,none⟩=some (txv (es.getD q []))):=fun X h=>z95 h q cl;have aU:Hid (zac (es.take c.size).length (es.take c.size) q=zef es c.size q):=by
   show _=_;rw [zbj az];exact zsw es c.size q c.size az (by have:=aN.o;omega) hq (Nat.le_refl _)
  have a4:Hid ((zef es c.size q).length≤64):=zpy _ _ _;generalize es.getD q []=e0 at *
  generalize zef es c.size q=ps at *
  have aZ:=za (zi a9.o (zg.of_below (O:=O) (T:=[]) Q.o) (by simp));have b9:Hid (∀ X,Below (D.alloc (.cells #[.int .i64 0,.string ⟨#[]⟩] 31)).heap.size (D.alloc (.cells #[.int .i64 0,.string ⟨#[]⟩] 31)) X→Calls Tryz.prog 33 #[.slice (some ⟨eg,0,none⟩) c.size ec,.int .i64 (q:Int)] X fun r w'=>∃ x,r= .returned x∧Below X.heap.size X w'∧zeo X w' x ps):=fun X hb=>by
   have h:=zoh (.slice (some ⟨eg,0,none⟩) c.size ec) (es.take c.size) q X (by have:=zbj az;have:=aN.o;omega) (fun e he=>an.o e (List.mem_of_mem_take he)) (by rw [zbj az];exact hq) (Tss.take (zdc (zi aZ.o (zg.of_below (O:=O) (T:=[]) hb) (by simp))) c.size az);rw [aU.o] at h;exact h
  have cR:(c.size:Int)≤(ec:Int):=by have:=bz.o;omega
  unfold txv;go_wp2_with fail;generalize cM:(D.alloc (.cells #[.int .i64 0,.string ⟨#[]⟩] 31))=w2 at *
  have bx:Hid (Below w2.heap.size w2 w2.drew):=(Below.refl _ _).drew;have b4:Hid (∀ X,Below w2.drew.heap.size w2.drew X→X.cell? ⟨wb,3,none⟩=some (.slice (some ⟨eg,0,none⟩) es.length ec)∧X.cell? ⟨L,1,none⟩=some (.int .i64 (c.size:Int))):=fun X hb=>⟨by rw [hb.cell (p:=⟨wb,3,none⟩) (zk z3)];exact z3,by rw [hb.cell (p:=⟨L,1,none⟩) (zk z1)];exact z1⟩
  clear cM;have cE:decide (c.size≤q)=false:=by simp;omega
  rw [cE];go_cut [13] from 61 to 71 (fun bu wx=>∃ ya yc,bu= .slice ya ps.length yc∧Below w2.heap.size w2 wx∧wx.ownsRow 0 9 1 (.slice ya ps.length yc) ps.length (ps.map txt))
  case first =>
   clear bi bS cC;go_region_held3 (fun X=>X.cell? ⟨wb,3,none⟩=some (.slice (some ⟨eg,0,none⟩) es.length ec)∧X.cell? ⟨L,1,none⟩=some (.int .i64 (c.size:Int))) (go_keep) (first | (go_at_call 33;refine(b9.o _ bx.o).mono ?_;rintro r w4 ⟨xx,rfl,bf,bl⟩;obtain⟨p3,p1⟩:=b4.o w4 bf;obtain⟨ya,yc,he⟩:=xu bl;subst he;have c6:=za bf;have c9:=za bl;clear bf bl));all_goals go_wp2_with fail
   all_goals go_meet
   all_goals exact⟨ya,yc,rfl,qa c6.o,zcb c9.o (Nat.zero_le _)⟩
  case rest =>
   obtain⟨ya,yc,rfl,bg,ch⟩:=hcut;have ak:=za bg;have aG:=za ch;have bK:Hid (wc.ownsRow w.heap.size 9 1 (.slice xa ps.length xc) ps.length (ps.map txt)):=zi (zi HX.o (zg.of_below (O:=O) (T:=[]) Q.o) (by simp)) (zg.of_below (O:=O) (T:=[]) bg) (by simp);have bF:=za (zcz _ _ ps w.heap.size 0 wc (by have:=a4.o;omega) bK.o aG.o);clear bg ch z1 z3 b4 b9 bx;go_wp2_with fail;refine bF.o.mono ?_;rintro r K ⟨rfl,ay⟩;have bw:=za ay;have al:Below D.heap.size D K:=Q.o.trans ((ak.o.trans (ay.mono ak.o.size)).mono Q.o.size);have ac:=za al;have bn:RAt K L pb (c.size:Int) E:=(zg.of_below (O:=O) (T:=[]) al).keep ah.o (by simp);have cw:=(zg.of_below (O:=O) (T:=[]) al).keep aF.o (by simp);have aA:=za (zi a9.o (zg.of_below (O:=O) (T:=[]) al) (by simp));have ax:Hid (zch D.heap.size K):=bb.o.below (ak.o.trans (ay.mono ak.o.size));have bd:=za (zy aG.o ay);have bp:Sh W K O Z db d n1:=V.o.sh.below al;have aD:=za bp;obtain⟨cX,dc,-,cc,-⟩:=bp.net;have y3:K.cell? ⟨wb,3,none⟩=some (.slice (some ⟨eg,0,none⟩) es.length ec):=(zf cw 3 _ rfl).1;have yq:K.cell? ⟨eg,q,none⟩=some (txv e0):=a2.o K aA.o;have yt:K.cell? ⟨D.heap.size,0,none⟩=some (.int .i64 0):=(zf ax.o 0 _ rfl).1;have yn:K.cell? ⟨Z,3,none⟩=some (.int .i64 n1.fetches):=(zf cc 3 _ rfl).1;have yr:K.cell? ⟨L,0,none⟩=some (.pointer (some ⟨pb,0,none⟩)):=(zf bn 0 _ rfl).1;have a6:=za bn;clear ay al bn cw bp cc bF bK;unfold txv at yq;have cV:(q:Int) < (es.length:Int):=by omega
   obtain⟨A1,be,bL,bM,ck,-⟩:=V.o.rest;have a3:Hid (zgz K pb cb):=(zg.of_below (O:=O) (T:=[]) ac.o).keep (V.o.turn.keep ag.o (by decide)) (by simp);have S:=aQ.o;have cn:RAt K L pb (c1.size:Int) E:=by rw [S.2.1];exact a6.o
   obtain⟨g1,g2,g3⟩:=zdi V.o ag.o HN.o HC.o.own af.o HW.o ao.o (by rw [S.2.1];exact U.o) (by rw [S.2.1];exact au.o) (S.1.trans R.o.1) (S.2.2.trans R.o.2) ah.o (zg.of_below ac.o) cn;have aO:=za g1;have aP:=za g3;have bm:q < c1.size:=by rw [S.2.1];exact hq
   have bj:=HF.o;have bu:=ac.o.size;have c5:=ba.o;have aY:=za (zsj W aH O A1 be cb Z db pm nm d c1 n1 q pb K HE.o HS.o aE.o (ck.below ac.o) aD.o a3.o (by omega) (by rw [S.2.1];omega) bm (zsa an.o aq.o (by rw [S.2.1];exact U.o) HL.o.1 ao.o bm) (by have:=ao.o.len;omega) ao.o.gd.wf);rw [aM.o] at aY;have a7:Hid (Calls Tryz.prog 32 #[zo pb,.int .i64 (q:Int)] K fun r w'=>CR W K w' O A1 be cb Z db pm nm d c2 n2 (fun _=>True)∧∃ nn x,r= .returned (.tuple #[txv e0,.bool nn,x,.agg #[.int .i64 0,.string ⟨#[]⟩]])∧(nn=true→e0=[])∧w'.ownsRow K.heap.size 9 1 x ps.length (ps.map txt)):=aY.o;have bk:0≤n1.fetches∧n1.fetches < 4611686018427387904∧n1.fetches≤n2.fetches∧n2.fetches≤n1.fetches+17000:=⟨aD.o.st.fe,by omega,bj.2.1,bj.2.2⟩
   obtain⟨bk,cG,cH,cI⟩:=bk;have aR:Hid (∀ k,A1 k∨be k∨k=cb∨k=pb∨k=L→Ext N w K k):=fun k hk=>by
    rcases hk with h | h | h | h | h
    ·rcases bL.2 k h with h | h
     ·exact .inl (HN.o k (.inl h))
     ·exact .inr ⟨h.1,by omega⟩
    ·rcases bM.2 k h with h | h
     ·exact .inl (HN.o k (.inr (.inl h)))
     ·exact .inr ⟨h.1,by omega⟩
    ·exact .inl (HN.o k (.inr (.inr (.inl h))))
    ·exact .inl (HN.o k (.inr (.inr (.inr (.inl h)))))
    ·exact .inl (HN.o k (.inr (.inr (.inr (.inr h)))))
   have aS:Hid (∀ k,O k→k < K.heap.size):=fun k hk=>by have:=af.o k hk;omega
   have aB:Hid (w.heap.size≤D.heap.size∧D.heap.size < K.heap.size):=⟨c5,zb ax.o⟩
   have a0:nn=false∨(nn=true∧e0=[]):=by
    cases nn with
    | false=>exact .inl rfl
    | true=>exact .inr ⟨rfl,b5.o rfl⟩
   clear bL bM ck cn g1 g2 g3 S bm bj bu c5 b5 ao aY;unfold zo at a7;have b7:=za a0;clear a0
   go_upto_region 7 with fail
   go_cut [99] from 75 to 98 (fun cO wx=>cO= .bool false∧K=wx)
   case first =>
    clear a7 a5 HP HC V aO aP aR aC aD HE HS aE b8 aG bd HX aw bA ah a6 bc aF a8 a9 aZ aA ag a3 a2 aW HF HL aQ ae ad aL U au R HN aS aB ba HW af bb ax ac Q bw ak aM b0 b2 aU a4 av;rcases b7.o with rfl | ⟨rfl,rfl⟩
    all_goals go_wp2_with fail
    all_goals go_meet
    all_goals exact⟨rfl,rfl⟩
   case rest =>
    obtain⟨rfl,rfl⟩:=hcut;go_wp2_with fail;refine a7.o.mono ?_;rintro r w5 ⟨H,cY,x2,rfl,cg,bt⟩;obtain⟨dd,de,cF⟩:=xu bt;have ar:=za (zun H a3.o aR.o aP.o.own aS.o (Nat.le_trans HW.o (by have:=aB.o;omega)) aL.o (by rw [ae.o.2.1];exact U.o) (by rw [ae.o.2.1];exact au.o) (ae.o.1.trans R.o.1) (ae.o.2.2.trans R.o.2) a6.o ae.o.2.1 aO.o ax.o aB.o HW.o af.o);obtain⟨cL,a1,hX⟩:=ar.o;have am:=zd1 a1 (.int .i64 0) (.string ⟨#[]⟩);obtain⟨co,ct,bq,cp⟩:=hX _ am;have bG:=za (zcz x2 (.slice ya ps.length yc) ps K.heap.size 0 ((w5.setCell ⟨D.heap.size,0,none⟩ (.int .i64 0)).setCell ⟨D.heap.size,1,none⟩ (.string ⟨#[]⟩)) (by have:=a4.o;omega) (zi bt am (by decide)) (zi (zi bd.o H.turn (by decide)) am (by decide)));have bD:=za (zi (zi aA.o H.turn (by decide)) am (by decide));have bJ:Hid (WAt ((w5.setCell ⟨D.heap.size,0,none⟩ (.int .i64 0)).setCell ⟨D.heap.size,1,none⟩ (.string ⟨#[]⟩)) wb db lv (.slice (some ⟨eg,0,none⟩) es.length ec) { key:=key,published:=(aa:Int),failed:=false,foreign:=false }):=am.keep (H.turn.keep ((zg.of_below (O:=O) (T:=[]) ac.o).keep aF.o (by simp)) (by decide)) (by decide);have bH:Hid (((w5.setCell ⟨D.heap.size,0,none⟩ (.int .i64 0)).setCell ⟨D.heap.size,1,none⟩ (.string ⟨#[]⟩)).heap[D.heap.size]?=some (.cells #[.int .i64 0,.string ⟨#[]⟩] 31 (0,0))):=zal a1 0 [] rfl;obtain⟨cW,da,-,cd,-⟩:=bq.net;have cP:((w5.setCell ⟨D.heap.size,0,none⟩ (.int .i64 0)).setCell ⟨D.heap.size,1,none⟩ (.string ⟨#[]⟩)).cell? ⟨Z,3,none⟩=some (.int .i64 n2.fetches):=(zf cd 3 _ rfl).1;obtain⟨u0,v0⟩:=zf a1 0 _ rfl;obtain⟨u1,v1⟩:=zf a1 1 _ rfl;have bB:=za co;have bI:=za ct;have bE:=za bq;have bC:=za cp;have b6:=za (z4q cg);subst cF;clear bt H cg cL a1 hX am co ct bq cp cd ar a7 HE HS aE aC a5 HP HC bc aw ag ad U au HN a8 an aq bA ah aF a9 b8 Q bb HX aZ aU ak aG bw ax aD a6 a3 aO aP aR aS aM aL aQ ae b0 b2 bd aA ac V y3 yq yt yn yr;unfold txv;go_wp2_with fail;refine bG.o.mono ?_;rintro r w7 ⟨rfl,J⟩;have c7:=za J;have bo:=(zg.of_below (O:=O) (T:=[]) J).keep bB.o (by simp);have df:w7.cell? ⟨wb,3,none⟩=some (.slice (some ⟨eg,0,none⟩) es.length ec):=(zf ((zg.of_below (O:=O) (T:=[]) J).keep bJ.o (by simp)) 3 _ rfl).1;have cQ:=a2.o w7 (zi bD.o (zg.of_below (O:=O) (T:=[]) J) (by simp));have di:w7.cell? ⟨D.heap.size,0,none⟩=some (.int .i64 0):=(zf ((zg.of_below (O:=O) (T:=[]) J).keep bH.o (by simp)) 0 _ rfl).1;have dg:w7.cell? ⟨L,1,none⟩=some (.int .i64 (c.size:Int)):=(zf bo 1 _ rfl).1;have dh:w7.cell? ⟨L,2,none⟩=some (.int .i64 E):=(zf bo 2 _ rfl).1;have ap:Hid (zg (fun k=>O k∨N k) rdT w w7∧(∃ I,Sh W w7 O Z db d I∧I.lies=[]∧I.fetches≤net.fetches+40000)∧RC W w7 O L Z es d.fs aa key E (t+2) (Ext N w w7)):=⟨bI.o.then_below J,⟨n2,bE.o.below J,HL.o.2,by have:=HF.o;omega⟩,(bC.o.below J).ext J.size af.o HW.o⟩
    have aX:Hid ((16≤E→c.size≤256→n2.fetches - n1.fetches=0)∧(E≤0∨E=1∧2≤c.size→0 < n2.fetches - n1.fetches)):=by
     have h:=aW.o;rw [R.o.2] at h;exact⟨fun a b=>by have:=h.1 a b;omega,fun a=>by have:=h.2 a;omega⟩
    unfold txv at cQ;clear J bo bG;generalize n2.fetches - n1.fetches=mo at *
    clear bI bE bC bB bJ bD bH a2 c7 HF HL aW R av af HW bz aN ba aB a4 cP u0 v0 u1 v1 bk cG cH cI
    go_upto_region 13 with fail
    go_cut [148] from 124 to 147 (fun cN wx=>cN= .bool false∧w7=wx)
    case first =>
     clear ap aX;rcases b6.o with rfl | ⟨rfl,rfl⟩
     all_goals go_wp2_with fail
     all_goals go_meet
     all_goals exact⟨rfl,rfl⟩
    case rest =>
     obtain⟨rfl,rfl⟩:=hcut;go_wp2_with fail;all_goals go_ret
     all_goals
      refine⟨?_,ap.o.1,ap.o.2.1,ap.o.2.2⟩;have cJ:=aX.o;first
       | rfl
       | (show Ending.returned (Value.bool _)=_;congr 2;simp;omega)
       | (exfalso;clear ap aX b6 cJ b7;simp_all)
section
theorem vi.mono {w:World}{O O':Nat→Prop}{nb db:Nat}{n:Nt}(h:vi w O nb db n)(D:∀ k,O k→O' k):vi w O' nb db n:=by
 obtain⟨K,tv,h1,h2,H,⟨a,r,e,A⟩,h5⟩:=h;refine⟨K,tv,D _ h1,h2,H,⟨a,r,e,?_⟩,h5⟩;rcases A with A | ⟨g,E,I,J⟩
 ·exact .inl A
 ·exact .inr ⟨g,E,D _ I,J⟩
structure LI (W w:World)(O Na Nb:Nat→Prop)(ra rb nb wb db k:Nat)(es:List (List UInt8))(pub:Nat)(key:List UInt8)(d:Dk)(net:Nt)(ca cb:Int):Prop where
 rp:RP W.heap.size w O wb db k es pub key d
 a:RC W w O ra nb es d.fs pub key ca (2*k) Na
 b:RC W w O rb nb es d.fs pub key cb (2*k) Nb
 ab:∀ x,Na x→¬ Nb x
 sh:Sh W w O nb db d net
 nl:net.lies=[]
 nf:net.fetches≤80000*(k:Int)
section
variable {W w w' : World} {O Na Nb : Nat → Prop} {ra rb nb wb db k : Nat} {es : List (List UInt8)} {pub : Nat} {key : List UInt8} {d : Dk} {net : Nt} {ca cb : Int}
theorem LI.swap (h:LI W w O Na Nb ra rb nb wb db k es pub key d net ca cb):LI W w O Nb Na rb ra nb wb db k es pub key d net cb ca :=
 ⟨h.rp,h.b,h.a,fun x A r=>h.ab x r A,h.sh,h.nl,h.nf⟩
theorem LI.below (h:LI W w O Na Nb ra rb nb wb db k es pub key d net ca cb)(r:Below w.heap.size w w'):LI W w' O Na Nb ra rb nb wb db k es pub key d net ca cb :=
 ⟨h.rp.below r,h.a.below r,h.b.below r,h.ab,h.sh.below r,h.nl,h.nf⟩
theorem LI.next (h:LI W w O Na Nb ra rb nb wb db k es pub key d net ca cb):LI W w O Na Nb ra rb nb wb db (k+1) es pub key d net ca cb :=
 ⟨h.rp.later (Nat.le_succ k),h.a.later (by omega),h.b.later (by omega),h.ab,h.sh,h.nl,by have:=h.nf;omega⟩
theorem LI.step (h:LI W w O Na Nb ra rb nb wb db k es pub key d net ca cb)(S:k≤4100)(H:zg O aT w w'){more:List (List UInt8)}{A:Nat}{I:Dk}(hr:RP W.heap.size w' (Ext O w w') wb db (k+1) (es++more) A key I)(K:pub≤A)(J:∀ s,s≤es.length→ju d.fs es s→ju I.fs es s):LI W w' (Ext O w w') Na Nb ra rb nb wb db (k+1) (es++more) A key I net ca cb:=by
 have L:∀ x,Na x→¬ Ext O w w' x:=fun x r e=>by
  have:=h.a.own x r;rcases e with e | e
  ·exact this.2.2 e
  ·omega
 have Q:∀ x,Nb x→¬ Ext O w w' x:=fun x r e=>by
  have:=h.b.own x r;rcases e with e | e
  ·exact this.2.2 e
  ·omega
 obtain⟨U,R,s,put,E⟩:=hr.full;have D:=E.2.2.2.1;refine⟨hr,(((h.a.other H (fun x r=>(h.a.own x r).2.2) (by decide)).grow L).more more K J).later (by omega),(((h.b.other H (fun x r=>(h.b.own x r).2.2) (by decide)).grow Q).more more K J).later (by omega),h.ab,⟨h.sh.base.trans (H.below (fun x r=>(h.sh.own x r).1) h.sh.base.size),fun x r=>hr.own x r,E.2.2.1,(h.sh.net.turn H (by decide) (by decide) (by decide)).mono (fun _ h=> .inl h),⟨by have:=D.count;omega,fun f E=>by have:=D.data f E;omega,h.sh.st.ly,h.sh.st.ll,h.sh.st.fe,h.sh.st.td⟩⟩,h.nl,by have:=h.nf;omega⟩
theorem LI.cli (h:LI W w O Na Nb ra rb nb wb db k es pub key d net ca cb)(I:zg (fun x=>O x∨Na x) rdT w w'){r:Nt}(L:Sh W w' O nb db d r)(K:r.lies=[])(Q:r.fetches≤net.fetches+40000){t:Nat}(D:RC W w' O ra nb es d.fs pub key ca t (Ext Na w w'))(E:t≤2*(k+1)):LI W w' O (Ext Na w w') Nb ra rb nb wb db (k+1) es pub key d r ca cb:=by
 have J:∀ x,Nb x→¬(O x∨Na x):=fun x A e=>by
  rcases e with e | e
  ·exact(h.b.own x A).2.2 e
  ·exact h.ab x e A
 refine⟨(h.rp.stay I (by decide) (by decide) (by decide) (by decide) (by decide) (by decide) (by decide) (by decide)).later (Nat.le_succ k),D.later E,(h.b.other I J (by decide)).later (by omega),fun x A H=>?_,L,K,by have:=h.nf;omega⟩;rcases A with A | A
 ·exact h.ab x A H
 ·have:=h.b.own x H;omega
theorem LI.trust (h:LI W w O Na Nb ra rb nb wb db k es pub key d net ca cb)(A:zg Na [qh] w w')(r:RC W w' O ra nb es d.fs pub key ca (2*k) Na):LI W w' O Na Nb ra rb nb wb db (k+1) es pub key d net ca cb:=by
 refine⟨(h.rp.stay A (by decide) (by decide) (by decide) (by decide) (by decide) (by decide) (by decide) (by decide)).later (Nat.le_succ k),r.later (by omega),(h.b.other A (fun x D e=>h.ab x e D) (by decide)).later (by omega),h.ab,h.sh.past A (fun x D=>(h.a.own x D).1) (by decide) (by decide) (by decide) (by decide) (by decide),h.nl,by have:=h.nf;omega⟩
end
theorem z59 {b:Nat}{w:World}{O:Nat→Prop}{key:List UInt8}(I:key.length≤1048576)(H:WAt w b (b+1) (.pointer none) (.slice none 0 0) { key:=key,published:=0,failed:=false,foreign:=false })(D:zq w O (b+1) { dk0 with fs:=ze6 [] [] }):
  yad w (fun k=>O k∧k < w.heap.size) b (b+1) (.pointer none) (.slice none 0 0) { key:=key,published:=0,failed:=false,foreign:=false } { dk0 with fs:=[] } [] 0:=by
 refine⟨rfl,H,?_,⟨by simp [za1],fun f h=>by simp at h,by simp,zsf [],by simp,by show key.length≤_;omega,rfl⟩,.inl rfl⟩;obtain⟨A,a,r,h,E⟩:=D;exact⟨A,⟨a,zb r⟩,r,h,fun g e=>⟨E g e,(h.lt g e).2⟩⟩
theorem RP.wide {B:Nat}{w:World}{O O':Nat→Prop}{wb db n:Nat}{es:List (List UInt8)}{pub:Nat}{key:List UInt8}{d:Dk}(h:RP B w O wb db n es pub key d)(r:∀ k,O k→O' k)(D:∀ k,O' k→B≤k∧k < w.heap.size):RP B w O' wb db n es pub key d:=by
 obtain⟨E,A,s,put,g⟩:=h.full;exact⟨r _ h.hwb,D,⟨E,A,s,put,g.mono r⟩,h.still,h.since,h.chk⟩
theorem z96 {B:Nat}{w:World}{O:Nat→Prop}{wb db:Nat}{E A:Value}{key:List UInt8}{d:Dk}{s:List Nat}(hwb:O wb)(H:∀ k,O k→B≤k∧k < w.heap.size)(I:zdp w O wb db E A { key:=key,published:=((0:Nat):Int),failed:=false,foreign:=false } d s 0 [] 0)(r:jx d)(h:d.fs=[]):RP B w O wb db 0 [] 0 key d :=
 ⟨hwb,H,⟨E,A,s,0,I⟩,r,fun q x D=>by rw [h] at D;simp [yp] at D,Nat.le_refl _,.inl ⟨by rw [h];rfl,rfl⟩⟩
theorem z2x {W w:World}{O A D N:Nat→Prop}{rb r cb nb K nm:Nat}{key:List UInt8}{h:Int}{fs:Fs}(J:RAt w rb r 0 h)(H:zgz w r cb)(I:Pv W w O A D cb nb K nm ⟨key,0,xe 0 [],h,[]⟩)(L:∀ k,A k∨D k∨k=cb∨k=r∨k=rb→N k)(E:∀ k,N k→W.heap.size≤k∧k < w.heap.size∧¬ O k):RC W w O rb nb [] fs 0 key h 0 N :=
 ⟨⟨r,cb,K,nm,A,D,⟨key,0,xe 0 [],h,[]⟩,J,H,I,z97 [] key h,ztx _ _,Nat.le_refl _,rfl,rfl,L⟩,E⟩
theorem zs9 (K:World)(D:Nat→Addr)(cb:Nat)(C:Array Value)(key:List UInt8)(pb:Nat)(w:World)(hE:Env K)(hS:ja K D)(V:Below K.heap.size K w)(S:K.heap.size≤cb)(U:key.length≤2097152)(hC:w.heap[cb]?=some (.cells C qh (0,0)))(h0:C[0]?=some (.int .i32 0))(h2:C[2]?=some .nilIface)(h3:C[3]?=some (txv key))(hp:zgz w pb cb):
  Calls Tryz.prog 8 #[zo pb] w fun r w'=>∃ x,r= .returned (.tuple #[x,.agg #[.int .i64 3,.string ⟨#[]⟩]])∧zg (fun b=>b=cb) [qh] w w':=by
 have E:Below w.heap.size w (w.alloc zeb):=ze _ _;have Y:=za E;have HU:=za (zw1 K D cb C key (w.alloc zeb) hE hS (V.trans (E.mono V.size)) S U (zc hC) h0 h2 h3);have aa:Hid (zch w.heap.size (w.alloc zeb)):=heap_alloc_last _ _;have c0:=(zf (zc (o:=zeb) hp) 0 _ rfl).1;have HS:=za hS;have L:=za V;have Z:=za S;clear hp E hE hS U hC h0 h2 h3 V;unfold zo at c0 HU ⊢;go_enter Tryz.func8,Tryz.ntmps8;go_wp2_with fail;generalize w.alloc zeb=W1 at *
 refine HU.o.mono ?_;rintro r w2 ⟨I,rfl⟩;have ae:Hid (zg (fun b=>b=cb) [qh] w w2):=(zg.of_below Y.o).trans (I.mono (fun _ h=> .inl h) (fun _ h=>h));have ac:=za (aa.o.turn I (by decide));have R:=za (zfw 0 (.slice none 0 0) [] w2 (by simp) (by simp) ⟨rfl,.inl ⟨rfl,rfl⟩⟩);clear I HU c0;go_wp2_with fail;refine R.o.mono ?_;rintro r w3 ⟨x,rfl,J,ag⟩;have Q:Hid (zg (fun b=>b=cb) [qh] w w3):=ae.o.apart J (fun k X=>by simp [Value.ownBlock] at X);have ad:=za (ac.o.turn J (by decide));clear J ag R;go_wp2_with fail;refine(zrm D w3 (j5 HS.o (L.o.trans (Q.o.below (fun k X=>by subst X;exact Z.o) L.o.size))) _ (3,[]) (.inr (.inr (.inl ⟨rfl,rfl⟩)))).mono ?_;rintro r w4 ⟨rfl,H⟩;have af:=za (Q.o.then_below H);have A:=za (ad.o.below H);obtain⟨q0,z0⟩:=zf A.o 0 _ rfl;obtain⟨q1,z1⟩:=zf A.o 1 _ rfl;clear H;unfold zgk;go_wp2_with fail;refine bodyPost_ret (v:= .tuple #[x,.agg #[.int .i64 3,.string ⟨([]:List UInt8).toArray⟩]]) (j3 Tryz.results8 _ _ w.heap.size 31 _ (0,0) _ rfl (zal A.o _ _ rfl) Tryz.underlying31 rfl (by kernel_rfl) _ rfl) rfl ?_;exact⟨x,rfl,af.o.apart (zd1 A.o _ _) (fun k X=>by omega)⟩
end
structure OpR where
 kind:Int
 a:Int
 two:Bool
 s:List UInt8
def Oss (w:World)(v:Value)(r:List OpR):Prop :=
 ∃ a D,v= .slice a r.length D∧r.length≤D∧(r=[]∨∃ b A,a=some ⟨b,A,none⟩∧∀ i (h:i < r.length),w.cell? ⟨b,A+i*4,none⟩=some (.int .i64 r[i].kind)∧w.cell? ⟨b,A+i*4+1,none⟩=some (.int .i64 r[i].a)∧w.cell? ⟨b,A+i*4+2,none⟩=some (.bool r[i].two)∧w.cell? ⟨b,A+i*4+3,none⟩=some (txv r[i].s))
theorem z0g (W:World)(ac:Nat→Addr)(hE:Env W)(bB:ja W ac)(bC:zdq W)(key:List UInt8)(K:Int)(sv:Value)(Z:List OpR)(cv:key.length≤9223372036854775807)
  (ap:∀ o∈Z,-9223372036854775808≤o.a∧o.a≤9223372036854775807∧o.s.length≤9223372036854775807) (hs:Oss W sv Z) :
  Calls Tryz.prog 3 #[.string ⟨key.toArray⟩,.int .i64 K,sv] W fun r w'=>r= .returned (.bool true)∧Below W.heap.size W w':=by
 have HS:=za hs;have aj:=za hE;have ak:=za bB;have aC:=za bC;have ce:=za ap;obtain⟨sa,cm,rfl,cx,-⟩:=hs;clear hE bB ap bC;go_enter Tryz.func3,Tryz.ntmps3;go_wp2_with fail;refine(zsx _ [] sa Z.length cm W (by simp) ⟨none,0,rfl,Nat.le_refl _,.inl rfl⟩).mono ?_;rintro r w1 ⟨bD,bb,rfl,bF⟩;have aq:=za bD;have bp:=za bF;clear bD bF;cases bb with
 | false =>
  go_wp2_with fail;go_ret;exact⟨rfl,aq.o⟩
 | true =>
  obtain⟨-,cw,-⟩:=bp.o rfl;clear bp;by_cases cu:1048576 < key.length
  ·have ci:(1048576:Int) < (key.length:Int):=by omega
   go_wp2_with fail;go_ret;exact⟨rfl,aq.o⟩
  ·have ci:¬(1048576:Int) < (key.length:Int):=by omega
   have aQ:=za (z0r key K w1);unfold txv at aQ;go_wp2_with fail;refine aQ.o.mono ?_;rintro r w2 ⟨lp,lc,c3,c0,rfl,bE,bJ,cj,bS,bK⟩;have ar:Hid (Below W.heap.size W w2):=aq.o.trans (bE.mono aq.o.size);have a6:=za bS;have a3:=za bK;have aO:Hid (W.heap.size≤lc):=Nat.le_trans aq.o.size bJ;have bf:=za (z2m (.slice none 0 0) [] key w2 (by simp) ⟨none,0,rfl,Nat.le_refl _,.inl rfl⟩);clear bE bS bK bJ cj aQ;unfold txv at bf;unfold zo;go_wp2_with fail;refine bf.o.mono ?_;rintro r w3 ⟨rfl,aE,aH,bG⟩;have a1:Hid (Below W.heap.size W w3):=ar.o.trans (aE.mono ar.o.size);have bI:=z59 (by omega) aH bG;have bA:∀ k,(w2.heap.size≤k∧k < w3.heap.size)→W.heap.size≤k∧k < w3.heap.size:=fun k hk=>⟨Nat.le_trans ar.o.size hk.1,hk.2⟩
   have bx:=za (z9o (fun k=>w2.heap.size≤k∧k < w3.heap.size) W ac aj.o ak.o w2.heap.size (w2.heap.size+1) _ _ _ _ [] 0 w3 bA a1.o (by omega) ⟨Nat.le_refl _,zb aH⟩ bI rfl);have bz:Hid (zgz w3 lp lc):=(aE.block _ (zb a6.o)).trans a6.o;have bq:=za ((aE.block _ (zb a3.o)).trans a3.o);have aP:Hid (lp < w2.heap.size∧lc < w2.heap.size):=⟨zb a6.o,zb a3.o⟩
   have b9:Hid (w2.heap.size < w3.heap.size):=zb aH;clear aE aH bG bI bA bf;go_wp2_with fail;refine bx.o.mono ?_;rintro r w4 ⟨rfl,az,bN,cy,cr,d,bH,bZ,bh⟩;have a2:Hid (Below W.heap.size W w4):=a1.o.trans (az.below (fun k hk=>Nat.le_trans ar.o.size hk.1) a1.o.size);have b4:Hid (RP W.heap.size w4 (Ext (fun k=>w2.heap.size≤k∧k < w3.heap.size) w3 w4) w2.heap.size (w2.heap.size+1) 0 [] 0 key d):=z96 (.inl ⟨Nat.le_refl _,b9.o⟩) bN bH bZ bh;have b0:Hid (zgz w4 lp lc):=az.stay bz.o (fun h=>by have:=aP.o;omega);have br:=za (az.stay bq.o (fun h=>by have:=aP.o;omega));have aN:Hid (d.fs=[]):=bh;have cf:Hid (w3.heap.size≤w4.heap.size):=az.size;generalize w2.heap.size=Q at *
   clear az bN bH bZ bh bx;have HU:=za (zs9 W ac lc _ key lp w4 aj.o ak.o a2.o aO.o (by omega) br.o rfl rfl rfl b0.o);unfold zo at HU;go_wp2_with fail;refine HU.o.mono ?_;rintro r w5 ⟨x5,rfl,J⟩;have au:Hid (Below W.heap.size W w5):=a2.o.trans (J.below (fun k hk=>by subst hk;exact aO.o) a2.o.size);have a9:=za (b4.o.stay J (by decide) (by decide) (by decide) (by decide) (by decide) (by decide) (by decide) (by decide));have cg:Hid (w4.heap.size≤w5.heap.size):=J.size;have ax:Hid (Below w5.heap.size w5 (w5.alloc (.cells #[.int .i64 3,.string ⟨#[]⟩] 31))):=ze _ _;have aA:Hid (w5.heap.size≤(w5.alloc (.cells #[.int .i64 3,.string ⟨#[]⟩] 31)).heap.size):=ax.o.size;have a5:Hid (∀ k,Ext (fun k=>Q≤k∧k < w3.heap.size) w3 w4 k→W.heap.size≤k∧k < w5.heap.size):=a9.o.own;obtain⟨ck,ch,sx,cl,aF⟩:=(a9.o.below ax.o).full;have k0:(w5.alloc (.cells #[.int .i64 3,.string ⟨#[]⟩] 31)).cell? ⟨Q,0,none⟩=some (.pointer (some ⟨Q+1,0,none⟩)):=(zf aF.2.1 0 _ rfl).1;have aR:=za (zu2 (Q+1) (w5.alloc (.cells #[.int .i64 3,.string ⟨#[]⟩] 31)));have t0:(w5.alloc (.cells #[.int .i64 3,.string ⟨#[]⟩] 31)).cell? ⟨w5.heap.size,0,none⟩=some (.int .i64 3):=(zf (heap_alloc_last _ _) 0 _ rfl).1;clear J aF HU;unfold vr at aR;generalize Ext (fun k=>Q≤k∧k < w3.heap.size) w3 w4=O4 at *
   go_wp2_with fail;refine aR.o.mono ?_;rintro r E ⟨rfl,bg,bj⟩;generalize w5.alloc (.cells #[.int .i64 3,.string ⟨#[]⟩] 31)=w6 at *
   have cd:=za bg;have bw:=za bj;have av:Hid (Below w5.heap.size w5 E):=ax.o.trans (bg.mono ax.o.size);have a4:Hid (w6.heap.size < E.heap.size):=by obtain⟨lv,tv,-,hn,-⟩:=bj;exact zb hn
   clear bg bj aR k0 t0;have s7:∀ o,(E.alloc o).heap.size=E.heap.size+1:=fun o=>by simp
   have aL:Hid (∀ X:World,E.heap.size≤X.heap.size→Calls Tryz.prog 5 #[zo w6.heap.size,txv key,.int .i64 16] X fun r w'=>∃(pb cb pm nm:Nat) (A OP:Nat→Prop),r= .returned (zo pb)∧Below X.heap.size X w'∧X.heap.size≤pb∧pb < w'.heap.size∧(∀ k,A k∨OP k∨k=cb→X.heap.size≤k∧k < pb)∧zgz w' pb cb∧Pv W w' (fun k=>O4 k∨k=w6.heap.size) A OP cb w6.heap.size pm nm ⟨key,0,xe 0 [],16,[]⟩):=fun X hX=>zpa W _ w6.heap.size key 16 X (by have:=au.o.size;have:=av.o.size;omega) (fun b hb=>by
    have:=a4.o;have:=aA.o;rcases hb with hb | rfl
    ·have:=a5.o b hb;omega
    ·omega)
   unfold zo txv at aL;have aM:Hid (∀ X:World,E.heap.size≤X.heap.size→Calls Tryz.prog 5 #[zo w6.heap.size,txv key,.int .i64 K] X fun r w'=>∃(pb cb pm nm:Nat) (A OP:Nat→Prop),r= .returned (zo pb)∧Below X.heap.size X w'∧X.heap.size≤pb∧pb < w'.heap.size∧(∀ k,A k∨OP k∨k=cb→X.heap.size≤k∧k < pb)∧zgz w' pb cb∧Pv W w' (fun k=>O4 k∨k=w6.heap.size) A OP cb w6.heap.size pm nm ⟨key,0,xe 0 [],K,[]⟩):=fun X hX=>zpa W _ w6.heap.size key K X (by have:=au.o.size;have:=av.o.size;omega) (fun b hb=>by
    have:=a4.o;have:=aA.o;rcases hb with hb | rfl
    ·have:=a5.o b hb;omega
    ·omega)
   unfold zo txv at aM;have aX:Hid (((E.alloc (.cells #[.pointer none,.int .i64 0,.int .i64 16] TRd)).alloc (.cells #[.pointer none,.int .i64 0,.int .i64 K] TRd)).heap[E.heap.size]?=some (.cells #[.pointer none,.int .i64 0,.int .i64 16] TRd (0,0))):=zc (heap_alloc_last _ _);have bc:Hid (((E.alloc (.cells #[.pointer none,.int .i64 0,.int .i64 16] TRd)).alloc (.cells #[.pointer none,.int .i64 0,.int .i64 K] TRd)).heap[E.heap.size+1]?=some (.cells #[.pointer none,.int .i64 0,.int .i64 K] TRd (0,0))):=by
    have h:((E.alloc (.cells #[.pointer none,.int .i64 0,.int .i64 16] TRd)).alloc (.cells #[.pointer none,.int .i64 0,.int .i64 K] TRd)).heap[(E.alloc (.cells #[.pointer none,.int .i64 0,.int .i64 16] TRd)).heap.size]?=some (.cells #[.pointer none,.int .i64 0,.int .i64 K] TRd (0,0)):=heap_alloc_last _ _;rw [s7] at h;exact h
   have aK:Hid (Below E.heap.size E ((E.alloc (.cells #[.pointer none,.int .i64 0,.int .i64 16] TRd)).alloc (.cells #[.pointer none,.int .i64 0,.int .i64 K] TRd))):=(ze E _).trans ((ze _ _).mono (by simp));have aB:Hid (((E.alloc (.cells #[.pointer none,.int .i64 0,.int .i64 16] TRd)).alloc (.cells #[.pointer none,.int .i64 0,.int .i64 K] TRd)).heap.size=E.heap.size+2):=by show _=_;simp
   clear s7;unfold zo;go_wp2_with fail;refine(aL.o _ (Nat.le_trans (Nat.le_add_right _ 2) (Nat.le_of_eq aB.o.symm))).mono ?_;rintro r aa ⟨pa,ca,c4,c1,Aa,co,rfl,ay,bO,bP,an,bT,bV⟩;have bk:aa.heap[E.heap.size]?=some (.cells #[.pointer none,.int .i64 0,.int .i64 16] TRd (0,0)):=(ay.block _ (zb aX.o)).trans aX.o;have bX:aa.heap[E.heap.size+1]?=some (.cells #[.pointer none,.int .i64 0,.int .i64 K] TRd (0,0)):=(ay.block _ (zb bc.o)).trans bc.o;obtain⟨q0,z0⟩:=zf bk 0 _ rfl;have a7:=za bk;have aY:=za bX;have bo:Hid (Below E.heap.size E aa):=aK.o.trans (ay.mono aK.o.size);have bt:=za (And.intro bO (And.intro bP an));have b1:=za bT;have aS:=za bV;have bd:=za ay.size;clear ay bO bP an bT bV bk bX aL aX bc;generalize ((E.alloc (.cells #[.pointer none,.int .i64 0,.int .i64 16] TRd)).alloc (.cells #[.pointer none,.int .i64 0,.int .i64 K] TRd))=w9 at *
   have aV:Hid (RAt (aa.setCell ⟨E.heap.size,0,none⟩ (.pointer (some ⟨pa,0,none⟩))) E.heap.size pa 0 16):=qo a7.o 0 _;have aZ:Hid ((aa.setCell ⟨E.heap.size,0,none⟩ (.pointer (some ⟨pa,0,none⟩))).heap[E.heap.size+1]?=some (.cells #[.pointer none,.int .i64 0,.int .i64 K] TRd (0,0))):=by
    show _=_;rw [heap_setCell_other _ _ _ _ (by show E.heap.size+1≠E.heap.size;omega)];exact aY.o
   have b7:Hid (zg (fun k=>k=E.heap.size) [TRd] aa (aa.setCell ⟨E.heap.size,0,none⟩ (.pointer (some ⟨pa,0,none⟩)))):=zg.set (O:=fun k=>k=E.heap.size) (T:=[TRd]) (zg.refl _ _ _) (.inl rfl) a7.o (by simp) _;have be:Hid ((aa.setCell ⟨E.heap.size,0,none⟩ (.pointer (some ⟨pa,0,none⟩))).heap.size=aa.heap.size):=by show _=_;simp [World.setCell]
   have aI:Hid (Below E.heap.size E (aa.setCell ⟨E.heap.size,0,none⟩ (.pointer (some ⟨pa,0,none⟩)))):=bo.o.setCell (Nat.le_refl _) _;go_wp2_with fail;generalize aa.setCell ⟨E.heap.size,0,none⟩ (.pointer (some ⟨pa,0,none⟩))=cn at *
   refine(aM.o _ (by have:=be.o;have:=bd.o;have:=aB.o;omega)).mono ?_;rintro r Y ⟨pb,cb,c5,c2,Ab,cp,rfl,aD,bQ,bR,ao,bU,bW⟩;have bl:=(aD.block _ (zb aZ.o)).trans aZ.o;have b3:Hid (RAt Y E.heap.size pa 0 16):=(aD.block _ (zb aV.o)).trans aV.o;obtain⟨q1,z1⟩:=zf bl 0 _ rfl;have a0:=za aD;have a8:=za bl;have bu:=za (And.intro bQ (And.intro bR ao));have b2:=za bU;have aU:=za bW;clear aD bQ bR ao bU bW bl aM q0 z0;have ba:Hid (RAt (Y.setCell ⟨E.heap.size+1,0,none⟩ (.pointer (some ⟨pb,0,none⟩))) (E.heap.size+1) pb 0 K):=qo a8.o 0 _;have b8:Hid (zg (fun k=>k=E.heap.size+1) [TRd] Y (Y.setCell ⟨E.heap.size+1,0,none⟩ (.pointer (some ⟨pb,0,none⟩)))):=zg.set (O:=fun k=>k=E.heap.size+1) (T:=[TRd]) (zg.refl _ _ _) (.inl rfl) a8.o (by simp) _;have aW:Hid (RAt (Y.setCell ⟨E.heap.size+1,0,none⟩ (.pointer (some ⟨pb,0,none⟩))) E.heap.size pa 0 16):=by
    show Y.setCell _ _ |>.heap[E.heap.size]?=_;rw [heap_setCell_other _ _ _ _ (by show E.heap.size≠E.heap.size+1;omega)];exact b3.o
   have b6:Hid ((Y.setCell ⟨E.heap.size+1,0,none⟩ (.pointer (some ⟨pb,0,none⟩))).heap.size=Y.heap.size):=by show _=_;simp [World.setCell]
   have aJ:Hid (Below E.heap.size E (Y.setCell ⟨E.heap.size+1,0,none⟩ (.pointer (some ⟨pb,0,none⟩)))):=(aI.o.trans (a0.o.mono aI.o.size)).setCell (by show E.heap.size≤E.heap.size+1;omega) _;have ya:(Y.setCell ⟨E.heap.size+1,0,none⟩ (.pointer (some ⟨pb,0,none⟩))).cell? ⟨E.heap.size,0,none⟩=some (.pointer (some ⟨pa,0,none⟩)):=(zf aW.o 0 _ rfl).1;have yb:(Y.setCell ⟨E.heap.size+1,0,none⟩ (.pointer (some ⟨pb,0,none⟩))).cell? ⟨E.heap.size+1,0,none⟩=some (.pointer (some ⟨pb,0,none⟩)):=(zf ba.o 0 _ rfl).1;have bs:Hid (LI W (Y.setCell ⟨E.heap.size+1,0,none⟩ (.pointer (some ⟨pb,0,none⟩))) (fun k=>O4 k∨k=w6.heap.size) (fun k=>k=E.heap.size∨(w9.heap.size≤k∧k < aa.heap.size)) (fun k=>k=E.heap.size+1∨(cn.heap.size≤k∧k < Y.heap.size)) E.heap.size (E.heap.size+1) w6.heap.size Q (Q+1) 0 [] 0 key d ⟨[],[],0⟩ 16 K):=by
    have s9:=aB.o;have c6:=bd.o;have c7:=be.o;have c9:=a0.o.size;have cA:=b6.o;have cz:=a4.o;have cB:=aA.o;have b5:=au.o.size;have an:=bt.o;have ao:=bu.o;have T3:=b8.o;have T1:zg (fun k=>k=E.heap.size∨k=E.heap.size+1) [TRd] aa (Y.setCell ⟨E.heap.size+1,0,none⟩ (.pointer (some ⟨pb,0,none⟩))):=(b7.o.mono (fun _ h=> .inl h) (fun _ h=>h)).trans (((zg.of_below a0.o).trans (T3.mono (fun _ h=> .inl h) (fun _ h=>h))).mono (fun _ h=> .inl (.inr h)) (fun _ h=>h));have bL:zej (fun k=>k=E.heap.size∨k=E.heap.size+1) [TRd] aa:=fun k hk=>by
     rcases hk with rfl | rfl
     ·exact⟨_,_,_,a7.o,by simp⟩
     ·exact⟨_,_,_,aY.o,by simp⟩
    have bM:zej (fun k=>k=E.heap.size+1) [TRd] Y:=fun k hk=>by subst hk;exact⟨_,_,_,a8.o,by simp⟩
    have hB:Below w5.heap.size w5 (Y.setCell ⟨E.heap.size+1,0,none⟩ (.pointer (some ⟨pb,0,none⟩))):=av.o.trans (aJ.o.mono av.o.size);have hO:∀ k,(O4 k∨k=w6.heap.size)→W.heap.size≤k∧k < E.heap.size:=fun k hk=>by
     rcases hk with hk | rfl
     ·have:=a5.o k hk;omega
     ·omega
    have bY:=(a9.o.below hB).wide (O':=fun k=>O4 k∨k=w6.heap.size) (fun _ h=> .inl h) (fun k hk=>by have:=hO k hk;omega);obtain⟨ck,ch,sx,cl,aF⟩:=bY.full;refine⟨bY,z2x aW.o (T1.keep b1.o (by decide)) (aS.o.past T1 bL (by decide) (by decide) (by decide) (aS.o.prv.past T1 bL (by decide) (by decide) (by decide))) (fun k hk=>?_) (fun k hk=>?_),z2x ba.o (T3.keep b2.o (by decide)) (aU.o.past T3 bM (by decide) (by decide) (by decide) (aU.o.prv.past T3 bM (by decide) (by decide) (by decide))) (fun k hk=>?_) (fun k hk=>?_),fun k hk ct=>by omega,⟨au.o.trans (hB.mono b5),fun k hk=>by have:=hO k hk;omega,aF.2.2.1,(bw.o.below aJ.o).mono (fun _ h=> .inr h),⟨by rw [aN.o];simp,by rw [aN.o];simp,by simp,by simp,by simp,by simp⟩⟩,rfl,by simp⟩
    ·rcases hk with h | h | h | h | h
     ·have:=an.2.2 k (.inl h);omega
     ·have:=an.2.2 k (.inr (.inl h));omega
     ·have:=an.2.2 k (.inr (.inr h));omega
     ·omega
     ·omega
    ·exact⟨by omega,by omega,fun e=>by have:=hO k e;omega⟩
    ·rcases hk with h | h | h | h | h
     ·have:=ao.2.2 k (.inl h);omega
     ·have:=ao.2.2 k (.inr (.inl h));omega
     ·have:=ao.2.2 k (.inr (.inr h));omega
     ·omega
     ·omega
    ·exact⟨by omega,by omega,fun e=>by have:=hO k e;omega⟩
   go_wp2_with fail;generalize Y.setCell ⟨E.heap.size+1,0,none⟩ (.pointer (some ⟨pb,0,none⟩))=cC at *
   clear ya yb q1 z1;generalize w6.heap.size=nb at *
   generalize E.heap.size=ra at *
   clear aW ba b8 b6 aJ bu b2 aU a0 a8 b3 bt b1 aS aV aZ b7 be aI a7 aY bo bd aB aK a4 cd av ax bw a9 b4 au a2 a1 ar b0 br bz bq a6 a3 cf cg aA a5 aN aP b9 aO;go_loopw [7,16] (fun kv iv wr=>∃(k:Nat) (O Na Nb:Nat→Prop) (es:List (List UInt8)) (S:Nat) (d:Dk) (net:Nt),k≤Z.length∧kv= .bool true∧iv= .int .i64 (k:Int)∧LI W wr O Na Nb ra (ra+1) nb Q (Q+1) k es S key d net 16 K) (fun _ iv _=>Z.length - (intOf iv).toNat)
   case atStart=>exact⟨0,_,_,_,_,_,_,_,Nat.zero_le _,rfl,rfl,bs.o⟩
   case round =>
    obtain⟨k,O,Na,Nb,es,S,d,net,hk,rfl,rfl,bi⟩:=hrel;have HL:=za bi;have aw:=za bi.sh.base;clear bi bs;by_cases aG:k < Z.length
    ·obtain⟨a',cq,he,-,cc⟩:=HS.o;simp only [Value.slice.injEq] at he;obtain⟨rfl,-,rfl⟩:=he;obtain⟨b,al,rfl,hx⟩:∃ b al,sa=some ⟨b,al,none⟩∧∀ i (h:i < Z.length),W.cell? ⟨b,al+i*4,none⟩=some (.int .i64 Z[i].kind)∧W.cell? ⟨b,al+i*4+1,none⟩=some (.int .i64 Z[i].a)∧W.cell? ⟨b,al+i*4+2,none⟩=some (.bool Z[i].two)∧W.cell? ⟨b,al+i*4+3,none⟩=some (txv Z[i].s):=by
      rcases cc with h | h
      ·rw [h] at aG;simp at aG
      ·exact h
     obtain⟨y0,y1,y2,y3⟩:=hx k aG;have ap:=ce.o _ (List.getElem_mem aG);have r0:wr.cell? ⟨b,al+k*4,none⟩=some (.int .i64 Z[k].kind):=by rw [aw.o.cell (p:=⟨b,_,none⟩) (zk y0)];exact y0
     have r1:wr.cell? ⟨b,al+k*4+1,none⟩=some (.int .i64 Z[k].a):=by rw [aw.o.cell (p:=⟨b,_,none⟩) (zk y1)];exact y1
     have r2:wr.cell? ⟨b,al+k*4+2,none⟩=some (.bool Z[k].two):=by rw [aw.o.cell (p:=⟨b,_,none⟩) (zk y2)];exact y2
     have r3:wr.cell? ⟨b,al+k*4+3,none⟩=some (.string ⟨Z[k].s.toArray⟩):=by rw [aw.o.cell (p:=⟨b,_,none⟩) (zk y3)];exact y3
     generalize Z[k]=o at *
     obtain⟨kd,A,two,t⟩:=o;simp only at r0 r1 r2 r3 ap;have am:=za ap;clear hx cc y0 y1 y2 y3 ap;cases two with
     | false =>
      by_cases h2:kd=2
      ·subst h2;have L:Hid (LI W (wr.alloc (.cells #[.int .i64 2,.int .i64 A,.bool false,.string ⟨t.toArray⟩] 44)) O Na Nb ra (ra+1) nb Q (Q+1) k es S key d net 16 K):=HL.o.below (ze _ _);have D:(wr.alloc (.cells #[.int .i64 2,.int .i64 A,.bool false,.string ⟨t.toArray⟩] 44)).heap[wr.heap.size]?=some (.cells #[.int .i64 2,.int .i64 A,.bool false,.string ⟨t.toArray⟩] 44 (0,0)):=heap_alloc_last _ _;obtain⟨o0,-⟩:=zf D 0 _ rfl;obtain⟨o1,-⟩:=zf D 1 _ rfl;obtain⟨o2,-⟩:=zf D 2 _ rfl;obtain⟨o3,-⟩:=zf D 3 _ rfl;clear D HL;have I:=za (zlp O W ac aj.o ak.o Q (Q+1) k es S key d (wr.alloc (.cells #[.int .i64 2,.int .i64 A,.bool false,.string ⟨t.toArray⟩] 44)) L.o.sh.base (by omega) L.o.rp 2 A false t am.o.2.2 (by omega));go_wp2_with fail;refine I.o.mono ?_;rintro r w5 ⟨rfl,J,more,bn,d',ah,ag,ad⟩;have U:=za (L.o.step (by omega) J ah ag ad);clear J ah ag ad I;go_wp2_with fail;go_roundw
       case rel=>exact⟨k+1,_,_,_,_,_,_,_,by omega,rfl,by go_num,U.o⟩
       case measure=>simp [intOf];omega
      have q2:(kd==2)=false:=by simpa using h2
      by_cases h3:kd=3
      ·subst h3;clear q2;have L:Hid (LI W (wr.alloc (.cells #[.int .i64 3,.int .i64 A,.bool false,.string ⟨t.toArray⟩] 44)) O Na Nb ra (ra+1) nb Q (Q+1) k es S key d net 16 K):=HL.o.below (ze _ _);have D:(wr.alloc (.cells #[.int .i64 3,.int .i64 A,.bool false,.string ⟨t.toArray⟩] 44)).heap[wr.heap.size]?=some (.cells #[.int .i64 3,.int .i64 A,.bool false,.string ⟨t.toArray⟩] 44 (0,0)):=heap_alloc_last _ _;obtain⟨o0,-⟩:=zf D 0 _ rfl;obtain⟨o1,-⟩:=zf D 1 _ rfl;obtain⟨o2,-⟩:=zf D 2 _ rfl;obtain⟨o3,-⟩:=zf D 3 _ rfl;clear D HL;have I:=za (zlp O W ac aj.o ak.o Q (Q+1) k es S key d (wr.alloc (.cells #[.int .i64 3,.int .i64 A,.bool false,.string ⟨t.toArray⟩] 44)) L.o.sh.base (by omega) L.o.rp 3 A false t am.o.2.2 (by omega));go_wp2_with fail;refine I.o.mono ?_;rintro r w5 ⟨rfl,J,more,bn,d',ah,ag,ad⟩;have U:=za (L.o.step (by omega) J ah ag ad);clear J ah ag ad I;go_wp2_with fail;go_roundw
       case rel=>exact⟨k+1,_,_,_,_,_,_,_,by omega,rfl,by go_num,U.o⟩
       case measure=>simp [intOf];omega
      have q3:(kd==3)=false:=by simpa using h3
      by_cases h6:kd=6
      ·subst h6;clear q2 q3;have L:Hid (LI W (wr.alloc (.cells #[.int .i64 6,.int .i64 A,.bool false,.string ⟨t.toArray⟩] 44)) O Na Nb ra (ra+1) nb Q (Q+1) k es S key d net 16 K):=HL.o.below (ze _ _);have D:(wr.alloc (.cells #[.int .i64 6,.int .i64 A,.bool false,.string ⟨t.toArray⟩] 44)).heap[wr.heap.size]?=some (.cells #[.int .i64 6,.int .i64 A,.bool false,.string ⟨t.toArray⟩] 44 (0,0)):=heap_alloc_last _ _;obtain⟨o0,-⟩:=zf D 0 _ rfl;obtain⟨o1,-⟩:=zf D 1 _ rfl;obtain⟨o2,-⟩:=zf D 2 _ rfl;obtain⟨o3,-⟩:=zf D 3 _ rfl;clear D HL;have H:=za (L.o);have I:=za (zk9 W ac aj.o ak.o aC.o O Na ra nb Q (Q+1) k es S key d 16 (2*k) net (wr.alloc (.cells #[.int .i64 6,.int .i64 A,.bool false,.string ⟨t.toArray⟩] 44)) (by omega) (by omega) (by omega) H.o.rp H.o.a H.o.sh H.o.nl (by have:=H.o.nf;omega));unfold zo at I;go_wp2_with fail;refine I.o.mono ?_;rintro r w5 ⟨rfl,J,⟨bm,ai,af,ae⟩,V⟩;have U:=za ((H.o.cli J ai af ae V (by omega)));clear J ai af ae V I;go_wp2_with fail;go_roundw
       case rel=>exact⟨k+1,_,_,_,_,_,_,_,by omega,rfl,by go_num,U.o⟩
       case measure=>simp [intOf];omega
      have q6:(kd==6)=false:=by simpa using h6
      by_cases h7:kd=7
      ·subst h7;clear q2 q3 q6;have L:Hid (LI W (wr.alloc (.cells #[.int .i64 7,.int .i64 A,.bool false,.string ⟨t.toArray⟩] 44)) O Na Nb ra (ra+1) nb Q (Q+1) k es S key d net 16 K):=HL.o.below (ze _ _);have D:(wr.alloc (.cells #[.int .i64 7,.int .i64 A,.bool false,.string ⟨t.toArray⟩] 44)).heap[wr.heap.size]?=some (.cells #[.int .i64 7,.int .i64 A,.bool false,.string ⟨t.toArray⟩] 44 (0,0)):=heap_alloc_last _ _;obtain⟨o0,-⟩:=zf D 0 _ rfl;obtain⟨o1,-⟩:=zf D 1 _ rfl;obtain⟨o2,-⟩:=zf D 2 _ rfl;obtain⟨o3,-⟩:=zf D 3 _ rfl;clear D HL;have H:=za (L.o);have I:=za (zp1 W ac aj.o ak.o aC.o O Na ra nb Q (Q+1) k es S key d 16 (2*k) net A (wr.alloc (.cells #[.int .i64 7,.int .i64 A,.bool false,.string ⟨t.toArray⟩] 44)) am.o.1 am.o.2.1 (by omega) (by omega) H.o.rp H.o.a H.o.sh H.o.nl (by have:=H.o.nf;omega));unfold zo at I;go_wp2_with fail;refine I.o.mono ?_;rintro r w5 ⟨rfl,J,⟨bm,ai,af,ae⟩,V⟩;have U:=za ((H.o.cli J ai af ae V (by omega)));clear J ai af ae V I;go_wp2_with fail;go_roundw
       case rel=>exact⟨k+1,_,_,_,_,_,_,_,by omega,rfl,by go_num,U.o⟩
       case measure=>simp [intOf];omega
      have q7:(kd==7)=false:=by simpa using h7
      by_cases h8:kd=8
      ·subst h8;clear q2 q3 q6 q7;have L:Hid (LI W (wr.alloc (.cells #[.int .i64 8,.int .i64 A,.bool false,.string ⟨t.toArray⟩] 44)) O Na Nb ra (ra+1) nb Q (Q+1) k es S key d net 16 K):=HL.o.below (ze _ _);have D:(wr.alloc (.cells #[.int .i64 8,.int .i64 A,.bool false,.string ⟨t.toArray⟩] 44)).heap[wr.heap.size]?=some (.cells #[.int .i64 8,.int .i64 A,.bool false,.string ⟨t.toArray⟩] 44 (0,0)):=heap_alloc_last _ _;obtain⟨o0,-⟩:=zf D 0 _ rfl;obtain⟨o1,-⟩:=zf D 1 _ rfl;obtain⟨o2,-⟩:=zf D 2 _ rfl;obtain⟨o3,-⟩:=zf D 3 _ rfl;clear D HL;have H:=za (L.o);have I:=za (zb0 W O Na ra nb Q (Q+1) k es S key d 16 (2*k) (wr.alloc (.cells #[.int .i64 8,.int .i64 A,.bool false,.string ⟨t.toArray⟩] 44)) (by omega) H.o.rp H.o.a);unfold zo at I;go_wp2_with fail;refine I.o.mono ?_;rintro r w5 ⟨rfl,J,V⟩;have U:=za ((H.o.trust J V));clear J V I;go_wp2_with fail;go_roundw
       case rel=>exact⟨k+1,_,_,_,_,_,_,_,by omega,rfl,by go_num,U.o⟩
       case measure=>simp [intOf];omega
      have q8:(kd==8)=false:=by simpa using h8
      have L:Hid (LI W (wr.alloc (.cells #[.int .i64 kd,.int .i64 A,.bool false,.string ⟨t.toArray⟩] 44)) O Na Nb ra (ra+1) nb Q (Q+1) k es S key d net 16 K):=HL.o.below (ze _ _);have D:(wr.alloc (.cells #[.int .i64 kd,.int .i64 A,.bool false,.string ⟨t.toArray⟩] 44)).heap[wr.heap.size]?=some (.cells #[.int .i64 kd,.int .i64 A,.bool false,.string ⟨t.toArray⟩] 44 (0,0)):=heap_alloc_last _ _;obtain⟨o0,-⟩:=zf D 0 _ rfl;obtain⟨o1,-⟩:=zf D 1 _ rfl;obtain⟨o2,-⟩:=zf D 2 _ rfl;obtain⟨o3,-⟩:=zf D 3 _ rfl;clear D HL;have U:=za L.o.next;go_wp2_with fail;go_roundw
      case rel=>exact⟨k+1,_,_,_,_,_,_,_,by omega,rfl,by go_num,U.o⟩
      case measure=>simp [intOf];omega
     | true =>
      by_cases h2:kd=2
      ·subst h2;have L:Hid (LI W (wr.alloc (.cells #[.int .i64 2,.int .i64 A,.bool true,.string ⟨t.toArray⟩] 44)) O Na Nb ra (ra+1) nb Q (Q+1) k es S key d net 16 K):=HL.o.below (ze _ _);have D:(wr.alloc (.cells #[.int .i64 2,.int .i64 A,.bool true,.string ⟨t.toArray⟩] 44)).heap[wr.heap.size]?=some (.cells #[.int .i64 2,.int .i64 A,.bool true,.string ⟨t.toArray⟩] 44 (0,0)):=heap_alloc_last _ _;obtain⟨o0,-⟩:=zf D 0 _ rfl;obtain⟨o1,-⟩:=zf D 1 _ rfl;obtain⟨o2,-⟩:=zf D 2 _ rfl;obtain⟨o3,-⟩:=zf D 3 _ rfl;clear D HL;have I:=za (zlp O W ac aj.o ak.o Q (Q+1) k es S key d (wr.alloc (.cells #[.int .i64 2,.int .i64 A,.bool true,.string ⟨t.toArray⟩] 44)) L.o.sh.base (by omega) L.o.rp 2 A true t am.o.2.2 (by omega));go_wp2_with fail;refine I.o.mono ?_;rintro r w5 ⟨rfl,J,more,bn,d',ah,ag,ad⟩;have U:=za (L.o.step (by omega) J ah ag ad);clear J ah ag ad I;go_wp2_with fail;go_roundw
       case rel=>exact⟨k+1,_,_,_,_,_,_,_,by omega,rfl,by go_num,U.o⟩
       case measure=>simp [intOf];omega
      have q2:(kd==2)=false:=by simpa using h2
      by_cases h3:kd=3
      ·subst h3;clear q2;have L:Hid (LI W (wr.alloc (.cells #[.int .i64 3,.int .i64 A,.bool true,.string ⟨t.toArray⟩] 44)) O Na Nb ra (ra+1) nb Q (Q+1) k es S key d net 16 K):=HL.o.below (ze _ _);have D:(wr.alloc (.cells #[.int .i64 3,.int .i64 A,.bool true,.string ⟨t.toArray⟩] 44)).heap[wr.heap.size]?=some (.cells #[.int .i64 3,.int .i64 A,.bool true,.string ⟨t.toArray⟩] 44 (0,0)):=heap_alloc_last _ _;obtain⟨o0,-⟩:=zf D 0 _ rfl;obtain⟨o1,-⟩:=zf D 1 _ rfl;obtain⟨o2,-⟩:=zf D 2 _ rfl;obtain⟨o3,-⟩:=zf D 3 _ rfl;clear D HL;have I:=za (zlp O W ac aj.o ak.o Q (Q+1) k es S key d (wr.alloc (.cells #[.int .i64 3,.int .i64 A,.bool true,.string ⟨t.toArray⟩] 44)) L.o.sh.base (by omega) L.o.rp 3 A true t am.o.2.2 (by omega));go_wp2_with fail;refine I.o.mono ?_;rintro r w5 ⟨rfl,J,more,bn,d',ah,ag,ad⟩;have U:=za (L.o.step (by omega) J ah ag ad);clear J ah ag ad I;go_wp2_with fail;go_roundw
       case rel=>exact⟨k+1,_,_,_,_,_,_,_,by omega,rfl,by go_num,U.o⟩
       case measure=>simp [intOf];omega
      have q3:(kd==3)=false:=by simpa using h3
      by_cases h6:kd=6
      ·subst h6;clear q2 q3;have L:Hid (LI W (wr.alloc (.cells #[.int .i64 6,.int .i64 A,.bool true,.string ⟨t.toArray⟩] 44)) O Na Nb ra (ra+1) nb Q (Q+1) k es S key d net 16 K):=HL.o.below (ze _ _);have D:(wr.alloc (.cells #[.int .i64 6,.int .i64 A,.bool true,.string ⟨t.toArray⟩] 44)).heap[wr.heap.size]?=some (.cells #[.int .i64 6,.int .i64 A,.bool true,.string ⟨t.toArray⟩] 44 (0,0)):=heap_alloc_last _ _;obtain⟨o0,-⟩:=zf D 0 _ rfl;obtain⟨o1,-⟩:=zf D 1 _ rfl;obtain⟨o2,-⟩:=zf D 2 _ rfl;obtain⟨o3,-⟩:=zf D 3 _ rfl;clear D HL;have H:=za (L.o.swap);have I:=za (zk9 W ac aj.o ak.o aC.o O Nb (ra+1) nb Q (Q+1) k es S key d K (2*k) net (wr.alloc (.cells #[.int .i64 6,.int .i64 A,.bool true,.string ⟨t.toArray⟩] 44)) (by omega) (by omega) (by omega) H.o.rp H.o.a H.o.sh H.o.nl (by have:=H.o.nf;omega));unfold zo at I;go_wp2_with fail;refine I.o.mono ?_;rintro r w5 ⟨rfl,J,⟨bm,ai,af,ae⟩,V⟩;have U:=za (LI.swap (H.o.cli J ai af ae V (by omega)));clear J ai af ae V I;go_wp2_with fail;go_roundw
       case rel=>exact⟨k+1,_,_,_,_,_,_,_,by omega,rfl,by go_num,U.o⟩
       case measure=>simp [intOf];omega
      have q6:(kd==6)=false:=by simpa using h6
      by_cases h7:kd=7
      ·subst h7;clear q2 q3 q6;have L:Hid (LI W (wr.alloc (.cells #[.int .i64 7,.int .i64 A,.bool true,.string ⟨t.toArray⟩] 44)) O Na Nb ra (ra+1) nb Q (Q+1) k es S key d net 16 K):=HL.o.below (ze _ _);have D:(wr.alloc (.cells #[.int .i64 7,.int .i64 A,.bool true,.string ⟨t.toArray⟩] 44)).heap[wr.heap.size]?=some (.cells #[.int .i64 7,.int .i64 A,.bool true,.string ⟨t.toArray⟩] 44 (0,0)):=heap_alloc_last _ _;obtain⟨o0,-⟩:=zf D 0 _ rfl;obtain⟨o1,-⟩:=zf D 1 _ rfl;obtain⟨o2,-⟩:=zf D 2 _ rfl;obtain⟨o3,-⟩:=zf D 3 _ rfl;clear D HL;have H:=za (L.o.swap);have I:=za (zp1 W ac aj.o ak.o aC.o O Nb (ra+1) nb Q (Q+1) k es S key d K (2*k) net A (wr.alloc (.cells #[.int .i64 7,.int .i64 A,.bool true,.string ⟨t.toArray⟩] 44)) am.o.1 am.o.2.1 (by omega) (by omega) H.o.rp H.o.a H.o.sh H.o.nl (by have:=H.o.nf;omega));unfold zo at I;go_wp2_with fail;refine I.o.mono ?_;rintro r w5 ⟨rfl,J,⟨bm,ai,af,ae⟩,V⟩;have U:=za (LI.swap (H.o.cli J ai af ae V (by omega)));clear J ai af ae V I;go_wp2_with fail;go_roundw
       case rel=>exact⟨k+1,_,_,_,_,_,_,_,by omega,rfl,by go_num,U.o⟩
       case measure=>simp [intOf];omega
      have q7:(kd==7)=false:=by simpa using h7
      by_cases h8:kd=8
      ·subst h8;clear q2 q3 q6 q7;have L:Hid (LI W (wr.alloc (.cells #[.int .i64 8,.int .i64 A,.bool true,.string ⟨t.toArray⟩] 44)) O Na Nb ra (ra+1) nb Q (Q+1) k es S key d net 16 K):=HL.o.below (ze _ _);have D:(wr.alloc (.cells #[.int .i64 8,.int .i64 A,.bool true,.string ⟨t.toArray⟩] 44)).heap[wr.heap.size]?=some (.cells #[.int .i64 8,.int .i64 A,.bool true,.string ⟨t.toArray⟩] 44 (0,0)):=heap_alloc_last _ _;obtain⟨o0,-⟩:=zf D 0 _ rfl;obtain⟨o1,-⟩:=zf D 1 _ rfl;obtain⟨o2,-⟩:=zf D 2 _ rfl;obtain⟨o3,-⟩:=zf D 3 _ rfl;clear D HL;have H:=za (L.o.swap);have I:=za (zb0 W O Nb (ra+1) nb Q (Q+1) k es S key d K (2*k) (wr.alloc (.cells #[.int .i64 8,.int .i64 A,.bool true,.string ⟨t.toArray⟩] 44)) (by omega) H.o.rp H.o.a);unfold zo at I;go_wp2_with fail;refine I.o.mono ?_;rintro r w5 ⟨rfl,J,V⟩;have U:=za (LI.swap (H.o.trust J V));clear J V I;go_wp2_with fail;go_roundw
       case rel=>exact⟨k+1,_,_,_,_,_,_,_,by omega,rfl,by go_num,U.o⟩
       case measure=>simp [intOf];omega
      have q8:(kd==8)=false:=by simpa using h8
      have L:Hid (LI W (wr.alloc (.cells #[.int .i64 kd,.int .i64 A,.bool true,.string ⟨t.toArray⟩] 44)) O Na Nb ra (ra+1) nb Q (Q+1) k es S key d net 16 K):=HL.o.below (ze _ _);have D:(wr.alloc (.cells #[.int .i64 kd,.int .i64 A,.bool true,.string ⟨t.toArray⟩] 44)).heap[wr.heap.size]?=some (.cells #[.int .i64 kd,.int .i64 A,.bool true,.string ⟨t.toArray⟩] 44 (0,0)):=heap_alloc_last _ _;obtain⟨o0,-⟩:=zf D 0 _ rfl;obtain⟨o1,-⟩:=zf D 1 _ rfl;obtain⟨o2,-⟩:=zf D 2 _ rfl;obtain⟨o3,-⟩:=zf D 3 _ rfl;clear D HL;have U:=za L.o.next;go_wp2_with fail;go_roundw
      case rel=>exact⟨k+1,_,_,_,_,_,_,_,by omega,rfl,by go_num,U.o⟩
      case measure=>simp [intOf];omega
    ·go_wp2_with fail;go_ret;exact⟨rfl,aw.o⟩
end Go.Proofs.YtndkblnpbjffhaaGreatDoor
