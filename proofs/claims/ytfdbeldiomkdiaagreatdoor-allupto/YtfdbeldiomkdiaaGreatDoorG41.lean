import Derived.Test.YtfdbeldiomkdiaaGreatDoorG40
set_option maxHeartbeats 8000000
set_option maxRecDepth 100000
set_option linter.all false
namespace Go.Proofs.YtfdbeldiomkdiaaGreatDoor
open Go.RowKit Go.Proofs.Tryz
variable {A G N O OP:Nat->Prop}{B cb db ec g nb nm pb pm rb:Nat}{T T':List Nat}{W W0 w w' w3 w5:World}{c':Cl}{d:Dk}{ea:Option Addr}{l:zb}{n':Nt}{nn:Bool}
def zk8 (c k:Int)(n:Nat)(e:k=(n:Int))(w:World)(b:-9223372036854775808<=c)(d:c<=9223372036854775807)(f:0<n)(a:n<=1000000):
  Calls prog 53 #[.int .i64 c,.int .i64 k] w λr g=>(∃m:Nat,m<n/\r=.returned (.int .i64 m))/\g=w:=by
 subst e;exact N9 c n w b d f a
def zis {a:za}(h:w.ownsRow B 9 1 (.slice ea a.length ec) a.length (a.map qy))(h0:0<a.length):∃g,ea=some ⟨g,0,none⟩:=by
 rcases h.2 with ⟨d,f⟩|⟨g,b,c,e,-⟩
 ·omega
 ·simp only[jk]at e;exact⟨g,e.1⟩
def znq {c:za}(h:w.ownsRow B 9 1 (.slice (some ⟨g,0,none⟩) c.length ec) c.length (c.map qy))(q:Nat)(d:q<c.length):w.cell? ⟨g,q,none⟩=some (qy (c.getD q [])):=by
 obtain⟨a,i,e,l,h|⟨b,k,f,j⟩⟩:=Dg h
 ·rw[h]at d;simp at d
 ·simp only[jk]at e;obtain⟨rfl,-,-⟩:=e;simp only[zn,Ce]at f;obtain⟨rfl,rfl,-⟩:=f;have:=j q d;rw[xk]at this;rw[this];simp[zj,d]
def zhk (h:nn=true->l=[]):nn=false\/(nn=true/\l=[]):=by
 cases nn with
 |false=>exact .inl rfl
 |true=>exact .inr ⟨rfl,h rfl⟩
def RC.past {i:za}{j:Fs}{g:Nat}{d:zb}{a:Int}{t:Nat}(h:RC W0 w O rb nb i j g d a t N)(b:zl G T w w')(e:IU G T' w)(y:MeN∉T')(z:FC∉T')(B:Bd∉T')(C:MeP∉T')(D:Gu∉T')(E:KN∉T')(F:TPc∉T')(H:5∉T):RC W0 w' O rb nb i j g d a t N:=by
 obtain⟨J,n,K,I,A,m,c,o,p,l,q,r,s,u,v,x⟩:=h.rest;exact⟨⟨J,n,K,I,A,m,c,b.same e o (E6 E),b.same e p (E6 F),l.past b e y z B (l.aV.past b e C D H),q,r,s,u,v,x⟩,λk f=>⟨(h.own k f).1,zq (h.own k f).2.1 b.size,(h.own k f).2.2⟩⟩
def WT {tb b:Nat}{P:(Nat->Prop)->Prop}{s:za}{H:Nat}{o:zb}{f:Int}{t:Nat}(g:CR W w3 w5 O A OP cb nb db pm nm d c' n' P)(z:J3 w3 pb cb)(Q:∀k,A k\/OP k\/k=cb\/k=pb\/k=rb->qv N w w3 k)(i:∀k,qv N w w3 k->W.heap.size<=k/\k<w3.heap.size/\¬O k)(R:∀k,O k->k<w3.heap.size)(S:W.heap.size<=w3.heap.size)
 (v:CI s c' t) (n:Bb d.fs s c'.size) (x:c'.size<=H) (c:c'.key=o) (l:c'.room=f) (B:S1 w3 rb pb (b:Int) f) (C:c'.size=b) (V:zl (λk=>O k\/N k) rdT w w3) (D:FH tb w3) (U:w.heap.size<=tb/\tb<w3.heap.size) (T:W.heap.size<=w.heap.size) (u:∀k,O k->k<w.heap.size) :
  S1 w5 rb pb (b:Int) f/\FH tb w5/\∀X,zl (λk=>k=tb) [39] w5 X->S1 X rb pb (b:Int) f/\zl (λk=>O k\/N k) rdT w X/\Sh W X O nb db d n'/\RC W X O rb nb s d.fs H o f t (qv N w X):=by
 have a:=g.aj.keep B (by decide);have j:=g.aj.keep D (by decide);refine⟨a,j,λX m=>?_⟩;obtain⟨J,K,L⟩:=LK g z Q i R S v n x c l a (zl.refl _ _ w5) (by rw[C];exact a);have s1:=m.size;have s2:=g.aj.size;have y:IU (λk=>k=tb) [39] w5:=λk c=>by subst c;exact⟨_,_,_,j,by simp⟩
 refine⟨m.keep a (by decide),?_,K.past m (λk c=>by subst c;omega) (by decide) (by decide) (by decide) (by decide) (by decide),?_⟩
 ·refine zl.apart (V.trans (J.mono (λk c=>?_) (λ_ h=>h))) m (λk c=>by subst c;exact U.1);rcases c with h|h|h
  ·exact .inl (.inl h)
  ·exact .inl (.inr h)
  ·exact .inr h
 ·have M:=L.past m y (by decide) (by decide) (by decide) (by decide) (by decide) (by decide) (by decide) (by decide);obtain⟨F,r,G,E,I,p,q,Y,Z,q3,q4,q5,q6,q7,q8,q9⟩:=M.rest;refine⟨⟨F,r,G,E,I,p,q,Y,Z,q3,q4,q5,q6,q7,q8,λk c=>?_⟩,λk c=>?_⟩
  ·rcases q9 k c with (h|h)|h
   ·exact .inl h
   ·exact .inr ⟨h.1,by omega⟩
   ·exact .inr ⟨by omega,by omega⟩
  ·rcases c with h|h
   ·have:=i k (.inl h);exact⟨this.1,by omega,this.2.2⟩
   ·exact⟨by omega,h.2,λe=>by have:=u k e;omega⟩
def zd0 (W:World)(a4:Nat->Addr)(hE:DW W)(hS:vj W a4)(b6:F0 W)(O N:Nat->Prop)(F U wb db n:Nat)(l:za)(an:Nat)(ae:zb)(d:Dk)(u:Int)(t:Nat)(al:Nt)(i:Int)(w:World)(ca:-9223372036854775808<=i)(cc:i<=9223372036854775807)(hn:n<=4100)(ht:t<=1000000)(hP:RP W.heap.size w O wb db n l an ae d)(hC:RC W w O F U l d.fs an ae u t N)(a5:Sh W w O U db d al)(ch:al.ao=[])(hf:al.ai+80000<4611686018427387904):
  Calls prog 51 #[yu F,yu wb,yu U,.int .i64 i] w λr w'=>r=.returned (.bool true)/\zl (λk=>O k\/N k) rdT w w'/\(∃g,Sh W w' O U db d g/\g.ao=[]/\g.ai<=al.ai+40000)/\RC W w' O F U l d.fs an ae u (t+2) (qv N w w'):=by
 obtain⟨lv,ea,ec,cp,hd,bt,bj,bm,ax,b7,bO,cA,-⟩:=hP.facts hn;obtain⟨pb,cb,pm,nm,A,OP,c,a7,cj,ck,bM,bi,cf,hk,aR,hN⟩:=hC.rest;have b9:l.length<4^21:=qw bm (by decide);have aL:=bM.le;have bE:=ze (zk8 i ((c.size:Int)+3) (c.size+3) (by omega) w ca cc (by omega) (by omega));have a1:=ze a5;have aY:=ze ck;have HC:=ze hC;have aH:=ze ch;have Y:Hid (∀k,O k->k<w.heap.size):=λk hk=>(a5.own k hk).2;have HW:Hid (W.heap.size<=w.heap.size):=a5.base.size;have bI:=ze cp;have aZ:=ze a7;have Z:=ze cj;have aB:=ze bM;have s:=ze bi;have aG:=ze cf;have H:=ze (And.intro hk aR);have HN:=ze hN;have am:=ze bt;have aA:=ze ax;have a8:=ze bj;have aF:=ze bm;have aE:=ze b9;have HE:=ze hE;have HS:=ze hS;have a2:=ze b6;obtain⟨r0,-⟩:=zm a7 0 _ rfl;obtain⟨r1,-⟩:=zm a7 1 _ rfl;clear hP hC cp a7 cj ck bM bi cf hk aR hN bt ax b7 cA bj hd bO ch a5 b9 hE hS b6 ca cc;unfold yu at r0 ⊢;go_enter func51,ntmps51;go_wp2_with fail;refine bE.o.mono ?_;rintro r w0 ⟨⟨m,hm,rfl⟩,co⟩;obtain rfl:w=w0:=co.symm;clear co;go_wp2_with fail;generalize hj:(m:Int)-1=j at *
 by_cases au:j<0\/(c.size:Int)<=j
 ·have ab:=ze (zdb W a4 O A OP cb U db pm nm d c al j pb w HS.o aY.o a1.o Z.o (by omega) au);unfold yu at ab;refine ab.o.mono ?_;rintro r f ⟨v,x,rfl,hx⟩;obtain⟨xa,xc,he⟩:=qt hx;subst he;have L:=ze v;have B:S1 f F pb (c.size:Int) u:=v.aj.keep aZ.o (by decide);have z:=ze B;have b1:∀o,(f.alloc o).cell? ⟨F,1,none⟩=some (.int .i64 (c.size:Int)):=λo=>by have h:=(zm B 1 _ rfl).1;rw[xg _ _ ⟨F,1,none⟩ (yf h)];exact h
  have P:Hid (∀X,zc f X->zl (λk=>O k\/N k) rdT w X/\(∃g,Sh W X O U db d g/\g.ao=[]/\g.ai<=al.ai+40000)/\RC W X O F U l d.fs an ae u (t+2) (qv N w X)):=λX hb=>by
   obtain⟨g1,g2,g3⟩:=LK L.o Z.o HN.o HC.o.own Y.o HW.o (aB.o.later (show t<=t+2 by omega)) s.o aG.o H.o.1 H.o.2 z.o (zl.aa hb) ((zl.aa (O:=O) (T:=[]) hb).keep z.o (by simp));exact⟨g1,⟨al,g2,aH.o,by omega⟩,g3⟩
  have t0:∀o,(f.alloc (.cells #[.int .i64 2,.string ⟨#[]⟩] 39)).heap[f.heap.size]?=o->(f.alloc (.cells #[.int .i64 2,.string ⟨#[]⟩] 39)).cell? ⟨f.heap.size,0,none⟩=some (.int .i64 2):=λ_ _=>(zm (zf _ _) 0 _ rfl).1;have cW:=t0 _ rfl;have G:Hid (zc f (f.alloc (.cells #[.int .i64 2,.string ⟨#[]⟩] 39))):=zi _ _;clear v hx B ab t0 r0 r1 bE;unfold qy GA
  by_cases cO:j<0
  ·have bN:decide (j<0)=true:=by simp;omega
   clear au
   go_wp2
   go_ret;obtain⟨g1,g2,g3⟩:=P.o _ G.o;exact⟨rfl,g1,g2,g3⟩
  ·have bN:decide (j<0)=false:=by simp;omega
   have cQ:(c.size:Int)<=j:=by omega
   have b8:decide ((c.size:Int)<=j)=true:=by simp;omega
   clear au
   go_wp2
   go_ret;obtain⟨g1,g2,g3⟩:=P.o _ G.o;exact⟨rfl,g1,g2,g3⟩
 ·obtain⟨q,rfl⟩:=qc (show 0<=j by omega);have hq:q<c.size:=by omega
  have cH:q<l.length:=by omega
  obtain⟨c1,n1,c2,n2,e1,e2,⟨cq,cr,cs⟩,⟨ct,cu,cv⟩,bk,bl,cd,ce,⟨f1,f2⟩,⟨f3,f4⟩,av,aM⟩:=zfr (n:=al) Oq (Ot l aE.o) aA.o aE.o s.o aH.o aB.o hq;have ab:=ze (Rm W a4 O A OP cb U db pm nm d c al q pb w HE.o HS.o a2.o aY.o a1.o Z.o (by omega) aB.o (by omega) aA.o aE.o s.o aH.o hq e1);have bw:=ze e2;have aC:=ze bk;have aD:=ze bl;have HL:=ze (And.intro cd ce);have HF:=ze (And.intro (And.intro f1 f2) (And.intro f3 f4));have bF:=ze (And.intro av aM);have bA:=ze (And.intro cq (And.intro cr cs));have V:=ze (And.intro ct (And.intro cu cv));obtain⟨eg,he⟩:=zis am.o (by omega);subst he;clear e1 e2 bk bl cd ce f1 f2 f3 f4 av aM cq cr cs ct cu cv hj bE r0 r1;unfold yu at ab;refine ab.o.mono ?_;rintro r f ⟨v,nn,x,hr,aN,hx⟩;have cJ:r=.returned (.tuple #[qy (l.getD q []),.bool nn,x,.agg #[.int .i64 0,.string ⟨#[]⟩]]):=hr;have bS:f.ownsRow w.heap.size 9 1 x (Ey l c.size q).length ((Ey l c.size q).map AL):=hx;have bo:nn=true->l.getD q []=[]:=aN;have E:CR W w f O A OP cb U db pm nm d c1 n1 (λ_=>True):=v;subst cJ;have L:=ze E;have HX:=ze bS;have bX:=ze bo;obtain⟨xa,xc,he⟩:=qt bS;subst he;have B:S1 f F pb (c.size:Int) u:=E.aj.keep aZ.o (by decide);have aV:KO f wb db lv (.slice (some ⟨eg,0,none⟩) l.length ec) {key:=ae,ar:=(an:Int),failed:=false,aw:=false}:=E.aj.keep bI.o (by decide);have z:=ze B;have aq:=ze aV;have I:=ze (zy am.o E.aj (by decide));have b1:∀o,(f.alloc o).cell? ⟨F,1,none⟩=some (.int .i64 (c.size:Int)):=λo=>by have h:=(zm B 1 _ rfl).1;rw[xg _ _ ⟨F,1,none⟩ (yf h)];exact h
  have b3:∀o,(f.alloc o).cell? ⟨wb,3,none⟩=some (.slice (some ⟨eg,0,none⟩) l.length ec):=λo=>by have h:=(zm aV 3 _ rfl).1;rw[xg _ _ ⟨wb,3,none⟩ (yf h)];exact h
  have G:Hid (zc f (f.alloc (.cells #[.int .i64 0,.string ⟨#[]⟩] 39))):=zi _ _;have bH:Hid (FH f.heap.size (f.alloc (.cells #[.int .i64 0,.string ⟨#[]⟩] 39))):=zf _ _;have bG:Hid (w.heap.size<=f.heap.size):=E.aj.size;have z1:=b1 (.cells #[.int .i64 0,.string ⟨#[]⟩] 39);have z3:=b3 (.cells #[.int .i64 0,.string ⟨#[]⟩] 39);clear v hx hr aN B aV ab bS bo E b1 b3 au;have bN:decide ((q:Int)<0)=false:=by simp
  have b8:decide ((c.size:Int)<=(q:Int))=false:=by simp;omega
  have cB:¬(c.size:Int)<=(q:Int):=by omega
  have aW:Hid (∀X:World,X.ownsRow 0 9 1 (.slice (some ⟨eg,0,none⟩) l.length ec) l.length (l.map qy)->X.cell? ⟨eg,q,none⟩=some (qy (l.getD q []))):=λX h=>znq h q cH;have bD:Hid (C1 (l.take c.size).length (l.take c.size) q=Ey l c.size q):=by
   show _=_;rw[ET aL];exact WC l c.size q c.size aL (by have:=aF.o;omega) hq (zk _)
  have aX:Hid ((Ey l c.size q).length<=64):=Tn _ _ _;generalize l.getD q []=e0 at *;generalize Ey l c.size q=ps at *;have ad:=ze (zy I.o (zl.aa (O:=O) (T:=[]) G.o) (by simp));have bY:Hid (∀X,Below (f.alloc (.cells #[.int .i64 0,.string ⟨#[]⟩] 39)).heap.size (f.alloc (.cells #[.int .i64 0,.string ⟨#[]⟩] 39)) X->Calls prog 21 #[.slice (some ⟨eg,0,none⟩) c.size ec,.int .i64 (q:Int)] X λr w'=>∃x,r=.returned x/\zc X w'/\P7 X w' x ps):=λX hb=>by
   have h:=St (.slice (some ⟨eg,0,none⟩) c.size ec) (l.take c.size) q X (by have:=ET aL;have:=aF.o;omega) (λe he=>aA.o e (qa he)) (by rw[ET aL];exact hq) (La.take (Dg (zy ad.o (zl.aa (O:=O) (T:=[]) hb) (by simp))) c.size aL);rw[bD.o]at h;exact h
  have cP:(c.size:Int)<=(ec:Int):=by have:=a8.o;omega
  unfold qy;go_wp2_with fail;generalize cK:(f.alloc (.cells #[.int .i64 0,.string ⟨#[]⟩] 39))=w2 at *;have bV:Hid (zc w2 w2.drew):=(zu _ _).drew;have bW:Hid (∀X,Below w2.drew.heap.size w2.drew X->X.cell? ⟨wb,3,none⟩=some (.slice (some ⟨eg,0,none⟩) l.length ec)/\X.cell? ⟨F,1,none⟩=some (.int .i64 (c.size:Int))):=λX hb=>⟨by rw[hb.cell (p:=⟨wb,3,none⟩) (yf z3)];exact z3,by rw[hb.cell (p:=⟨F,1,none⟩) (yf z1)];exact z1⟩
  clear cK;have cC:decide (c.size<=q)=false:=by simp;omega
  rw[cC];go_cut [13] from 61 to 71 (λbU wx=>∃ya yc,bU=.slice ya ps.length yc/\zc w2 wx/\wx.ownsRow 0 9 1 (.slice ya ps.length yc) ps.length (ps.map AL))
  case first =>
   clear bN b8 cB
   go_region_held3 (λX=>X.cell? ⟨wb,3,none⟩=some (.slice (some ⟨eg,0,none⟩) l.length ec)/\X.cell? ⟨F,1,none⟩=some (.int .i64 (c.size:Int))) (go_keep) (first|(go_at_call 21;refine(bY.o _ bV.o).mono ?_;rintro r w4 ⟨xx,rfl,bK,bR⟩;obtain⟨p3,p1⟩:=bW.o w4 bK;obtain⟨ya,yc,he⟩:=qt bR;subst he;have cy:=ze bK;have cz:=ze bR;clear bK bR))
   all_goals go_wp2_with fail
   all_goals go_meet
   all_goals exact⟨ya,yc,rfl,A6 cy.o,G5 cz.o (yk _)⟩
  case rest =>
   obtain⟨ya,yc,rfl,bL,ci⟩:=hcut;have ay:=ze bL;have a3:=ze ci;have b2:Hid (wc.ownsRow w.heap.size 9 1 (.slice xa ps.length xc) ps.length (ps.map AL)):=zy (zy HX.o (zl.aa (O:=O) (T:=[]) G.o) (by simp)) (zl.aa (O:=O) (T:=[]) bL) (by simp);have bZ:=ze (MO _ _ ps w.heap.size 0 wc (by have:=aX.o;omega) b2.o a3.o);clear bL ci z1 z3 bW bY bV;go_wp2_with fail;refine bZ.o.mono ?_;rintro r C ⟨rfl,a6⟩;have D:zc f C:=G.o.trans ((ay.o.trans (a6.mono ay.o.size)).mono G.o.size);have y:=ze D;have aO:S1 C F pb (c.size:Int) u:=(zl.aa (O:=O) (T:=[]) D).keep z.o (by simp);have bu:=(zl.aa (O:=O) (T:=[]) D).keep aq.o (by simp);have J:=ze (zy I.o (zl.aa (O:=O) (T:=[]) D) (by simp));have Q:Hid (FH f.heap.size C):=bH.o.below (ay.o.trans (a6.mono ay.o.size));have aK:=ze (yx a3.o a6);have aS:Sh W C O U db d n1:=L.o.sh.below D;have ap:=ze aS;obtain⟨cU,cY,-,cg,-⟩:=aS.al;have y3:C.cell? ⟨wb,3,none⟩=some (.slice (some ⟨eg,0,none⟩) l.length ec):=(zm bu 3 _ rfl).1;have yq:C.cell? ⟨eg,q,none⟩=some (qy e0):=aW.o C J.o;have yt:C.cell? ⟨f.heap.size,0,none⟩=some (.int .i64 0):=(zm Q.o 0 _ rfl).1;have yn:C.cell? ⟨U,3,none⟩=some (.int .i64 n1.ai):=(zm cg 3 _ rfl).1;have yr:C.cell? ⟨F,0,none⟩=some (.pointer (some ⟨pb,0,none⟩)):=(zm aO 0 _ rfl).1;have ag:=ze aO;clear a6 D aO bu aS cg bZ b2;unfold qy at yq;have cR:(q:Int)<(l.length:Int):=by omega
   obtain⟨A1,bJ,b4,b5,bq,-⟩:=L.o.rest;have af:Hid (J3 C pb cb):=(zl.aa (O:=O) (T:=[]) y.o).keep (L.o.aj.keep Z.o (by decide)) (by simp);have R:=bA.o;have aP:S1 C F pb (c1.size:Int) u:=by rw[R.2.1];exact ag.o
   obtain⟨g1,g2,g3⟩:=LK L.o Z.o HN.o HC.o.own Y.o HW.o aC.o (by rw[R.2.1];exact s.o) (by rw[R.2.1];exact aG.o) (R.1.trans H.o.1) (R.2.2.trans H.o.2) z.o (zl.aa y.o) aP;have bx:=ze g1;have bz:=ze g3;have cl:q<c1.size:=by rw[R.2.1];exact hq
   have bP:=HF.o;have bU:=y.o.size;have cw:=bG.o;have bd:=ze (Rm W a4 O A1 bJ cb U db pm nm d c1 n1 q pb C HE.o HS.o a2.o (bq.below y.o) ap.o af.o (by omega) aC.o (by omega) aA.o aE.o (by rw[R.2.1];exact s.o) HL.o.1 cl bw.o);have ak:Hid (Calls prog 100 #[yu pb,.int .i64 (q:Int)] C λr w'=>CR W C w' O A1 bJ cb U db pm nm d c2 n2 (λ_=>True)/\∃nn x,r=.returned (.tuple #[qy e0,.bool nn,x,.agg #[.int .i64 0,.string ⟨#[]⟩]])/\(nn=true->e0=[])/\w'.ownsRow C.heap.size 9 1 x ps.length (ps.map AL)):=bd.o;have bQ:0<=n1.ai/\n1.ai<4611686018427387904/\n1.ai<=n2.ai/\n2.ai<=n1.ai+17000:=⟨ap.o.st.fe,by omega,bP.2.1,bP.2.2⟩;obtain⟨bQ,cE,cF,cG⟩:=bQ;have bB:Hid (∀k,A1 k\/bJ k\/k=cb\/k=pb\/k=F->qv N w C k):=λk hk=>by
    rcases hk with h|h|h|h|h
    ·rcases b4.2 k h with h|h
     ·exact .inl (HN.o k (.inl h))
     ·exact .inr ⟨h.1,by omega⟩
    ·rcases b5.2 k h with h|h
     ·exact .inl (HN.o k (.inr (.inl h)))
     ·exact .inr ⟨h.1,by omega⟩
    ·exact .inl (HN.o k (.inr (.inr (.inl h))))
    ·exact .inl (HN.o k (.inr (.inr (.inr (.inl h)))))
    ·exact .inl (HN.o k (.inr (.inr (.inr (.inr h)))))
   have bC:Hid (∀k,O k->k<C.heap.size):=λk hk=>by have:=Y.o k hk;omega
   have a0:Hid (w.heap.size<=f.heap.size/\f.heap.size<C.heap.size):=⟨cw,zg Q.o⟩;have aN:nn=false\/(nn=true/\e0=[]):=by
    cases nn with
    |false=>exact .inl rfl
    |true=>exact .inr ⟨rfl,bX.o rfl⟩
   clear b4 b5 bq aP g1 g2 g3 R cl bP bU cw bX aC bd;unfold yu at ak;have ba:=ze aN;clear aN
   go_upto_region 7 with fail
   go_cut [99] from 75 to 98 (λcL wx=>cL=.bool false/\C=wx)
   case first =>
    clear ak aY HC L bx bz bB a1 ap HE HS a2 a3 aK HX aZ z ag bI aq am I ad J Z af aW bF HF HL bA V aB aD s aG H HN bC a0 bG HW Y bH Q y G ay bw bD aX aH;rcases ba.o with rfl|⟨rfl,rfl⟩
    all_goals go_wp2_with fail
    all_goals go_meet
    all_goals exact⟨rfl,rfl⟩
   case rest =>
    obtain⟨rfl,rfl⟩:=hcut;go_wp2_with fail;refine ak.o.mono ?_;rintro r w5 ⟨v,cV,x2,rfl,bp,bT⟩;obtain⟨cZ,c0,cD⟩:=qt bT;have P:=ze (WT v af.o bB.o bz.o.own bC.o (zt HW.o (by have:=a0.o;omega)) aD.o (by rw[V.o.2.1];exact s.o) (by rw[V.o.2.1];exact aG.o) (V.o.1.trans H.o.1) (V.o.2.2.trans H.o.2) ag.o V.o.2.1 bx.o Q.o a0.o HW.o Y.o);obtain⟨cm,S,hX⟩:=P.o;have az:=Ih S (.int .i64 0) (.string ⟨#[]⟩);obtain⟨br,cn,aU,bs⟩:=hX _ az;have bf:=ze (MO x2 (.slice ya ps.length yc) ps C.heap.size 0 ((w5.setCell ⟨f.heap.size,0,none⟩ (.int .i64 0)).setCell ⟨f.heap.size,1,none⟩ (.string ⟨#[]⟩)) (by have:=aX.o;omega) (zy bT az (by decide)) (zy (zy aK.o v.aj (by decide)) az (by decide)));have aJ:=ze (zy (zy J.o v.aj (by decide)) az (by decide));have bh:Hid (KO ((w5.setCell ⟨f.heap.size,0,none⟩ (.int .i64 0)).setCell ⟨f.heap.size,1,none⟩ (.string ⟨#[]⟩)) wb db lv (.slice (some ⟨eg,0,none⟩) l.length ec) {key:=ae,ar:=(an:Int),failed:=false,aw:=false}):=az.keep (v.aj.keep ((zl.aa (O:=O) (T:=[]) y.o).keep aq.o (by simp)) (by decide)) (by decide);have bg:Hid (((w5.setCell ⟨f.heap.size,0,none⟩ (.int .i64 0)).setCell ⟨f.heap.size,1,none⟩ (.string ⟨#[]⟩)).heap[f.heap.size]?=some (.cells #[.int .i64 0,.string ⟨#[]⟩] 39 (0,0))):=BH S 0 [] rfl;obtain⟨cS,cX,-,bn,-⟩:=aU.al;have cM:((w5.setCell ⟨f.heap.size,0,none⟩ (.int .i64 0)).setCell ⟨f.heap.size,1,none⟩ (.string ⟨#[]⟩)).cell? ⟨U,3,none⟩=some (.int .i64 n2.ai):=(zm bn 3 _ rfl).1;obtain⟨u0,v0⟩:=zm S 0 _ rfl;obtain⟨u1,v1⟩:=zm S 1 _ rfl;have bb:=ze br;have b0:=ze cn;have be:=ze aU;have bc:=ze bs;have a9:=ze (zhk bp);subst cD;clear bT v bp cm S hX az br cn aU bs bn P ak HE HS a2 a1 aY HC bI aZ Z aB s aG HN am aA aE z aq I G bH HX ad bD ay a3 Q ap ag af bx bz bB bC bw aD bA V aK J y L y3 yq yt yn yr;unfold qy;go_wp2_with fail;refine bf.o.mono ?_;rintro r w7 ⟨rfl,K⟩;have aQ:=(zl.aa (O:=O) (T:=[]) K).keep bb.o (by simp);have c3:w7.cell? ⟨wb,3,none⟩=some (.slice (some ⟨eg,0,none⟩) l.length ec):=(zm ((zl.aa (O:=O) (T:=[]) K).keep bh.o (by simp)) 3 _ rfl).1;have cN:=aW.o w7 (zy aJ.o (zl.aa (O:=O) (T:=[]) K) (by simp));have c6:w7.cell? ⟨f.heap.size,0,none⟩=some (.int .i64 0):=(zm ((zl.aa (O:=O) (T:=[]) K).keep bg.o (by simp)) 0 _ rfl).1;have c4:w7.cell? ⟨F,1,none⟩=some (.int .i64 (c.size:Int)):=(zm aQ 1 _ rfl).1;have c5:w7.cell? ⟨F,2,none⟩=some (.int .i64 u):=(zm aQ 2 _ rfl).1;have M:Hid (zl (λk=>O k\/N k) rdT w w7/\(∃g,Sh W w7 O U db d g/\g.ao=[]/\g.ai<=al.ai+40000)/\RC W w7 O F U l d.fs an ae u (t+2) (qv N w w7)):=⟨b0.o.ah K,⟨n2,be.o.below K,HL.o.2,by have:=HF.o;omega⟩,(bc.o.below K).ext K.size Y.o HW.o⟩;have aI:Hid ((16<=u->c.size<=256->n2.ai-n1.ai=0)/\(u<=0\/u=1/\2<=c.size->0<n2.ai-n1.ai)):=by
     have h:=bF.o;rw[H.o.2]at h;exact⟨λa b=>by have:=h.1 a b;omega,λa=>by have:=h.2 a;omega⟩
    unfold qy at cN;clear K aQ bf;generalize n2.ai-n1.ai=mo at *;clear b0 be bc bb bh aJ bg aW HF HL bF H aH Y HW a8 aF bG a0 aX cM u0 v0 u1 v1 bQ cE cF cG
    go_upto_region 13 with fail
    go_cut [148] from 124 to 147 (λcx wx=>cx=.bool false/\w7=wx)
    case first =>
     clear M aI;rcases a9.o with rfl|⟨rfl,rfl⟩
     all_goals go_wp2_with fail
     all_goals go_meet
     all_goals exact⟨rfl,rfl⟩
    case rest =>
     obtain⟨rfl,rfl⟩:=hcut;go_wp2_with fail
     all_goals go_ret
     all_goals
      refine⟨?_,M.o.1,M.o.2.1,M.o.2.2⟩;have cI:=aI.o
      first
       |rfl
       |(show Ending.returned (Value.bool _)=_;congr 2;simp;omega)
       |(exfalso;clear M aI a9 cI ba;simp_all)
variable {O':Nat->Prop}{d':Dk}{net':Nt}{pub':Nat}
section
def De.mono {n:Nt}(h:De w O nb db n)(d:∀k,O k->O' k):De w O' nb db n:=by
 obtain⟨q,tv,i,j,l,⟨a,b,e,c⟩,m⟩:=h;refine⟨q,tv,d _ i,j,l,⟨a,b,e,?_⟩,m⟩;rcases c with c|⟨g,f,o,p⟩
 ·exact .inl c
 ·exact .inr ⟨g,f,d _ o,p⟩
structure LI (W w:World)(O Na Nb:Nat->Prop)(ra rb nb wb db k:Nat)(es:za)(an:Nat)(key:zb)(d:Dk)(al:Nt)(ca cb:Int):Prop where
 rp:RP W.heap.size w O wb db k es an key d
 a:RC W w O ra nb es d.fs an key ca (2*k) Na
 b:RC W w O rb nb es d.fs an key cb (2*k) Nb
 ab:∀x,Na x->¬Nb x
 sh:Sh W w O nb db d al
 nl:al.ao=[]
 nf:al.ai<=80000*(k:Int)
section
variable {W w w':World}{O Na Nb:Nat -> Prop}{ra rb nb wb db k:Nat}{es:za}{an:Nat}{key:zb}{d:Dk}{al:Nt}{ca cb:Int}
def LI.swap (h:LI W w O Na Nb ra rb nb wb db k es an key d al ca cb):LI W w O Nb Na rb ra nb wb db k es an key d al cb ca:=
 ⟨h.rp,h.b,h.a,λx e c=>h.ab x c e,h.sh,h.nl,h.nf⟩
def LI.below (h:LI W w O Na Nb ra rb nb wb db k es an key d al ca cb)(c:zc w w'):LI W w' O Na Nb ra rb nb wb db k es an key d al ca cb:=
 ⟨h.rp.below c,h.a.below c,h.b.below c,h.ab,h.sh.below c,h.nl,h.nf⟩
def LI.next (h:LI W w O Na Nb ra rb nb wb db k es an key d al ca cb):LI W w O Na Nb ra rb nb wb db (k+1) es an key d al ca cb:=
 ⟨h.rp.later (Ar k),h.a.later (by omega),h.b.later (by omega),h.ab,h.sh,h.nl,by have:=h.nf;omega⟩
def LI.step (h:LI W w O Na Nb ra rb nb wb db k es an key d al ca cb)(u:k<=4100)(l:zl O aT w w'){c:za}(m:RP W.heap.size w' (qv O w w') wb db (k+1) (es++c) pub' key d')(o:an<=pub')(n:∀s,s<=es.length->Bb d.fs es s->Bb d'.fs es s):LI W w' (qv O w w') Na Nb ra rb nb wb db (k+1) (es++c) pub' key d' al ca cb:=by
 have p:∀x,Na x->¬qv O w w' x:=λx g e=>by
  have:=h.a.own x g;rcases e with e|e
  ·exact this.2.2 e
  ·omega
 have q:∀x,Nb x->¬qv O w w' x:=λx g e=>by
  have:=h.b.own x g;rcases e with e|e
  ·exact this.2.2 e
  ·omega
 obtain⟨v,t,s,r,j⟩:=m.full;have i:=j.2.2.2.1;refine⟨m,(((h.a.other l (λx g=>(h.a.own x g).2.2) (by decide)).grow p).more c o n).later (by omega),(((h.b.other l (λx g=>(h.b.own x g).2.2) (by decide)).grow q).more c o n).later (by omega),h.ab,⟨h.sh.base.trans (l.below (λx g=>(h.sh.own x g).1) h.sh.base.size),λx g=>m.own x g,j.2.2.1,(h.sh.al.aj l (by decide) (by decide) (by decide)).mono (λ_ h=>.inl h),⟨by have:=i.count;omega,λf j=>by have:=i.data f j;omega,h.sh.st.ly,h.sh.st.ll,h.sh.st.fe,h.sh.st.td⟩⟩,h.nl,by have:=h.nf;omega⟩
def LI.aC (h:LI W w O Na Nb ra rb nb wb db k es an key d al ca cb)(i:zl (λx=>O x\/Na x) rdT w w')(m:Sh W w' O nb db d net')(l:net'.ao=[])(n:net'.ai<=al.ai+40000){t:Nat}(c:RC W w' O ra nb es d.fs an key ca t (qv Na w w'))(f:t<=2*(k+1)):LI W w' O (qv Na w w') Nb ra rb nb wb db (k+1) es an key d net' ca cb:=by
 have j:∀x,Nb x->¬(O x\/Na x):=λx a e=>by
  rcases e with e|e
  ·exact(h.b.own x a).2.2 e
  ·exact h.ab x e a
 refine⟨(h.rp.stay i (by decide) (by decide) (by decide) (by decide) (by decide) (by decide) (by decide) (by decide)).later (Ar k),c.later f,(h.b.other i j (by decide)).later (by omega),λx a g=>?_,m,l,by have:=h.nf;omega⟩;rcases a with a|a
 ·exact h.ab x a g
 ·have:=h.b.own x g;omega
def LI.cd (h:LI W w O Na Nb ra rb nb wb db k es an key d al ca cb)(f:zl Na [Bd] w w')(c:RC W w' O ra nb es d.fs an key ca (2*k) Na):LI W w' O Na Nb ra rb nb wb db (k+1) es an key d al ca cb:=by
 refine⟨(h.rp.stay f (by decide) (by decide) (by decide) (by decide) (by decide) (by decide) (by decide) (by decide)).later (Ar k),c.later (by omega),(h.b.other f (λx g e=>h.ab x e g) (by decide)).later (by omega),h.ab,h.sh.past f (λx g=>(h.a.own x g).1) (by decide) (by decide) (by decide) (by decide) (by decide),h.nl,by have:=h.nf;omega⟩
end
def zij {key:zb}{a:Int}{f:Fs}(e:S1 w rb pb 0 a)(c:J3 w pb cb)(d:Pv W w O A OP cb nb pm nm ⟨key,0,j7 0 [],a,[]⟩)(g:∀k,A k\/OP k\/k=cb\/k=pb\/k=rb->N k)(b:∀k,N k->W.heap.size<=k/\k<w.heap.size/\¬O k):RC W w O rb nb [] f 0 key a 0 N:=
 ⟨⟨pb,cb,pm,nm,A,OP,⟨key,0,j7 0 [],a,[]⟩,e,c,d,Uf [] key a,Pf _ _,zk _,rfl,rfl,g⟩,b⟩
def WN (f:World)(c:Nat->Addr)(cb:Nat)(C:Array Value)(key:zb)(G:Nat)(w:World)(M:DW f)(F:vj f c)(B:zc f w)(j:f.heap.size<=cb)(D:key.length<=9223372036854775807)(L:w.heap[cb]?=some (.cells C Bd (0,0)))(h0:C[0]?=some (.int .i32 0))(J:C[2]?=some .nilIface)(K:C[3]?=some (qy key))(N:J3 w G cb):
  Calls prog 48 #[yu G] w λr w'=>∃x,r=.returned (.tuple #[x,.agg #[.int .i64 3,.string ⟨#[]⟩]])/\zl (λb=>b=cb) [Bd] w w':=by
 have g:zc w (w.alloc IG):=zi _ _;have p:=ze g;have E:=ze (Zu f c cb C key (w.alloc IG) M F (B.trans (g.mono B.size)) j D (zr L) h0 J K);have s:Hid (FH w.heap.size (w.alloc IG)):=zf _ _;have I:=(zm (zr (o:=IG) N) 0 _ rfl).1;have H:=ze F;have d:=ze B;have q:=ze j;unfold yu at I E ⊢;go_enter func48,ntmps48;go_wp2_with fail;generalize w.alloc IG=R at *;refine E.o.mono ?_;rintro r P ⟨l,rfl⟩;have y:=ze ((zl.aa p.o).trans (l.mono (λ_ h=>.inl h) (λ_ h=>h)));have t:=ze (s.o.aj l (by decide));have A:=ze (MQ 0 (.slice none 0 0) [] P (by simp) (by simp) ⟨rfl,.inl ⟨rfl,rfl⟩⟩);go_wp2_with fail;refine A.o.mono ?_;rintro r Q ⟨x,rfl,m,O⟩;have e:=ze (y.o.apart m (λk n=>by simp[Value.ownBlock]at n));have u:=ze (t.o.aj m (by decide));go_wp2_with fail;refine(YB c Q (jn H.o (d.o.trans (e.o.below (λk n=>by subst n;exact q.o) d.o.size))) _ (3,[]) (.inr (.inr ⟨rfl,rfl⟩))).mono ?_;rintro r U ⟨rfl,i⟩;have z:=ze (e.o.ah i);have a:=ze (u.o.below i);obtain⟨S,V⟩:=zm a.o 0 _ rfl;obtain⟨T,W⟩:=zm a.o 1 _ rfl;unfold GA;go_wp2_with fail;refine zv (v:=.tuple #[x,.agg #[.int .i64 3,.string ⟨([]:zb).toArray⟩]]) (vo results48 _ _ w.heap.size 39 _ (0,0) _ rfl (BH a.o _ _ rfl) underlying39 rfl (by kernel_rfl) _ rfl) rfl ?_;exact⟨x,rfl,z.o.apart (Ih a.o _ _) (λk n=>by omega)⟩
end
def LIx (W w:World)(c l e k:Nat)(b:zb)(a:Int):Prop:=∃O f g j i d h,LI W w O f g c (c+1) l e (e+1) k j i b d h 16 a
def zdj (W:World)(ai:Nat->Addr)(hE:DW W)(bP:vj W ai)(bN:RW W)(bQ:F0 W)(g:zb)(c:Int)(sv:Value)(S:List OpR)(cm:g.length<=9223372036854775807)
 (am:∀o∈S,-9223372036854775808<=o.a/\o.a<=9223372036854775807/\o.s.length<=9223372036854775807) (hs:Oss W sv S) :
  Calls prog 12 #[.string ⟨g.toArray⟩,.int .i64 c,sv] W λr F=>r=.returned (.bool true)/\zc W F:=by
 have HS:=ze hs;have aw:=ze hE;have aJ:=ze bP;have bE:=ze bN;clear bN;have bK:=ze bQ;have b7:=ze am;obtain⟨sa,b6,rfl,co,-⟩:=hs;clear hE bP am bQ;go_enter func12,ntmps12;go_wp2_with fail;refine(OW _ [] sa S.length b6 W (by simp) ⟨none,0,rfl,zk _,.inl rfl⟩).mono ?_;rintro r w1 ⟨bR,bb,rfl,bU⟩;have ao:=ze bR;have bD:=ze bU;clear bR bU;cases bb with
 |false =>
  go_wp2
  go_ret;exact⟨rfl,ao.o⟩
 |true =>
  obtain⟨-,cn,-⟩:=bD.o rfl;clear bD
  by_cases cl:1048576<g.length
  ·have bY:(1048576:Int)<(g.length:Int):=by omega
   go_wp2
   go_ret;exact⟨rfl,ao.o⟩
  ·have bY:¬(1048576:Int)<(g.length:Int):=by omega
   have bw:=ze (zc5 g c w1);unfold qy at bw;go_wp2_with fail;refine bw.o.mono ?_;rintro r w2 ⟨lp,lc,cv,cr,rfl,bS,bZ,b9,bl,be⟩;have ap:Hid (zc W w2):=ao.o.trans (bS.mono ao.o.size);have Z:=ze bl;have V:=ze be;have bt:Hid (W.heap.size<=lc):=zt ao.o.size bZ;have bz:=ze (Mj (.slice none 0 0) [] g w2 (by simp) ⟨none,0,rfl,zk _,.inl rfl⟩);clear bS bl be bZ b9 bw;unfold qy at bz;unfold yu;go_wp2_with fail;refine bz.o.mono ?_;rintro r w3 ⟨rfl,aY,af,bV⟩;have aS:Hid (zc W w3):=ap.o.trans (aY.mono ap.o.size);have bX:=VQ (by omega) af bV;have bO:∀k,(w2.heap.size<=k/\k<w3.heap.size)->W.heap.size<=k/\k<w3.heap.size:=λk q=>⟨zt ap.o.size q.1,q.2⟩
   have bI:=ze (zjg (λk=>w2.heap.size<=k/\k<w3.heap.size) W ai aw.o aJ.o bE.o w2.heap.size (w2.heap.size+1) _ _ _ _ [] 0 w3 bO aS.o (by omega) ⟨zk _,zg af⟩ bX rfl);have a4:Hid (J3 w3 lp lc):=(aY.block _ (zg Z.o)).trans Z.o;have a2:=ze ((aY.block _ (zg V.o)).trans V.o);have bu:Hid (lp<w2.heap.size/\lc<w2.heap.size):=⟨zg Z.o,zg V.o⟩;have bd:Hid (w2.heap.size<w3.heap.size):=zg af;clear aY af bV bX bO bz;go_wp2_with fail;refine bI.o.mono ?_;rintro r w4 ⟨rfl,a1,aO,cp,cj,d,bW,bq,aM⟩;have aU:Hid (zc W w4):=aS.o.trans (a1.below (λk q=>zt ap.o.size q.1) aS.o.size);have a8:Hid (RP W.heap.size w4 (qv (λk=>w2.heap.size<=k/\k<w3.heap.size) w3 w4) w2.heap.size (w2.heap.size+1) 0 [] 0 g d):=ziu (.inl ⟨zk _,bd.o⟩) aO bW bq aM;have a5:Hid (J3 w4 lp lc):=a1.stay a4.o (λh=>by have:=bu.o;omega);have a3:=ze (a1.stay a2.o (λh=>by have:=bu.o;omega));have ax:Hid (d.fs=[]):=aM;generalize w2.heap.size=w at *;clear a1 aO bW bq aM bI;have HU:=ze (WN W ai lc _ g lp w4 aw.o aJ.o aU.o bt.o (by omega) a3.o rfl rfl rfl a5.o);unfold yu at HU;go_wp2_with fail;refine HU.o.mono ?_;rintro r B ⟨x5,rfl,m⟩;have aq:Hid (zc W B):=aU.o.trans (m.below (λk q=>by subst q;exact bt.o) aU.o.size);have ab:=ze (a8.o.stay m (by decide) (by decide) (by decide) (by decide) (by decide) (by decide) (by decide) (by decide));have av:Hid (zc B (B.alloc (.cells #[.int .i64 3,.string ⟨#[]⟩] 39))):=zi _ _;have ad:Hid (B.heap.size<=(B.alloc (.cells #[.int .i64 3,.string ⟨#[]⟩] 39)).heap.size):=av.o.size;have aW:Hid (∀k,qv (λk=>w<=k/\k<w3.heap.size) w3 w4 k->W.heap.size<=k/\k<B.heap.size):=ab.o.own;obtain⟨cc,b8,sx,b4,aZ⟩:=(ab.o.below av.o).full;have k0:(B.alloc (.cells #[.int .i64 3,.string ⟨#[]⟩] 39)).cell? ⟨w,0,none⟩=some (.pointer (some ⟨w+1,0,none⟩)):=(zm aZ.2.1 0 _ rfl).1;have bx:=ze (LJ (w+1) (B.alloc (.cells #[.int .i64 3,.string ⟨#[]⟩] 39)));have t0:(B.alloc (.cells #[.int .i64 3,.string ⟨#[]⟩] 39)).cell? ⟨B.heap.size,0,none⟩=some (.int .i64 3):=(zm (zf _ _) 0 _ rfl).1;clear m aZ HU;unfold BD at bx;generalize qv (λk=>w<=k/\k<w3.heap.size) w3 w4=O4 at *;go_wp2_with fail;refine bx.o.mono ?_;rintro r f ⟨rfl,bT,P⟩;generalize B.alloc (.cells #[.int .i64 3,.string ⟨#[]⟩] 39)=w6 at *;have aA:=ze P;have C:Hid (zc B f):=av.o.trans (bT.mono av.o.size);have Y:Hid (w6.heap.size<f.heap.size):=by obtain⟨lv,tv,-,hn,-⟩:=P;exact zg hn
   clear bT P bx k0 t0;have s7:∀o,(f.alloc o).heap.size=f.heap.size+1:=λo=>by simp
   have br:Hid (∀X:World,f.heap.size<=X.heap.size->Calls prog 46 #[yu w6.heap.size,qy g,.int .i64 16] X λr F=>∃(v cb pm nm:Nat) (A OP:Nat->Prop),r=.returned (yu v)/\zc X F/\X.heap.size<=v/\v<F.heap.size/\(∀k,A k\/OP k\/k=cb->X.heap.size<=k/\k<v)/\J3 F v cb/\Pv W F (λk=>O4 k\/k=w6.heap.size) A OP cb w6.heap.size pm nm ⟨g,0,j7 0 [],16,[]⟩):=λX hX=>O8 W _ w6.heap.size g 16 X (by have:=aq.o.size;have:=C.o.size;omega) (λb hb=>by
    have:=Y.o;have:=ad.o;rcases hb with hb|rfl
    ·have:=aW.o b hb;omega
    ·omega)
   unfold yu qy at br;have bs:Hid (∀X:World,f.heap.size<=X.heap.size->Calls prog 46 #[yu w6.heap.size,qy g,.int .i64 c] X λr F=>∃(v cb pm nm:Nat) (A OP:Nat->Prop),r=.returned (yu v)/\zc X F/\X.heap.size<=v/\v<F.heap.size/\(∀k,A k\/OP k\/k=cb->X.heap.size<=k/\k<v)/\J3 F v cb/\Pv W F (λk=>O4 k\/k=w6.heap.size) A OP cb w6.heap.size pm nm ⟨g,0,j7 0 [],c,[]⟩):=λX hX=>O8 W _ w6.heap.size g c X (by have:=aq.o.size;have:=C.o.size;omega) (λb hb=>by
    have:=Y.o;have:=ad.o;rcases hb with hb|rfl
    ·have:=aW.o b hb;omega
    ·omega)
   unfold yu qy at bs;have aF:Hid (((f.alloc (.cells #[.pointer none,.int .i64 0,.int .i64 16] KN)).alloc (.cells #[.pointer none,.int .i64 0,.int .i64 c] KN)).heap[f.heap.size]?=some (.cells #[.pointer none,.int .i64 0,.int .i64 16] KN (0,0))):=zr (zf _ _);have aG:Hid (((f.alloc (.cells #[.pointer none,.int .i64 0,.int .i64 16] KN)).alloc (.cells #[.pointer none,.int .i64 0,.int .i64 c] KN)).heap[f.heap.size+1]?=some (.cells #[.pointer none,.int .i64 0,.int .i64 c] KN (0,0))):=by
    have h:((f.alloc (.cells #[.pointer none,.int .i64 0,.int .i64 16] KN)).alloc (.cells #[.pointer none,.int .i64 0,.int .i64 c] KN)).heap[(f.alloc (.cells #[.pointer none,.int .i64 0,.int .i64 16] KN)).heap.size]?=some (.cells #[.pointer none,.int .i64 0,.int .i64 c] KN (0,0)):=zf _ _;rw[s7]at h;exact h
   have au:Hid (zc f ((f.alloc (.cells #[.pointer none,.int .i64 0,.int .i64 16] KN)).alloc (.cells #[.pointer none,.int .i64 0,.int .i64 c] KN))):=(zi f _).trans ((zi _ _).mono (by simp));have aX:Hid (((f.alloc (.cells #[.pointer none,.int .i64 0,.int .i64 16] KN)).alloc (.cells #[.pointer none,.int .i64 0,.int .i64 c] KN)).heap.size=f.heap.size+2):=by show _=_;simp
   clear s7;unfold yu;go_wp2_with fail;refine(br.o _ (zt (Nat.le_add_right _ 2) (vx aX.o.symm))).mono ?_;rintro r n ⟨pa,ca,cw,cs,Aa,ch,rfl,D,bh,bi,aj,bm,bo⟩;have Q:n.heap[f.heap.size]?=some (.cells #[.pointer none,.int .i64 0,.int .i64 16] KN (0,0)):=(D.block _ (zg aF.o)).trans aF.o;have aP:n.heap[f.heap.size+1]?=some (.cells #[.pointer none,.int .i64 0,.int .i64 c] KN (0,0)):=(D.block _ (zg aG.o)).trans aG.o;obtain⟨q0,z0⟩:=zm Q 0 _ rfl;have y:=ze Q;have L:=ze aP;have ar:Hid (zc f n):=au.o.trans (D.mono au.o.size);have bG:=ze (And.intro bh (And.intro bi aj));have a6:=ze bm;have aB:=ze bo;have aH:=ze D.size;clear D bh bi aj bm bo Q aP br aF aG;generalize ((f.alloc (.cells #[.pointer none,.int .i64 0,.int .i64 16] KN)).alloc (.cells #[.pointer none,.int .i64 0,.int .i64 c] KN))=w9 at *;have J:Hid (S1 (n.setCell ⟨f.heap.size,0,none⟩ (.pointer (some ⟨pa,0,none⟩))) f.heap.size pa 0 16):=Aw y.o 0 _;have M:Hid ((n.setCell ⟨f.heap.size,0,none⟩ (.pointer (some ⟨pa,0,none⟩))).heap[f.heap.size+1]?=some (.cells #[.pointer none,.int .i64 0,.int .i64 c] KN (0,0))):=by
    show _=_;rw[yh _ _ _ _ (by show f.heap.size+1≠f.heap.size;omega)];exact L.o
   have ba:Hid (zl (λk=>k=f.heap.size) [KN] n (n.setCell ⟨f.heap.size,0,none⟩ (.pointer (some ⟨pa,0,none⟩)))):=zl.set (O:=λk=>k=f.heap.size) (T:=[KN]) (zl.refl _ _ _) (.inl rfl) y.o (by simp) _;have aI:Hid ((n.setCell ⟨f.heap.size,0,none⟩ (.pointer (some ⟨pa,0,none⟩))).heap.size=n.heap.size):=by show _=_;simp[World.setCell]
   have H:Hid (zc f (n.setCell ⟨f.heap.size,0,none⟩ (.pointer (some ⟨pa,0,none⟩)))):=ar.o.setCell (zk _) _;go_wp2_with fail;generalize n.setCell ⟨f.heap.size,0,none⟩ (.pointer (some ⟨pa,0,none⟩))=ce at *;refine(bs.o _ (by have:=aI.o;have:=aH.o;have:=aX.o;omega)).mono ?_;rintro r l ⟨v,cb,cx,ct,Ab,ci,rfl,ae,bj,bk,ak,bn,bp⟩;have R:=(ae.block _ (zg M.o)).trans M.o;have aE:Hid (S1 l f.heap.size pa 0 16):=(ae.block _ (zg J.o)).trans J.o;obtain⟨q1,z1⟩:=zm R 0 _ rfl;have U:=ze ae;have z:=ze R;have bH:=ze (And.intro bj (And.intro bk ak));have a7:=ze bn;have aD:=ze bp;clear ae bj bk ak bn bp R bs q0 z0;have N:Hid (S1 (l.setCell ⟨f.heap.size+1,0,none⟩ (.pointer (some ⟨v,0,none⟩))) (f.heap.size+1) v 0 c):=Aw z.o 0 _;have bc:Hid (zl (λk=>k=f.heap.size+1) [KN] l (l.setCell ⟨f.heap.size+1,0,none⟩ (.pointer (some ⟨v,0,none⟩)))):=zl.set (O:=λk=>k=f.heap.size+1) (T:=[KN]) (zl.refl _ _ _) (.inl rfl) z.o (by simp) _;have K:Hid (S1 (l.setCell ⟨f.heap.size+1,0,none⟩ (.pointer (some ⟨v,0,none⟩))) f.heap.size pa 0 16):=by
    show l.setCell _ _ |>.heap[f.heap.size]?=_
    rw[yh _ _ _ _ (by show f.heap.size≠f.heap.size+1;omega)];exact aE.o
   have a9:Hid ((l.setCell ⟨f.heap.size+1,0,none⟩ (.pointer (some ⟨v,0,none⟩))).heap.size=l.heap.size):=by show _=_;simp[World.setCell]
   have I:Hid (zc f (l.setCell ⟨f.heap.size+1,0,none⟩ (.pointer (some ⟨v,0,none⟩)))):=(H.o.trans (U.o.mono H.o.size)).setCell (by show f.heap.size<=f.heap.size+1;omega) _;have ya:(l.setCell ⟨f.heap.size+1,0,none⟩ (.pointer (some ⟨v,0,none⟩))).cell? ⟨f.heap.size,0,none⟩=some (.pointer (some ⟨pa,0,none⟩)):=(zm K.o 0 _ rfl).1;have yb:(l.setCell ⟨f.heap.size+1,0,none⟩ (.pointer (some ⟨v,0,none⟩))).cell? ⟨f.heap.size+1,0,none⟩=some (.pointer (some ⟨v,0,none⟩)):=(zm N.o 0 _ rfl).1;have bF:Hid (LI W (l.setCell ⟨f.heap.size+1,0,none⟩ (.pointer (some ⟨v,0,none⟩))) (λk=>O4 k\/k=w6.heap.size) (λk=>k=f.heap.size\/(w9.heap.size<=k/\k<n.heap.size)) (λk=>k=f.heap.size+1\/(ce.heap.size<=k/\k<l.heap.size)) f.heap.size (f.heap.size+1) w6.heap.size w (w+1) 0 [] 0 g d ⟨[],[],0⟩ 16 c):=by
    have s9:=aX.o;have cy:=aH.o;have cz:=aI.o;have cA:=U.o.size;have cB:=a9.o;have cq:=Y.o;have cC:=ad.o;have b5:=aq.o.size;have aj:=bG.o;have ak:=bH.o;have T3:=bc.o;have T1:zl (λk=>k=f.heap.size\/k=f.heap.size+1) [KN] n (l.setCell ⟨f.heap.size+1,0,none⟩ (.pointer (some ⟨v,0,none⟩))):=(ba.o.mono (λ_ h=>.inl h) (λ_ h=>h)).trans (((zl.aa U.o).trans (T3.mono (λ_ h=>.inl h) (λ_ h=>h))).mono (λ_ h=>.inl (.inr h)) (λ_ h=>h));have bf:IU (λk=>k=f.heap.size\/k=f.heap.size+1) [KN] n:=λk q=>by
     rcases q with rfl|rfl
     ·exact⟨_,_,_,y.o,by simp⟩
     ·exact⟨_,_,_,L.o,by simp⟩
    have bg:IU (λk=>k=f.heap.size+1) [KN] l:=λk q=>by subst q;exact⟨_,_,_,z.o,by simp⟩
    have hB:zc B (l.setCell ⟨f.heap.size+1,0,none⟩ (.pointer (some ⟨v,0,none⟩))):=C.o.trans (I.o.mono C.o.size);have hO:∀k,(O4 k\/k=w6.heap.size)->W.heap.size<=k/\k<f.heap.size:=λk q=>by
     rcases q with q|rfl
     ·have:=aW.o k q;omega
     ·omega
    have b2:=(ab.o.below hB).wide (O':=λk=>O4 k\/k=w6.heap.size) (λ_ h=>.inl h) (λk q=>by have:=hO k q;omega);obtain⟨cc,b8,sx,b4,aZ⟩:=b2.full;refine⟨b2,zij K.o (T1.keep a6.o (by decide)) (aB.o.past T1 bf (by decide) (by decide) (by decide) (aB.o.aV.past T1 bf (by decide) (by decide) (by decide))) (λk q=>?_) (λk q=>?_),zij N.o (T3.keep a7.o (by decide)) (aD.o.past T3 bg (by decide) (by decide) (by decide) (aD.o.aV.past T3 bg (by decide) (by decide) (by decide))) (λk q=>?_) (λk q=>?_),λk q ck=>by omega,⟨aq.o.trans (hB.mono b5),λk q=>by have:=hO k q;omega,aZ.2.2.1,(aA.o.below I.o).mono (λ_ h=>.inr h),⟨by rw[ax.o];simp,by rw[ax.o];simp,by simp,by simp,by simp,by simp⟩⟩,rfl,by simp⟩
    ·rcases q with h|h|h|h|h
     ·have:=aj.2.2 k (.inl h);omega
     ·have:=aj.2.2 k (.inr (.inl h));omega
     ·have:=aj.2.2 k (.inr (.inr h));omega
     ·omega
     ·omega
    ·exact⟨by omega,by omega,λe=>by have:=hO k e;omega⟩
    ·rcases q with h|h|h|h|h
     ·have:=ak.2.2 k (.inl h);omega
     ·have:=ak.2.2 k (.inr (.inl h));omega
     ·have:=ak.2.2 k (.inr (.inr h));omega
     ·omega
     ·omega
    ·exact⟨by omega,by omega,λe=>by have:=hO k e;omega⟩
   go_wp2_with fail;generalize l.setCell ⟨f.heap.size+1,0,none⟩ (.pointer (some ⟨v,0,none⟩))=cD at *;clear ya yb q1 z1;generalize w6.heap.size=nb at *;generalize f.heap.size=ra at *;clear K N bc a9 I bH a7 aD U z aE bG a6 aB J M ba aI H y L ar aH aX au Y C av aA ab a8 aq aU aS ap a5 a3 a4 a2 Z V ad aW ax bu bd bt;go_loopw [7,16] (λkv iv wr=>∃(k:Nat) (O Na Nb:Nat->Prop) (es:za) (an:Nat) (d:Dk) (al:Nt),k<=S.length/\kv=.bool true/\iv=.int .i64 (k:Int)/\LI W wr O Na Nb ra (ra+1) nb w (w+1) k es an g d al 16 c) (λ_ iv _=>S.length-(intOf iv).toNat)
   case atStart=>exact⟨0,_,_,_,_,_,_,_,yk _,rfl,rfl,bF.o⟩
   case round =>
    obtain⟨k,O,Na,Nb,es,an,d,al,q,rfl,rfl,bB⟩:=hrel;have HL:=ze bB;have bC:=ze bB.sh.base;clear bB bF
    by_cases a0:k<S.length
    ·obtain⟨a',cf,he,-,b3⟩:=HS.o;simp only[jk]at he;obtain⟨rfl,-,rfl⟩:=he;obtain⟨b,cu,rfl,hx⟩:=b3.resolve_left (λh=>by rw[h]at a0;simp at a0);have am:=b7.o _ (ye a0);have kp:∀{o x},W.cell? ⟨b,o,none⟩=some x->wr.cell? ⟨b,o,none⟩=some x:=λh=>(bC.o.cell (p:=⟨b,_,none⟩) (yf h)).trans h;obtain⟨r0,r1,r2,r3⟩:=hx k a0
     replace r0:=kp r0
     replace r1:=kp r1
     replace r2:=kp r2
     replace r3:=kp r3
     generalize S[k]=o at *;obtain⟨G,A,aR,t⟩:=o;unfold qy at r3;simp only at r0 r1 r2 r3 am;have ay:=ze am;clear hx b3 am kp;have ah:=ze (HL.o.below (zi wr (.cells #[.int .i64 G,.int .i64 A,.bool aR,.string ⟨t.toArray⟩] 65)));have aK:(wr.alloc (.cells #[.int .i64 G,.int .i64 A,.bool aR,.string ⟨t.toArray⟩] 65)).heap[wr.heap.size]?=some (.cells #[.int .i64 G,.int .i64 A,.bool aR,.string ⟨t.toArray⟩] 65):=zf _ _;obtain⟨o0,-⟩:=zm aK 0 _ rfl;obtain⟨o1,-⟩:=zm aK 1 _ rfl;obtain⟨o2,-⟩:=zm aK 2 _ rfl;obtain⟨o3,-⟩:=zm aK 3 _ rfl;clear aK HL;have bJ:=ze (λh:G=2\/G=3=>zlr O W ai aw.o aJ.o bE.o w (w+1) k es an g d _ ah.o.sh.base (by omega) ah.o.rp G A aR t ay.o.2.2 (by omega));cases aR
     case' false =>
      have j:=ah;have BK:Hid (∀{F O' N1 N2 bA ag d' E},LI W F O' N1 N2 ra (ra+1) nb w (w+1) (k+1) bA ag g d' E 16 c->LIx W F ra nb w (k+1) g c):=λh=>⟨_,_,_,_,_,_,_,h⟩
     case' true =>
      have j:=ze ah.o.swap;have BK:Hid (∀{F O' N1 N2 bA ag d' E},LI W F O' N1 N2 (ra+1) ra nb w (w+1) (k+1) bA ag g d' E c 16->LIx W F ra nb w (k+1) g c):=λh=>⟨_,_,_,_,_,_,_,h.swap⟩
     all_goals
      by_cases bL:G=2\/G=3
      case' pos =>
       have i:=ze (bJ.o bL);rcases bL with rfl|rfl
       all_goals
        go_wp2_with fail;refine i.o.mono ?_;rintro r B ⟨rfl,m,cg,ag,d',b1,b0,bM⟩;have az:Hid (LIx W B ra nb w (k+1) g c):=⟨_,_,_,_,_,_,_,ah.o.step (by omega) m b1 b0 bM⟩;clear m b1 b0 bM i
      case' neg =>
       have q2:(G==2)=false:=by simp;omega
       have q3:(G==3)=false:=by simp;omega
       by_cases h6:G=6
       case' pos =>
        subst h6;clear q2 q3;have i:=ze (Xi W ai aw.o aJ.o bK.o O _ _ nb w (w+1) k es an g d _ (2*k) al _ (by omega) (by omega) (by omega) j.o.rp j.o.a j.o.sh j.o.nl (by have:=j.o.nf;omega));unfold yu at i;go_wp2_with fail;refine i.o.mono ?_;rintro r B ⟨rfl,m,⟨E,aQ,aN,aL⟩,u⟩;have az:=ze (BK.out (j.o.aC m aQ aN aL u (by omega)));clear i;clear m aQ aN aL u
       case' neg =>
        have q6:(G==6)=false:=by simpa using h6
        by_cases h7:G=7
        case' pos =>
         subst h7;clear q2 q3 q6;have i:=ze (zd0 W ai aw.o aJ.o bK.o O _ _ nb w (w+1) k es an g d _ (2*k) al A _ ay.o.1 ay.o.2.1 (by omega) (by omega) j.o.rp j.o.a j.o.sh j.o.nl (by have:=j.o.nf;omega));unfold yu at i;go_wp2_with fail;refine i.o.mono ?_;rintro r B ⟨rfl,m,⟨E,aQ,aN,aL⟩,u⟩;have az:=ze (BK.out (j.o.aC m aQ aN aL u (by omega)));clear i;clear m aQ aN aL u
        case' neg =>
         have q7:(G==7)=false:=by simpa using h7
         by_cases h8:G=8
         case' pos =>
          subst h8;clear q2 q3 q6 q7;have i:=ze (Py W O _ _ nb w (w+1) k es an g d _ (2*k) _ (by omega) j.o.rp j.o.a);unfold yu at i;go_wp2_with fail;refine i.o.mono ?_;rintro r B ⟨rfl,m,u⟩;have az:=ze (BK.out (j.o.cd m u));clear i;clear m u
         case' neg =>
          have q8:(G==8)=false:=by simpa using h8
          have az:=ze (BK.out j.o.next)
      all_goals
       clear j BK ah bJ
       go_wp2
       go_roundw
       case rel=>obtain⟨_,_,_,_,_,_,_,h⟩:=az.o;exact⟨k+1,_,_,_,_,_,_,_,by omega,rfl,by go_num,h⟩
       case measure=>simp[intOf];omega
    ·go_wp2
     go_ret;exact⟨rfl,bC.o⟩
end Go.Proofs.YtfdbeldiomkdiaaGreatDoor
