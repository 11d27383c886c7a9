import Derived.Test.YtfdbeldiomkdiaaGreatDoorG37
set_option maxHeartbeats 8000000
set_option maxRecDepth 100000
set_option linter.all false
namespace Go.Proofs.YtfdbeldiomkdiaaGreatDoor
open Go.RowKit Go.Proofs.Tryz
variable {C:Array Value}{c:Cl}{cb nb nm pm:Nat}{r rr:zb}{v:Value}{w:World}
section
attribute [local go_sem ↓] j9 jx ve jy ju jt vd jw Et D8
def zbw {x:Option (zb)}(h:JY w v x):(convert 94 9 v).run prog w=.ok (.string ⟨(x.getD []).toArray⟩) w:=by
 rcases h with ⟨d,rfl,a⟩|⟨rfl,rfl⟩
 ·exact a.conv
 ·kernel_rfl
def Vz (t c:zb)(h:t.length<=1048576)(g:c.length<=9223372036854775807)(w:World)(E:DW w):
  Calls prog 84 #[.string ⟨t.toArray⟩,.string ⟨c.toArray⟩] w λr f=>zc w f/\∃n a b,a.length=8/\n<9223372036854775808/\r=.returned (.tuple #[.agg (BN n a).toArray,.bool b])/\((b=true/\vq t c n a)\/(b=false/\∀n a,¬vq t c n a)):=by
 refine(Oa t c h g w E).mono ?_;rintro r f ⟨e,⟨n,i,j,k,l,m,o,p,q,d,rfl⟩|⟨d,rfl⟩⟩
 ·exact⟨e,n,_,true,rfl,by have:=d.1;omega,rfl,.inl ⟨rfl,d⟩⟩
 ·exact⟨e,0,BE,false,rfl,by omega,rfl,.inr ⟨rfl,d⟩⟩
def zeo {σ:Type}{d:σ->zb->(zb×Bool)×σ}{a:Nat->Nat->zb->zb->za->Bool}{s:σ}{n:Nat}(h:∃b,(IQ d a c s (some (n,r))).1=.inr b):∃b,(BR d a c s n r).1=.inr b:=by
 obtain⟨b,h⟩:=h;unfold IQ at h;simp only at h;generalize BR d a c s n r=P at *;obtain⟨o,f,g⟩:=P;cases o with
 |inl e=>simp at h
 |inr x=>exact⟨x,rfl⟩
def zeh {k n:Nat}{h:zb}{f:zb}(s:w.heap[cb]?=some (.cells C Bd (0,0)))(a:CCs C nb pm nm)(y:C[3]?=some (qy f))(z:C[0]?=some (.int .i32 1))(u:MV C k h)(m:rr.length=8):
  (IE (.pointer (some ⟨cb,4,none⟩)) (.agg (BN n rr).toArray)).run prog w=.ok () (w.setCells cb 4 (BN n rr))/\∃d,(w.setCells cb 4 (BN n rr)).heap[cb]?=some (.cells d Bd (0,0))/\CCs d nb pm nm/\d[3]?=some (qy f)/\d[0]?=some (.int .i32 1)/\MV d n rr:=by
 have p:15<=C.size:=by
  have:=(Ap.1 a.aM).1;omega
 have A:15<=C.toList.length:=by simpa using p
 have r:=FA n m;have q:w.there cb 4 9:=by
  intro j t;have:=zm s (4+j) (C[4+j]'(by omega)) (D9 _);exact⟨by rw[this.1];rfl,this.2⟩
 have o:=s;have e:=EP (BN n rr) 4 o (by rw[r];omega);have c:∀i,i<4->(C.toList.take 4++(BN n rr++C.toList.drop (4+(BN n rr).length))).toArray[i]?=C[i]?:=by
  intro i x;rw[vy,qh (by simp;omega),List.getElem?_take_of_lt x,D4]
 have g:∀j,j<9->(C.toList.take 4++(BN n rr++C.toList.drop (4+(BN n rr).length))).toArray[4+j]?=(BN n rr)[j]?:=by
  intro j t;have l:(C.toList.take 4).length=4:=by simp;omega
  rw[vy,qq (by omega),l,Em,qh (by omega)]
 have b:∀j,(C.toList.take 4++(BN n rr++C.toList.drop (4+(BN n rr).length))).toArray[13+j]?=C[13+j]?:=by
  intro j;have l:(C.toList.take 4).length=4:=by simp;omega
  rw[vy,qq (by omega),l,qq (by omega),BT,r,D4];congr 1;omega
 refine⟨Fw q m,_,e,⟨(c 2 (by omega)).trans a.al,(b 0).trans a.aV,(b 1).trans a.aM⟩,(c 3 (by omega)).trans y,(c 0 (by omega)).trans z,⟨(g 0 (by omega)).trans rfl,λj v hv=>?_,m⟩⟩;have t:j<8:=by
  have:=(qm.1 hv).1;simp at this;omega
 rw[show 5+j=4+(j+1) by omega,g (j+1) (by omega)];exact hv
def J9:zb:= "checkpoint".toUTF8.data.toList
def zmu (a:Nat->Addr)(B:Nat)(b:World)(o:Sum Er (za))(r:Ending):Prop:=ze0 B b o r\/(o=.inl .cp/\r=.returned (.tuple #[.slice none 0 0,Eg a 2]))
def Ve (c:Cl)(d:Dk)(n:Nt):Prop:=∀a b,K8 c.key (qr d.fs n J9).1 (some (a,b))->(∃e,(IQ (qr d.fs) EM c (qr d.fs n J9).2 (some (a,b))).1=.inr e)/\(c.size≠0->TQ d.fs a/\(qr d.fs n J9).2.ao=[])
def Zt (W0:World)(J:Nat->Addr)(O A OP:Nat->Prop)(j nb db pm nm:Nat)(d:Dk)(c:Cl)(n:Nt)(w:World)(hE:DW W0)(hS:vj W0 J)(aP:F0 W0)(h:Pv W0 w O A OP j nb pm nm c)(hs:Sh W0 w O nb db d n)(hf:n.ai+20000<4611686018427387904)(a9:c.size<9223372036854775808)(aV:c.key.length<=9223372036854775807)(ak:(qr d.fs n J9).1.1.length<=1048576)(U:c.proved.length<=100000000000)(a0:Lb c.proved)(F:Ve c d n):
  Calls prog 98 #[yu j] w λr w'=>∃o,K8 c.key (qr d.fs n J9).1 o/\CR W0 w w' O A OP j nb db pm nm d (IQ (qr d.fs) EM c (qr d.fs n J9).2 o).2.1 (IQ (qr d.fs) EM c (qr d.fs n J9).2 o).2.2 (λ_=>True)/\zmu J w.heap.size w' (IQ (qr d.fs) EM c (qr d.fs n J9).2 o).1 r:=by
 obtain⟨C,hC,hB⟩:=h.aC;have HL:=ze (L0 ⟨j,0,none⟩ w (zm hC 0 _ hB.mu).1 (zm hC 0 _ hB.mu).2);obtain⟨aD,ht⟩:=Ux (k:=8401) h hs hC hB (zu _ w) (by omega) (by omega);have HT:=ze ht;have HH:=ze h;have u:=ze hB.locked;have aK:Hid ((w.setCell ⟨j,0,none⟩ (.int .i32 1)).heap.size=w.heap.size):=by show _=_;simp[World.setCell]
 have c3:(w.setCell ⟨j,0,none⟩ (.int .i32 1)).cell? ⟨j,3,none⟩=some (qy c.key):=(zm aD.aC 3 _ hB.locked.2.1).1;have p:=ze aD;have HE:=ze hE;have HS:=ze hS;have a6:=ze aP;have H:=ze (And.intro aV (And.intro ak (And.intro U a0)));have av:=ze F;clear hC hB h hs aD ht hS hE aP U a0 aV ak F;unfold Ve at av;unfold yu
 go_enter_defers func98,ntmps98
 go_wp2_with fail;refine HL.o.mono ?_;rintro r w2 ⟨rfl,rfl⟩;clear HL;generalize w.setCell ⟨j,0,none⟩ (.int .i32 1)=W at *;have D:=ze (p.o.st.ok (by have:=p.o.bk;omega));have au:=ze (Qo O nb db j n d J9 W D.o.nf D.o.fl D.o.ly D.o.ll D.o.fe D.o.td p.o.aG p.o.al (zm p.o.aC 2 _ p.o.cells.al).1);unfold yu at au;go_wp2_with fail;refine au.o.mono ?_;rintro r l ⟨v,x,rfl,ag,aY,aS,hx⟩;have L:Hid (CS W0 l O (qv A W l) OP j nb db pm nm (C.setIfInBounds 0 (.int .i32 1)) d c.room c.proved ⟨(qr d.fs n J9).2,[]⟩ 8400):=by
  refine p.o.next (ag.mono (λ_ h=>.inl h) (by decide)) ⟨(qr d.fs n J9).2,[]⟩ 8400 aY (p.o.st.step J9) ?_ (p.o.aM.stay ag (λb q e=>p.o.apart b e q) (by decide) (by decide) (λ_ h=>.inl h)) (by simp);show(qr d.fs n J9).2.ai+_<_;rw[F8];have:=p.o.bk;simp only at this;omega
 have az:Hid (zl (λb=>O b\/A b\/OP b\/b=j) (Bd::Uh) W l):=ag.mono (λ_ h=>.inl h) (by decide);have aq:Hid (Di A (qv A W l) W l):=Vg A W l;have a4:=ze aS;have HX:=ze hx;clear ag aY aS hx au D p c3;generalize aO:qr d.fs n J9=NF at *;obtain⟨⟨t,i⟩,n3⟩:=NF;have aI:=ze aO;clear aO;simp only at *;have HK:Hid (∀X,zc l X->(convert 94 9 v).run prog X=.ok (.string ⟨t.toArray⟩) X/\X.cell? ⟨j,3,none⟩=some (.string ⟨c.key.toArray⟩)):=by
  intro X hX;have:=zbw (JY.aj (O:=λ_=>False) (T:=[]) a4.o (.aa hX) (by decide));rw[HX.o]at this;exact⟨this,(zm ((hX.block _ (zg L.o.aC)).trans L.o.aC) 3 _ u.o.2.1).1⟩
 have am:Hid (∀X,zc l X->Calls prog 84 #[.string ⟨t.toArray⟩,.string ⟨c.key.toArray⟩] X λr w'=>∃g a b,r=.returned (.tuple #[.agg (BN g a).toArray,.bool b])/\zc X w'/\a.length=8/\g<9223372036854775808/\((b=true/\vq t c.key g a)\/(b=false/\∀n V,¬vq t c.key n V))):=by
  intro X hX;refine(Vz t c.key H.o.2.1 H.o.1 X (HE.o.below (L.o.below hX).base)).mono ?_;rintro r w' ⟨q,g,a,b,y,hn,rfl,E⟩;exact⟨g,a,b,rfl,q,y,hn,E⟩
 have an:Hid (∀(s:World) (g:Nat) (a:zb),Below (l.alloc (.cells #[.int .i64 0,.int .u8 0,.int .u8 0,.int .u8 0,.int .u8 0,.int .u8 0,.int .u8 0,.int .u8 0,.int .u8 0] 120)).drew.heap.size (l.alloc (.cells #[.int .i64 0,.int .u8 0,.int .u8 0,.int .u8 0,.int .u8 0,.int .u8 0,.int .u8 0,.int .u8 0,.int .u8 0] 120)).drew s->a.length=8->(IE (.pointer (some ⟨l.heap.size,0,none⟩)) (.agg (BN g a).toArray)).run prog s=.ok () (s.setCells l.heap.size 0 (BN g a))/\(s.setCells l.heap.size 0 (BN g a)).heap[l.heap.size]?=some (.cells (BN g a).toArray 120 (0,0))):=by
  intro s g a q y;have hz:s.heap[l.heap.size]?=some (.cells (BN 0 BE).toArray 120 (0,0)):=by
   rw[q.block _ (by show _<(l.alloc _).heap.size;simp)];exact zf l _
  exact⟨Fw (BG hz) y,Cd hz (by rw[FA _ y];rfl)⟩
 have ao:Hid (∀(s:World) (g:Nat) (a:zb),a.length=8->(IE (.pointer (some ⟨s.heap.size,0,none⟩)) (.agg (BN g a).toArray)).run prog (s.alloc (.cells #[.int .i64 0,.int .u8 0,.int .u8 0,.int .u8 0,.int .u8 0,.int .u8 0,.int .u8 0,.int .u8 0,.int .u8 0] 120))=.ok () ((s.alloc (.cells #[.int .i64 0,.int .u8 0,.int .u8 0,.int .u8 0,.int .u8 0,.int .u8 0,.int .u8 0,.int .u8 0,.int .u8 0] 120)).setCells s.heap.size 0 (BN g a))/\((s.alloc (.cells #[.int .i64 0,.int .u8 0,.int .u8 0,.int .u8 0,.int .u8 0,.int .u8 0,.int .u8 0,.int .u8 0,.int .u8 0] 120)).setCells s.heap.size 0 (BN g a)).heap[s.heap.size]?=some (.cells (BN g a).toArray 120 (0,0))):=by
  intro s g a y;have hz:(s.alloc (.cells #[.int .i64 0,.int .u8 0,.int .u8 0,.int .u8 0,.int .u8 0,.int .u8 0,.int .u8 0,.int .u8 0,.int .u8 0] 120)).heap[s.heap.size]?=some (.cells (BN 0 BE).toArray 120 (0,0)):=zf s _;exact⟨Fw (BG hz) y,Cd hz (by rw[FA _ y];rfl)⟩
 have N:Hid (zc l l.drew):=(zu _ l).drew;have P:Hid (∀o,zc l (l.alloc o).drew):=λo=>(zi l o).drew
 go_wp2
 go_cut [6,7] from 26 to 34 (λs6 s7 wx=>∃(tb g:Nat) (a:zb) (b:Bool),s6=.pointer (some ⟨tb,0,none⟩)/\s7=.bool b/\wx.heap[tb]?=some (.cells (BN g a).toArray 120 (0,0))/\l.heap.size<=tb/\zc l wx/\a.length=8/\g<9223372036854775808/\((b=true/\vq t c.key g a)\/(b=false/\∀n V,¬vq t c.key n V)))
 case first =>
  go_region_held3 (λX=>(convert 94 9 v).run prog X=.ok (.string ⟨t.toArray⟩) X/\X.cell? ⟨j,3,none⟩=some (.string ⟨c.key.toArray⟩)) (first|exact HK.o _ N.o|exact HK.o _ (P.o _)|exact HK.o _ m.o|exact HK.o _ (m.o.alloc m.o.size _)|exact HK.o _ (xo m.o (zk _) _ _)|exact HK.o _ (xo (m.o.alloc m.o.size _) m.o.size _ _)) (first
   |(go_at_call 84;refine(am.o _ (by first|exact N.o|exact P.o _)).mono ?_;rintro r s ⟨g,a,b,rfl,ae,y,S,E⟩;have m:Hid (zc l s):=(by first|exact N.o.trans (ae.mono N.o.size)|exact(P.o _).trans (ae.mono (P.o _).size));have M:=ze E;have z:=ze S;have H8:=ze y;(first|(have HQ:=ze (an.o s g a ae y))|(have HQ:=ze (ao.o s g a y)));have a8:=HQ.o.1;clear ae y S E))
  all_goals (rename_i G;clear G)
  all_goals go_wp2_with fail
  all_goals go_meet
  all_goals first
   |exact⟨l.heap.size,g,a,b,rfl,rfl,HQ.o.2,zk _,xo m.o (zk _) _ _,H8.o,z.o,M.o⟩
   |exact⟨s.heap.size,g,a,b,rfl,rfl,HQ.o.2,m.o.size,xo (m.o.alloc m.o.size _) m.o.size _ _,H8.o,z.o,M.o⟩
 case rest =>
  obtain⟨tb,g,a,b,rfl,rfl,aZ,ak,aQ,y,S,E⟩:=hcut;obtain⟨X,hX⟩:∃X,X=wc:=⟨_,rfl⟩;subst hX;have K:=ze aQ;have Q:=ze aZ;have M:=ze E;have z:=ze (And.intro y S);clear aZ ak aQ y S E HK am an ao N P;have I:=ze (L.o.below K.o)
  by_cases F:i=true/\b=true
  rotate_left
  ·have a3:Hid (K8 c.key (t,i) none):=by
    rcases M.o with h|h
    ·refine .inl ?_;cases i
     ·rfl
     ·exact absurd ⟨rfl,h.1⟩ F
    ·exact .inr h.2
   have HU:=ze (Gt ⟨j,0,none⟩ .returning X.drew (zm I.o.aC 0 _ u.o.2.2.2).1 (zm I.o.aC 0 _ u.o.2.2.2).2);have qe:X.cell? ⟨2,0,none⟩=some (.iface 392 (.pointer (some (J 2)))):=NX I.o.base HS.o.check;obtain rfl|⟨rfl,rfl⟩:i=false\/i=true/\b=false:=by
    cases i<;>cases b<;>first|exact .inl rfl|exact .inr ⟨rfl,rfl⟩|exact absurd ⟨rfl,rfl⟩ F
   all_goals
    clear F
    go_wp2
    go_region_held3 (λw'=>w'.cell? ⟨2,0,none⟩=some (.iface 392 (.pointer (some (J 2))))) (go_keep) (fail)
    rename_i G;clear G;go_wp2_with fail;refine Dp (f:=144) (args:=#[.pointer (some ⟨j,0,none⟩)]) (by simp) (by simp[go_sem]) ?_;refine HU.o.mono ?_;rintro e u' w9 ⟨rfl,rfl,rfl⟩;simp only[Leaves,settle];refine⟨.tuple #[.slice none 0 0,Eg J 2],by simp[results,results98,go_sem,Eg],?_⟩;rw[aI.o];refine⟨none,a3.o,?_,.inr ⟨rfl,rfl⟩⟩;exact JU (w8:=X.drew) (c':=c) HH.o HT.o ((az.o.ah K.o).ah (zu _ X).drew) ((aq.o.below K.o.size).below (zk _)) (Di.refl _ _ _) (I.o.below (zu _ X).drew) u.o.2.1 u.o.2.2.1 u.o.2.2.2 (λ_=>trivial)
  ·obtain⟨rfl,rfl⟩:=F;have ax:Hid (vq t c.key g a):=by
    rcases M.o with h|h
    ·exact h.2
    ·exact absurd h.1 (by decide)
   have aA:=ze (az.o.ah K.o);have Z:=ze (aq.o.below K.o.size);have aW:(QH (.pointer (some ⟨tb,0,none⟩))).run prog X=.ok (.agg (BN g a).toArray) X:=Lz (vv Q.o) z.o.1;have aw:=ze (zdc W0 J O (qv A W l) OP j nb db pm nm _ d c.room c.proved n3 0 c.size g c.key c.root a a9 z.o.2 z.o.1 u.o.2.2.1 HE.o HS.o a6.o (zeo (av.o g a ⟨rfl,ax.o⟩).1) (av.o g a ⟨rfl,ax.o⟩).2 H.o.2.2.1 H.o.2.2.2 (λb q=>(HH.o.own b (.inr (.inl q))).1) X I.o);have a7:Hid (∀ps pr s1,BR (qr d.fs) EM (IL c.key c.size c.root c.room c.proved) n3 g a=(.inr ps,pr,s1)->IQ (qr d.fs) EM c n3 (some (g,a))=(.inr ps,{c with size:=g,root:=a,proved:=pr},s1)):=λps pr s1 (e:BR (qr d.fs) EM c n3 g a=_)=>by
    unfold IQ;simp only[e]
   clear L az aq;unfold yu at aw;generalize BR (qr d.fs) EM (IL c.key c.size c.root c.room c.proved) n3 g a=PC at *;obtain⟨o,ba,n4⟩:=PC;simp only at *;go_wp2_with fail;refine aw.o.mono ?_;rintro r Y ⟨B,hr⟩;obtain⟨ps,pv,rfl,ap,y,U,rfl⟩:=hr;obtain⟨A',aN,hA,hP,aR,-⟩:=B.cs;have a5:Hid (zl (λb=>O b\/A b\/OP b\/b=j) (Bd::Uh) W Y):=by
    refine aA.o.trans ((Di.aj (cb:=j) B.aj).mono (λb q=>?_) (λ_ h=>h));rcases q with q|q|q|q
    ·exact .inl (.inl q)
    ·exact(Z.o.2 b q).imp (λh=>.inr (.inl h)) id
    ·exact .inl (.inr (.inr (.inl q)))
    ·exact .inl (.inr (.inr (.inr q)))
   have ay:=ze aA.o.size;have aF:Hid (Di A A' W Y):=⟨λb q=>hA.1 b (Z.o.1 b q),λb q=>by
    have:=ay.o;rcases hA.2 b q with h|h
    ·exact(Z.o.2 b h).imp id (λh=>⟨h.1,zq h.2 B.aj.size⟩)
    ·exact .inr ⟨by omega,h.2⟩⟩
   have aJ:Hid (Di OP aN W Y):=⟨hP.1,λb q=>(hP.2 b q).imp id (λh=>⟨zt ay.o h.1,h.2⟩)⟩;have ab:=ze aR;have HR:=ze (And.intro ap (And.intro y U));have aL:=ze (B.aj.keep Q.o (by decide));clear B ap y U hA hP aR aw I aA Z Q aW;have a1:Hid (w.heap.size<=X.heap.size):=by have:=ay.o;have:=aK.o;show _<=_;omega
   have aW:(QH (.pointer (some ⟨tb,0,none⟩))).run prog Y=.ok (.agg (BN g a).toArray) Y:=Lz (vv aL.o) z.o.1;obtain⟨a8,C',ad,R,aU,af,aX⟩:=zeh (n:=g) ab.o.aC ab.o.cells u.o.2.1 u.o.2.2.2 u.o.2.2.1 z.o.1;have ar:=ze (And.intro R (And.intro aU (And.intro af aX)));have aE:zl (λb=>b=j) [Bd] Y (Y.setCells j 4 (BN g a)):=zl.setCells (O:=λb=>b=j) (T:=[Bd]) (zl.refl _ _ Y) (.inl rfl) ab.o.aC (by simp) _ _;have a2:Hid (W0.heap.size<=j/\¬A' j/\¬aN j):=by
    have h1:=HH.o.own j (.inr (.inr rfl));have h2:=aK.o;refine⟨h1.1,λe=>?_,λe=>?_⟩
    ·rcases aF.o.2 j e with h|h
     ·exact HH.o.bS h
     ·omega
    ·rcases aJ.o.2 j e with h|h
     ·exact HH.o.bT h
     ·omega
   have aH:=ze (ab.o.bu aE a2.o ad R);have aB:=ze aE;have HU:=ze (Gt ⟨j,0,none⟩ .returning (Y.setCells j 4 (BN g a)) (zm ad 0 _ af).1 (zm ad 0 _ af).2);clear ad R aU af aX aE;generalize Y.setCells j 4 (BN g a)=W6 at *;go_wp2_with fail;refine Dp (f:=144) (args:=#[.pointer (some ⟨j,0,none⟩)]) (by simp) (by simp[go_sem]) ?_;refine HU.o.mono ?_;rintro e u' w9 ⟨rfl,rfl,rfl⟩;simp only[Leaves,settle];refine⟨.tuple #[pv,.nilIface],by simp[results,results98,go_sem],?_⟩;rw[aI.o];refine⟨some (g,a),⟨rfl,ax.o⟩,?_⟩;rw[a7.o _ _ _ rfl];have s6:=aB.o.size;refine⟨JU (w8:=W6) (c':={c with size:=g,root:=a,proved:=ba}) HH.o HT.o (a5.o.trans (aB.o.mono (λb q=>.inl (.inr (.inr (.inr q)))) (by decide))) (aF.o.below s6) (aJ.o.below s6) aH.o ar.o.2.1 ar.o.2.2.2 ar.o.2.2.1 (λ_=>trivial),.inl ⟨ps,pv,rfl,G5 (zy HR.o.1 (aB.o.trans ((zl.set (O:=λb=>b=j) (T:=[Bd]) (zl.refl _ _ W6) (.inl rfl) aH.o.aC (by simp) _).mono (λ_ h=>.inl h) (λ_ h=>h))) (by decide)) a1.o,HR.o.2.1,HR.o.2.2,rfl⟩⟩
end
section
attribute [local go_sem ↓] j9 jx ve jy ju jt vd jw Et D8
def zfj (parts:Array (Nat×Value)):Sem Value:=Instr.build 120 parts
def Vr (parts:Array (Nat×Value)):Instr.build 120 parts=zfj parts:=rfl
def zfg (parts:Array (Nat×Value)):Sem Value:=Instr.build Bd parts
def Vp (parts:Array (Nat×Value)):Instr.build Bd parts=zfg parts:=rfl
attribute [local go_sem ↓] Vr Vp
def za5 (h:zb)(a:h.length=8)(w:World):(zfj #[(1,.agg (hv h))]).run prog w=.ok (.agg (BN 0 h).toArray) w:=by
 obtain⟨b,c,d,e,f,g,i,j,rfl⟩:=XC h a
 kernel_rfl
def Yb (tv:Value)(b:zb)(n:Nat)(a:zb)(d c:Nat):List Value:=[.int .i32 0,.int .u32 0,tv,qy b]++(BN n a++[yu d,yu c])
def za1 (tv:Value)(b:tv=.nilIface\/∃t p,tv=.iface t p)(a h:zb)(e:h.length=8)(d c:Nat)(w:World):(zfg #[(1,tv),(2,.string ⟨a.toArray⟩),(3,.agg (BN 0 h).toArray),(4,.pointer (some ⟨d,0,none⟩)),(5,.pointer (some ⟨c,0,none⟩))]).run prog w=.ok (.agg (Yb tv a 0 h d c).toArray) w:=by
 obtain⟨f,g,i,j,k,l,m,n,rfl⟩:=XC h e;rcases b with rfl|⟨t,p,rfl⟩
 ·kernel_rfl
 ·kernel_rfl
def Wu (tv:Value)(z:tv=.nilIface\/∃t p,tv=.iface t p)(b:zb)(a:Int)(w:World):
  Calls prog 93 #[tv,qy b,.int .i64 a] w λr m=>∃(g f e:Nat) (A D:Nat->Prop),r=.returned (yu g)/\zc w m/\g<m.heap.size/\w.heap.size<=g/\(∀k,A k->w.heap.size<=k/\k<g)/\(∀k,D k->w.heap.size<=k/\k<g/\¬A k)/\G0 m D f a []/\Dj m A e FI []/\m.heap[g]?=some (.cells (Yb tv b 0 (j7 0 []) f e).toArray Bd (0,0)):=by
 have G:=ze (I8 0 (.slice none 0 0) [] w (by simp) (by simp) (by simp) ⟨none,0,rfl,by simp,.inl rfl⟩);have l:Hid ((j7 0 []).length=8):=j5 _ _;have H:=ze z;generalize j7 0 []=R at *;have J:=λX=>za5 R l.o X;have I:=λf e X=>za1 tv H.o b R l.o f e X;unfold qy;go_enter func93,ntmps93;go_wp2_with fail;refine G.o.mono ?_;rintro r F ⟨rfl,s⟩;have i:=ze s;go_wp2_with fail;refine(zhj a F).mono ?_;rintro r B ⟨f,rfl,u,y⟩;have j:=ze u;have q:=ze y;unfold yu;go_wp2_with fail;refine(zhi FI B).mono ?_;rintro r C ⟨e,rfl,v,x⟩;have c:=ze v;have n:=ze x;unfold yu
 go_wp2
 go_ret;have K:=i.o.size;have L:=j.o.size;have M:=c.o.size;have d:=zi C (.cells (Yb tv b 0 R f e).toArray Bd);refine⟨C.heap.size,f,e,λk=>B.heap.size<=k/\k<C.heap.size,λk=>F.heap.size<=k/\k<B.heap.size,rfl,?_,by simp,by omega,λk E=>⟨by omega,E.2⟩,λk E=>⟨by omega,by omega,λh=>by omega⟩,(q.o.below c.o (λ_ h=>h)).below d (λ_ h=>h),n.o.below d (λ_ h=>h),zf _ _⟩;exact((i.o.trans (j.o.mono (by omega))).trans (c.o.mono (by omega))).trans (d.mono (by omega))
def zj7 {n:Nat}{b a:zb}(c:Int)(i:Mm)(h:a.length=8):CBl (Yb (QM nb) b n a pm nm).toArray nb pm nm ⟨b,n,a,c,i⟩:=by
 have e:=FA n h;have d:∀j,(Yb (QM nb) b n a pm nm).toArray[4+j]?=(BN n a++[yu pm,yu nm])[j]?:=λj=>by
  rw[vy,Yb,qq (by simp)];congr 1;simp
 have g:(BN n a++[yu pm,yu nm])[9]?=some (yu pm):=by
  rw[qq (by omega),e];rfl
 have f:(BN n a++[yu pm,yu nm])[10]?=some (yu nm):=by
  rw[qq (by omega),e];rfl
 refine⟨⟨rfl,(d 9).trans g,(d 10).trans f⟩,rfl,rfl,⟨(d 0).trans ?_,λj v hv=>?_,h⟩⟩
 ·rw[qh (by omega)];rfl
 ·have k:j<8:=by
   have:=(qm.1 hv).1;simp at this;omega
  rw[show 5+j=4+(j+1) by omega,d (j+1),qh (by omega)];exact hv
def zhh (q:World)(O:Nat->Prop)(m:Nat)(d:zb)(a:Int)(w:World)(v:q.heap.size<=w.heap.size)(t:∀b,O b->b<w.heap.size):
  Calls prog 93 #[QM m,qy d,.int .i64 a] w λr p=>∃(c o n:Nat) (A e:Nat->Prop),r=.returned (yu c)/\zc w p/\w.heap.size<=c/\(∀k,A k\/e k->w.heap.size<=k)/\Pv q p O A e c m o n ⟨d,0,j7 0 [],a,[]⟩:=by
 refine(Wu (QM m) (.inr ⟨_,_,rfl⟩) d a w).mono ?_;rintro r p ⟨c,o,n,A,e,rfl,u,z,s,g,f,l,j,x⟩;refine⟨c,o,n,A,e,rfl,u,s,λk y=>y.elim (λh=>(g k h).1) (λh=>(f k h).1),⟨λb i=>?_,λb h=>(f b h).2.2,λh=>M8 _ (g c h).2,λh=>M8 _ (f c h).2.1,⟨_,x,zj7 a [] (j5 _ _)⟩,⟨[],l,.nil⟩,j⟩⟩;have:w.heap.size<=b/\b<=c:=by
  rcases i with h|h|rfl
  ·have:=g b h;omega
  ·have:=f b h;omega
  ·omega
 exact⟨by omega,by omega,λh=>by have:=t b h;omega⟩
end
section
attribute [local go_sem ↓] j9 jx ve jy ju jt vd jw Et D8
def XY (a:Nat)(p:zb)(w:World)(c:w.cell? ⟨a,2,none⟩=some .nilIface):
  Calls prog 145 #[yu a,qy p] w λr h=>r=.returned (.tuple #[.slice none 0 0,.bool false])/\zc w h:=by
 have b:=yf c;have g:∀o d,((w.alloc o).alloc d).cell? ⟨a,2,none⟩=some .nilIface:=λo d=>by
  rw[xg _ _ ⟨a,2,none⟩ (by simp;exact Im b),xg _ _ ⟨a,2,none⟩ b];exact c
 unfold yu qy
 go_enter_defers func145,ntmps145
 go_wp2_with fail;refine⟨.tuple #[.slice none 0 0,.bool false],?_,rfl,qg w _ _⟩;have e:((w.alloc (.cells #[.slice none 0 0] 94)).alloc (.cells #[.bool false] 4)).cell? ⟨w.heap.size,0,none⟩=some (.slice none 0 0):=(zm (zr (zf w _)) 0 _ rfl).1;have f:((w.alloc (.cells #[.slice none 0 0] 94)).alloc (.cells #[.bool false] 4)).cell? ⟨w.heap.size+1,0,none⟩=some (.bool false):=by
  have:=zf (w.alloc (.cells #[.slice none 0 0] 94)) (.cells #[.bool false] 4);rw[show(w.alloc (.cells #[.slice none 0 0] 94)).heap.size=w.heap.size+1 by simp]at this;exact(zm this 0 _ rfl).1
 simp[results,results145,go_sem,e,f]
def VA (w:World):(convert 94 9 (.slice none 0 0)).run prog w=.ok (.string ⟨#[]⟩) w:=by kernel_rfl
def Zu (H:World)(n:Nat->Addr)(h:Nat)(C:Array Value)(j:zb)(w:World)(hE:DW H)(hS:vj H n)(E:zc H w)(R:H.heap.size<=h)(K:j.length<=9223372036854775807)(I:w.heap[h]?=some (.cells C Bd (0,0)))(h0:C[0]?=some (.int .i32 0))(Y:C[2]?=some .nilIface)(Z:C[3]?=some (qy j)):
  Calls prog 98 #[yu h] w λr F=>zl (λb=>b=h) [Bd] w F/\r=.returned (.tuple #[.slice none 0 0,Eg n 2]):=by
 have V:=ze (L0 ⟨h,0,none⟩ w (zm I 0 _ h0).1 (zm I 0 _ h0).2);have P:Hid (zl (λb=>b=h) [Bd] w (w.setCell ⟨h,0,none⟩ (.int .i32 1))):=zl.set (O:=λb=>b=h) (T:=[Bd]) (zl.refl _ _ w) (.inl rfl) I (by simp) _;have L:=ze (Aw I 0 (.int .i32 1));have M:Hid (zc H (w.setCell ⟨h,0,none⟩ (.int .i32 1))):=E.trans (P.o.below (λb e=>by rw[e];exact R) E.size);have t:Hid ((C.setIfInBounds 0 (.int .i32 1))[0]?=some (.int .i32 1)/\(C.setIfInBounds 0 (.int .i32 1))[2]?=some .nilIface/\(C.setIfInBounds 0 (.int .i32 1))[3]?=some (qy j)):=
  ⟨Bf (Ap.1 h0).1,by rw[jo (by omega)];exact Y,by rw[jo (by omega)];exact Z⟩
 have HE:=ze hE;have HS:=ze hS;have N:=ze K;clear hE hS E I h0 Y Z K;unfold yu
 go_enter_defers func98,ntmps98
 go_wp2_with fail;refine V.o.mono ?_;rintro r w2 ⟨rfl,rfl⟩;clear V;generalize w.setCell ⟨h,0,none⟩ (.int .i32 1)=W2 at *;have B:=ze (XY h J9 W2 (zm L.o 2 _ t.o.2.1).1);unfold yu at B;go_wp2_with fail;refine B.o.mono ?_;rintro r g ⟨rfl,u⟩;have q:=ze (M.o.trans (u.mono M.o.size));have Q:=ze (P.o.ah u);have s:=ze ((u.block _ (zg L.o)).trans L.o);clear u B L P M;have S:=VA;have D:Hid (∀X,zc g X->X.cell? ⟨h,3,none⟩=some (.string ⟨j.toArray⟩)):=λX J=>(zm ((J.block _ (zg s.o)).trans s.o) 3 _ t.o.2.2).1;have x:Hid (∀X,zc g X->Calls prog 84 #[.string ⟨#[]⟩,.string ⟨j.toArray⟩] X λr F=>∃k d b,r=.returned (.tuple #[.agg (BN k d).toArray,.bool b])/\zc X F/\d.length=8):=by
  intro X J;refine(Vz [] j (by simp) N.o X (HE.o.below (q.o.trans (J.mono q.o.size)))).mono ?_;rintro r F ⟨E,k,d,b,p,hn,rfl,aa⟩;exact⟨k,d,b,rfl,E,p⟩
 have y:Hid (∀(c:World) (k:Nat) (d:zb),Below (g.alloc (.cells #[.int .i64 0,.int .u8 0,.int .u8 0,.int .u8 0,.int .u8 0,.int .u8 0,.int .u8 0,.int .u8 0,.int .u8 0] 120)).drew.heap.size (g.alloc (.cells #[.int .i64 0,.int .u8 0,.int .u8 0,.int .u8 0,.int .u8 0,.int .u8 0,.int .u8 0,.int .u8 0,.int .u8 0] 120)).drew c->d.length=8->(IE (.pointer (some ⟨g.heap.size,0,none⟩)) (.agg (BN k d).toArray)).run prog c=.ok () (c.setCells g.heap.size 0 (BN k d))):=by
  intro c k d E p;have U:c.heap[g.heap.size]?=some (.cells (BN 0 BE).toArray 120 (0,0)):=by
   rw[E.block _ (by show _<(g.alloc _).heap.size;simp)];exact zf g _
  exact Fw (BG U) p
 have z:Hid (∀(c:World) (k:Nat) (d:zb),d.length=8->(IE (.pointer (some ⟨c.heap.size,0,none⟩)) (.agg (BN k d).toArray)).run prog (c.alloc (.cells #[.int .i64 0,.int .u8 0,.int .u8 0,.int .u8 0,.int .u8 0,.int .u8 0,.int .u8 0,.int .u8 0,.int .u8 0] 120))=.ok () ((c.alloc (.cells #[.int .i64 0,.int .u8 0,.int .u8 0,.int .u8 0,.int .u8 0,.int .u8 0,.int .u8 0,.int .u8 0,.int .u8 0] 120)).setCells c.heap.size 0 (BN k d))):=by
  intro c k d p;have U:(c.alloc (.cells #[.int .i64 0,.int .u8 0,.int .u8 0,.int .u8 0,.int .u8 0,.int .u8 0,.int .u8 0,.int .u8 0,.int .u8 0] 120)).heap[c.heap.size]?=some (.cells (BN 0 BE).toArray 120 (0,0)):=zf c _;exact Fw (BG U) p
 have l:Hid (zc g g.drew):=(zu _ g).drew;have m:Hid (∀o,zc g (g.alloc o).drew):=λo=>(zi g o).drew
 go_wp2
 go_cut [6,7] from 26 to 34 (λ_ _ wx=>zc g wx)
 case first =>
  go_region_held3 (λX=>X.cell? ⟨h,3,none⟩=some (.string ⟨j.toArray⟩)) (first|exact D.o _ l.o|exact D.o _ (m.o _)|exact D.o _ a.o|exact D.o _ (a.o.alloc a.o.size _)|exact D.o _ (xo a.o (zk _) _ _)|exact D.o _ (xo (a.o.alloc a.o.size _) a.o.size _ _)) (first
   |(go_at_call 84;refine(x.o _ (by first|exact l.o|exact m.o _)).mono ?_;rintro r c ⟨k,d,b,rfl,v,p⟩;have a:Hid (zc g c):=(by first|exact l.o.trans (v.mono l.o.size)|exact(m.o _).trans (v.mono (m.o _).size));(first|(have W:=ze (y.o c k d v p))|(have W:=ze (z.o c k d p)));have ab:=W.o;clear v p))
  all_goals (rename_i i;clear i)
  all_goals go_wp2_with fail
  all_goals go_meet
  all_goals first
   |exact xo a.o (zk _) _ _
   |exact xo (a.o.alloc a.o.size _) a.o.size _ _
 case rest =>
  obtain⟨X,J⟩:∃X,X=wc:=⟨_,rfl⟩;subst J;have G:=ze hcut;have A:=ze ((hcut.block _ (zg s.o)).trans s.o);clear hcut D x y z l m S;have HU:=ze (Gt ⟨h,0,none⟩ .returning X.drew (zm A.o 0 _ t.o.1).1 (zm A.o 0 _ t.o.1).2);have qe:X.cell? ⟨2,0,none⟩=some (.iface 392 (.pointer (some (n 2)))):=NX (q.o.trans (G.o.mono q.o.size)) HS.o.check
  go_wp2
  go_region_held3 (λF=>F.cell? ⟨2,0,none⟩=some (.iface 392 (.pointer (some (n 2))))) (go_keep) (fail)
  rename_i i;clear i;go_wp2_with fail;refine Dp (f:=144) (args:=#[.pointer (some ⟨h,0,none⟩)]) (by simp) (by simp[go_sem]) ?_;refine HU.o.mono ?_;rintro e u' w9 ⟨rfl,rfl,rfl⟩;simp only[Leaves,settle];refine⟨.tuple #[.slice none 0 0,Eg n 2],by simp[results,results98,go_sem,Eg],?_,rfl⟩;have p:X.drew.heap[h]?=some (.cells (C.setIfInBounds 0 (.int .i32 1)) Bd (0,0)):=A.o;exact((Q.o.ah G.o).ah (zu _ X).drew).set (.inl rfl) p (by simp) _
end
variable {B k:Nat}{O:Nat->Prop}{T:List Nat}{e:TypeId}
def zl.bd {a:World}(h:zl O T a w){b:Nat}(e:O b)(f:Tob T a.heap[b]?)(o:Nat)(d:List Value):zl O T a (w.setCells b o d):=by
 obtain⟨i,j,l,m⟩:=C7 b d o w;refine⟨i.trans h.os,j.trans h.tape,l.trans h.output,by rw[m];exact h.size,λk g=>?_⟩
 by_cases c:k=b
 ·subst c;exact .inr ⟨e,f⟩
 ·rw[AV _ _ _ _ _ c];exact h.block k g
def zl.more {a b c:World}(h:zl O T a b)(d:Below a.heap.size b c):zl O T a c:=
 ⟨d.os.trans h.os,d.tape.trans h.tape,d.output.trans h.output,zt h.size d.size,λk e=>by rw[d.block k e];exact h.block k e⟩
def Ti {s:Nat}{n:Nat}{i:List Value}(h:w.ownsRow B e s v n i)(b:v.ownBlock=some k):∃c x,w.heap[k]?=some (.cells c e x):=by
 rcases h.2 with ⟨rfl,_⟩|⟨g,d,a,rfl,-,f,-⟩
 ·simp[Value.ownBlock]at b
 ·simp only[Value.ownBlock,zn]at b;subst b;exact⟨a,_,f⟩
def MQ (B:Nat)(v:Value)(b:za)(w:World)(hn:b.length<=1000000)(T:∀p∈b,p.length=8)(h:w.ownsRow B 91 8 v b.length (IM b)):
  Calls prog 66 #[v] w λr W=>∃x,r=.returned x/\zl (λk=>v.ownBlock=some k) [91] w W/\W.ownsRow w.heap.size 9 1 x b.length (b.map AL):=by
 obtain⟨i,hi,P⟩:=zx.1 Hf;obtain⟨Q,R,S⟩:i.zero=some (.string ⟨#[]⟩)/\i.size=1/\i.bytes=16:=by simpa using P
 have Y:=ze hi;have L:=ze (And.intro Q (And.intro R S));have M:=ze (Ny T h);have X:=ze T;have K:Hid (∀k,v.ownBlock=some k->Tob [91] w.heap[k]?):=λk U=>by
  obtain⟨c,x,e⟩:=Ti h U;exact .inl ⟨c,_,x,e,by simp⟩
 obtain⟨a,l,rfl⟩:∃a l,v=.slice a b.length l:=by
  rcases M.o with ⟨rfl,h0⟩|⟨g,l,rfl,-⟩
  ·exact⟨_,_,by rw[h0]⟩
  ·exact⟨_,_,rfl⟩
 go_enter func66,ntmps66
 go_wp2
 go_loopw [3,7] (λt i wr=>∃k:Nat,k<=b.length/\i=.int .i64 k/\zl (λk=>Value.ownBlock (.slice a b.length l)=some k) [91] w wr/\wr.ownsRow w.heap.size 9 1 t k ((b.take k).map AL)/\(∀g m,a=some ⟨g,m,none⟩->m=0/\B<=g/\g<w.heap.size/\TS wr g b k)) (λ_ i _=>b.length-(intOf i).toNat)
 case atStart =>
  refine⟨0,yk _,rfl,zl.refl _ _ _,⟨rfl,.inl ⟨rfl,rfl⟩⟩,λg m e=>?_⟩;rcases M.o with ⟨q,h0⟩|⟨E,n,q,r⟩
  ·simp[e]at q
  ·simp[e]at q;obtain⟨⟨rfl,rfl⟩,_⟩:=q;exact⟨rfl,r⟩
 case round =>
  obtain⟨k,U,rfl,N,f,d⟩:=hrel;have F:=ze N;have H:=ze f;have Z:=ze d
  by_cases u:k<b.length
  ·obtain⟨g,rfl⟩:∃g,a=some ⟨g,0,none⟩:=by
    rcases M.o with ⟨_,h0⟩|⟨E,n,q,r⟩
    ·omega
    ·simp at q;exact⟨E,q.1⟩
   obtain⟨-,gB,gH,d⟩:=Z.o g 0 rfl;have D:=ze (And.intro gB gH);have A:=ze d;have hs:(b.take (k+1)).map AL=(b.take k).map AL++[AL b[k]]:=by rw[yz u,yv];rfl
   have Hs:=ze hs;have O:=Nj wr g (k*8) 8 8 b[k] (X.o _ (ye u)) (A.o.2 k u (zk _));generalize b[k]=p at *;unfold AL at O;have y:=ze F.o.size;have I:Hid (∀o,(wr.alloc o).ownsRow w.heap.size 9 1 u3 k ((b.take k).map AL)):=λo=>yx H.o (zi wr o);go_wp2_with (first
    |(at_builtin;refine jf _ rfl _ _ _ rfl w.heap.size 9 i (.string ⟨#[]⟩) 1 16 underlying22 Y.o L.o.1 L.o.2.1 L.o.2.2 rfl (by omega) u3 k _ rfl (I.o _) ⟨wr.heap.size,0,none⟩ 1 1 [.string ⟨p.toArray⟩] rfl rfl (xm (zf _ _)) (by simp[Value.oneCell']) (by omega) (by unfold maxLen;omega) (by omega) (by have:=y.out;simp;omega) (wr.heap.size+1) (by simp) ?_;intro E n w2 f s aa V;have z:=ze (((zi wr _).mono y.out).grown s (by have:=y.out;simp;omega) (vg H.o));have J:=ze f;have C:=ze (A.o.below D.o.2 z.o))
    |(show wpList _ _ _ ({dst:=none,op:=Op.store _ _ _,type:=_,pos:=_,after:=_,guard:=_}::_) _ _;refine wpList_store_mid rfl 91 _ _ rfl g (k*8) zha rfl rfl (by intro j hj;have ab:j<8:=hj;have:=C.o.1 (k*8+j) (by omega);rw[xk]at this;exact this) SV Wq ?_))
   have G:=ze (F.o.more z.o)
   go_roundw
   case rel =>
    refine⟨k+1,by omega,by go_num,G.o.bd rfl (K.o g rfl) _ _,by rw[Hs.o];exact M1 J.o g D.o.2 _ _,λE m e=>?_⟩;simp only[zn,Ce]at e;obtain⟨rfl,rfl,-⟩:=e;exact⟨rfl,D.o.1,D.o.2,C.o.next _ rfl⟩
   case measure=>simp[intOf];omega
  ·go_wp2
   go_ret;refine⟨_,rfl,F.o,?_⟩;have:=H.o;rw[xn (by omega)]at this;rw[show b.length=k by omega];exact this
variable {A A' G N O' OP:Nat->Prop}{L:EJ}{T':List Nat}{W0 w' w1 w2:World}{c':Cl}{d:Dk}{db hb mb:Nat}{n':Nt}{pr:Mm}
def IU (G:Nat->Prop)(T:List Nat)(w:World):Prop:=∀k,G k->∃c t x,w.heap[k]?=some (.cells c t x)/\t∈T
def zl.same (g:zl G T w w')(a:IU G T' w){o:Obj}(h:w.heap[k]?=some o)(f:∀c t x,o=.cells c t x->t∉T'):w'.heap[k]?=some o:=by
 rcases g.block k (zg h)with e|⟨d,-⟩
 ·rw[e];exact h
 ·obtain⟨c,t,x,e,b⟩:=a k d;rw[h]at e;simp only[zn]at e;exact absurd b (f c t x e)
def E6 {b:Array Value}{y:Nat×Nat}(h:e∉T):∀c t x,Obj.cells b e y=.cells c t x->t∉T:=by
 intro c t x a;simp only[An]at a;rw[<- a.2.1];exact h
def BC.past {l:Ks}(h:BC w hb l)(d:zl G T w w')(b:IU G T' w):BC w' hb l:=by
 obtain⟨f,c,e⟩:=h.isMap;exact h.same ((d.same b e (λc t x a=>by simp at a)).trans e.symm)
def Dj.past {a:Int}{L:Ek}(h:Dj w O mb a L)(c:zl G T w w')(b:IU G T' w)(f:MeN∉T')(d:FC∉T'):Dj w' O mb a L:=by
 obtain⟨g,e,j,k,h⟩:=h;exact⟨g,e,j,k,h.own,c.same b h.mem (E6 f),⟨c.same b h.ring.ends (E6 d),λx i=>c.same b (h.ring.link x i) (E6 d),h.ring.aD⟩,h.map.past c b,h.ok⟩
def G0.past {a:Int}(h:G0 w O mb a L)(c:zl G T w w')(b:IU G T' w)(f:MeP∉T')(d:Gu∉T'):G0 w' O mb a L:=by
 obtain⟨g,e,j,k,h⟩:=h;exact⟨g,e,j,k,h.own,c.same b h.mem (E6 f),⟨c.same b h.ring.ends (E6 d),λx i=>c.same b (h.ring.link x i) (E6 d),h.ring.aD,h.ring.len⟩,h.map.past c b,h.ok⟩
def MA.past {c:Int}(h:MA w OP pm c pr)(d:zl G T w w')(l:IU G T' w)(i:MeP∉T')(j:Gu∉T')(k:5∉T):MA w' OP pm c pr:=by
 obtain⟨e,f,g⟩:=h;exact⟨e,f.past d l i j,g.mono λa _ b m=>m.aj d k⟩
def Pv.past (h:Pv W0 w O A OP cb nb pm nm c)(d:zl G T w w')(e:IU G T' w)(f:MeN∉T')(g:FC∉T')(i:Bd∉T')(l:MA w' OP pm c.room c.proved):Pv W0 w' O A OP cb nb pm nm c:=by
 obtain⟨C,k,j⟩:=h.aC;exact⟨λb a=>⟨(h.own b a).1,zq (h.own b a).2.1 d.size,(h.own b a).2.2⟩,h.sep,h.bS,h.bT,⟨C,d.same e k (E6 i),j⟩,l,h.aM.past d e f g⟩
def Pv.other (h:Pv W0 w O A OP cb nb pm nm c)(d:zl N T w w')(e:∀b,A b\/OP b\/b=cb->¬N b)(i:5∉T):Pv W0 w' O A OP cb nb pm nm c:=by
 obtain⟨C,g,f⟩:=h.aC;exact⟨λb a=>⟨(h.own b a).1,zq (h.own b a).2.1 d.size,(h.own b a).2.2⟩,h.sep,h.bS,h.bT,⟨C,d.stay g (e cb (.inr (.inr rfl))),f⟩,h.aV.stay d (λb a=>e b (.inr (.inl a))) i (λ_ h=>h),h.aM.stay d (λb a=>e b (.inl a)) (λ_ h=>h)⟩
def Pv.grow (h:Pv W0 w O A OP cb nb pm nm c)(d:∀b,A b\/OP b\/b=cb->¬O' b):Pv W0 w O' A OP cb nb pm nm c:=
 ⟨λb a=>⟨(h.own b a).1,(h.own b a).2.1,d b a⟩,h.sep,h.bS,h.bT,h.aC,h.aV,h.aM⟩
def Sh.past {n:Nt}(h:Sh W0 w O nb db d n)(a:zl G T w w')(l:∀k,G k->W0.heap.size<=k)(e:144∉T)(f:125∉T)(g:148∉T)(i:155∉T)(j:3∉T):Sh W0 w' O nb db d n:=
 ⟨h.base.trans (a.below l h.base.size),λb c=>⟨(h.own b c).1,zq (h.own b c).2 a.size⟩,h.aG.stay a e f,h.al.aj a g i j,h.st⟩
def Tg {s:Nat}{n:Nat}{b:List Value}(h:w.ownsRow B e s v n b):IU (λk=>v.ownBlock=some k) [e] w:=by
 intro k a;obtain⟨c,x,e⟩:=Ti h a;exact⟨c,_,x,e,by simp⟩
def Rc {s:Nat}{n:Nat}{d:List Value}(h:w.ownsRow B e s v n d):∀k,v.ownBlock=some k->B<=k:=by
 intro k a;rcases h.2 with ⟨rfl,_⟩|⟨g,b,c,rfl,f,-⟩
 ·simp[Value.ownBlock]at a
 ·simp only[Value.ownBlock,zn]at a;omega
def Di.more (h:Di A A' w w1)(c:w1.heap.size<=w2.heap.size):Di A A' w w2:=⟨h.1,λb a=>(h.2 b a).imp id (λh=>⟨h.1,by omega⟩)⟩
def CR.past {P:(Nat->Prop)->Prop}(h:CR W0 w w1 O A OP cb nb db pm nm d c' n' P)(b:zl G T w1 w2)(f:IU G T' w1)(g:∀k,G k->w.heap.size<=k)(B:W0.heap.size<=w.heap.size)(l:MeN∉T')(m:FC∉T')(n:Bd∉T')(o:MeP∉T')(p:Gu∉T')
 (u:144∉T) (v:125∉T) (x:148∉T) (y:155∉T) (z:3∉T) (e:5∉T\/∀a,P a->MA w2 a pm c'.room c'.proved) {P':(Nat->Prop)->Prop}(s:∀a,P a->P' a):CR W0 w w2 O A OP cb nb db pm nm d c' n' P':=by
 obtain⟨j,a,q,r,c,i⟩:=h.rest;refine⟨h.aj.apart b g,⟨j,a,q.more b.size,r.more b.size,c.past b f l m n ?_,s _ i⟩,h.sh.past b (λk t=>by have:=g k t;omega) u v x y z⟩;rcases e with e|e
 ·exact c.aV.past b f o p e
 ·exact e a i
def CR.bN {P P':(Nat->Prop)->Prop}(h:CR W0 w w1 O A OP cb nb db pm nm d c' n' P)(g:∀a,P a->P' a):CR W0 w w1 O A OP cb nb db pm nm d c' n' P':=by
 obtain⟨c,a,e,f,b,i⟩:=h.rest;exact⟨h.aj,⟨c,a,e,f,b,g _ i⟩,h.sh⟩
def CR.below {P:(Nat->Prop)->Prop}(h:CR W0 w w1 O A OP cb nb db pm nm d c' n' P)(a:W0.heap.size<=w.heap.size)(b:zc w1 w2):CR W0 w w2 O A OP cb nb db pm nm d c' n' P:=
 h.past (G:=λ_=>False) (T:=[]) (T':=[]) (.aa b) (λ_ h=>h.elim) (λ_ h=>h.elim) a (by simp) (by simp) (by simp) (by simp) (by simp) (by simp) (by simp) (by simp) (by simp) (by simp) (.inl (by simp)) (λ_ h=>h)
end Go.Proofs.YtfdbeldiomkdiaaGreatDoor
