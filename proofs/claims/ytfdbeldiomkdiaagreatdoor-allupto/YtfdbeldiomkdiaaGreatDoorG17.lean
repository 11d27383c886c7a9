import Derived.Test.YtfdbeldiomkdiaaGreatDoorG16
set_option maxHeartbeats 8000000
set_option maxRecDepth 100000
set_option linter.all false
namespace Go.Proofs.YtfdbeldiomkdiaaGreatDoor
open Go.RowKit Go.Proofs.Tryz
variable {O:Nat->Prop}{at_:Nat->Addr}{db j lb:Nat}{lk:Lk}{w w':World}
def Eg (a:Nat->Addr)(i:Nat):Value:=.iface 392 (.pointer (some (a i)))
def lok {l:Lg}(h:Ak w O db lb l):∃a b,(w.heap[lb]?=some (.cells (Ge db (.slice a l.es.length b) l) 200 (0,0)))/\KB w 0 (.slice a l.es.length b) l.es/\(∀g,(Value.slice a l.es.length b).ownBlock=some g->O g)/\O lb:=by
 obtain⟨i,d,e,c,f⟩:=h;obtain⟨a,b,rfl⟩:=Ia c;exact⟨a,b,e,c,f,d⟩
def Chk (t a:zb)(n l o p q r s u v:Int)(b:Bool):Prop:=(∃(m:Nat) (d e f g h i j k:UInt8),vq t a m [d,e,f,g,h,i,j,k]/\n=m/\l=d.toNat/\o=e.toNat/\p=f.toNat/\q=g.toNat/\r=h.toNat/\s=i.toNat/\u=j.toNat/\v=k.toNat/\b=true)\/((∀n c,¬vq t a n c)/\b=false)
def Qq (t a:zb)(B:t.length<=1048576)(A:a.length<=9223372036854775807)(w:World)(E:DW w):
  Calls prog 84 #[.string ⟨t.toArray⟩,.string ⟨a.toArray⟩] w λr e=>zc w e/\∃(n f g h i j k l o:Int) (b:Bool),r=.returned (.tuple #[.agg #[.int .i64 n,.int .u8 f,.int .u8 g,.int .u8 h,.int .u8 i,.int .u8 j,.int .u8 k,.int .u8 l,.int .u8 o],.bool b])/\Chk t a n f g h i j k l o b:=by
 refine(Oa t a B A w E).mono ?_;rintro r e ⟨d,⟨m,p,q,s,u,v,x,y,z,c,rfl⟩|⟨c,rfl⟩⟩
 ·exact⟨d,_,_,_,_,_,_,_,_,_,_,rfl,.inl ⟨m,p,q,s,u,v,x,y,z,c,rfl,rfl,rfl,rfl,rfl,rfl,rfl,rfl,rfl,rfl⟩⟩
 ·exact⟨d,_,_,_,_,_,_,_,_,_,_,rfl,.inr ⟨c,rfl⟩⟩
def zmf {w:Nat}{c:za}(h:Df lk j w=some c):∀e∈c,e.length<=20:=by
 unfold Df at h;cases e:lk (qz (-1) j w)with
 |none=>rw[e]at h;simp at h
 |some d =>
  rw[e]at h;simp only at h;cases a:DV d with
  |none=>rw[a]at h;simp at h
  |some x =>
   rw[a]at h;simp only at h;split at h
   ·obtain rfl:x=c:=by simpa using h
    unfold DV at a;cases f:Xz d with
    |none=>rw[f]at a;simp at a
    |some y =>
     rw[f]at a;simp only at a;split at a
     ·rename_i b;obtain rfl:y=x:=by simpa using a
      simp only[Iz,A3,ja,AW]at b;exact b.2.2
     ·simp at a
   ·simp at h
def zke {n:Nat}:∀{k:Nat}{d:za},E3 lk n k=some d->∀e∈d,e.length<=20
 |0,d,h=>by
  obtain rfl:[]=d:=by simpa[E3]using h
  intro e f;simp at f
 |k+1,d,h=>by
  unfold E3 at h;cases e:E3 lk n k with
  |none=>rw[e]at h;simp at h
  |some x =>
   rw[e]at h;obtain⟨b,c,rfl⟩:=zx.1 h;intro y a;rcases yj.1 a with a|a
   ·exact zke e y a
   ·exact zmf c y a
def jn (h:vj w at_)(b:zc w w'):vj w' at_:=by
 have c:∀{a:Addr}{v:Value},w.cell? a=some v->w'.cell? a=some v:=fun {a v} e=>by rw[b.cell (p:=a) (yf e)];exact e
 refine⟨c h.entry,c h.range,c h.check,c h.ak,c h.proof,c h.br,c h.failed,h.apart,λi f=>?_⟩;obtain⟨d,t,e⟩:=h.block i f;refine⟨d,t,?_⟩;rw[b.block _ (zg e)];exact e
def QL (a b:zb)(c:a.length=8)(d:b.length=8)(w:World):
  (binOp .neq 91 (.agg (hv a)) (.agg (hv b))).run prog w=.ok (.bool !Kh a b) w:=by
 have h:=Ln a b c d w;simp only[binOp]at h ⊢;cases e:(Op.equal 91 (.agg (hv a)) (.agg (hv b))).run prog w with
 |ok x f =>
  simp[e]at h ⊢;exact⟨by rw[<- h.1],h.2⟩
 |halt x f=>simp[e]at h
def ziv (O:Nat->Prop)(W:World)(an:Nat->Addr)(hE:DW W)(bJ:vj W an)(bH:∀k,O k->W.heap.size<=k)(db lb:Nat)(d:Dk)(l:Lg)(w:World)(hn:d.fs.length<=1000000000)(hl:∀f∈d.fs,f.2.length<=1048576)(hk:l.key.length<=9223372036854775807)(hc:Fz d)(hW:zc W w)(h:ym w O db d)(hL:Ak w O db lb l)(bd:l.live=true)(aN:l.es=[])
 (s:List Nat) (hs:IS (xr d.fs) s) (cJ:s.length<=100000) :
  Calls prog 127 #[.pointer (some ⟨lb,0,none⟩)] w λr w'=>∃(d':Dk) (ap:za),zl O rT w w'/\ym w' O db d'/\Ak w' (qv O w w') db lb {l with es:=ap}/\d'.fs=d.fs/\tk d'=tk d /\
   ((d'.hit=true/\∃p e,r=.returned e/\EF true p w.heap.size e w')\/(Fz d' /\
    ((r=.returned .nilIface/\∃n R,KR (xr d.fs) l.key n R/\E3 (xr d.fs) n ((n+3)/4)=some ap/\yy ap=R) \/
     (r=.returned (Eg an 2)/\∃t,xr d.fs CA=some t/\∀n R,¬vq t l.key n R) \/
     (∃n R k d0 g,KR (xr d.fs) l.key n R/\4*k<n/\E3 (xr d.fs) n k=some d0/\Df (xr d.fs) k (CD n k)=none/\r=.returned (DT g)/\w'.heap[g]?=some (.cells #[qy (qz (-1) k (CD n k)),Eg an 5] 180 (0,0))) \/
     (r=.returned (Eg an 4)/\∃n R,KR (xr d.fs) l.key n R/\E3 (xr d.fs) n ((n+3)/4)=some ap/\yy ap≠R)))):=by
 have HL:=ze hl;have HD:=ze h;have aZ:=ze hL;have HW:=ze hW;have HC:=ze hc;have HO:=ze bH;have bE:=ze hE;have aB:=ze bJ;have HS:=ze hs;have ab:=ze aN;clear hl h hL hW hc bH hE hs bJ aN;obtain⟨a,a5,V,av,hg,hO⟩:=lok aZ.o;have HB:=ze V;have bt:=ze av;obtain⟨⟨U,f0⟩,⟨c1,f1⟩,⟨c2,f2⟩,-⟩:=Jr V;rw[bd]at U;clear V av hg;have q:∀(w:World) (a:Option Addr) (n c n' c':Nat),(binOp .eql 94 (.slice a n c) (.slice none n' c')).run prog w=.ok (.bool a.isNone) w:=λw a n c n' c'=>EZ w _ _ a n c n' c' underlying94;go_enter func127,ntmps127;go_wp2_with fail;refine(QD O db lb d CA w hn (λf hf=>zt (HL.o f hf) (by omega)) HD.o U).mono ?_;rintro r E ⟨v,e,rfl,J,M,bO,aH⟩;have al:=ze M;have K:=ze bO;have aY:=ze J;have D:=ze (aZ.o.stay M (by decide) (by decide) (by decide));have aS:=ze (M.keep HB.o (by decide));clear M bO;rcases Bw J with ⟨A,rfl⟩|⟨A,g,rfl⟩
 ·have af:Hid (Fz (qu d)):=by
   rcases Eo HC.o with ⟨-,h⟩|⟨h,-⟩
   ·exact h
   ·simp[Jy,h]at A
  have az:=ze (Yq A aH);clear J A aH;rcases Kk az.o with ⟨hx,rfl⟩|⟨t,ga,gn,gc,hx,rfl⟩
  ·have HX:=ze hx;clear hx
   go_wp2
   go_ret;refine⟨qu d,[],al.o.bg,K.o,?_,je d,Fo d,.inr ⟨af.o,.inl ⟨rfl,0,hash [],.inl ⟨HX.o,rfl,rfl⟩,rfl,Dd _ _ rfl⟩⟩⟩;have:=D.o.mono (O':=qv O w E) (λ_ h=>.inl h);rw[<- ab.o];exact this
  ·have HX:=ze hx;have b8:Bq E (.slice (some ga) gn gc) t:=by
    rcases az.o with ⟨t',e,V⟩|⟨-,e⟩
    ·rw[hx]at e;obtain rfl:t=t':=by simpa using e
     exact V
    ·simp at e
   have ca:t.length<=1048576:=HL.o (CA,t) (L6 hx);have bz:=ze b8;obtain⟨-,⟨k1,z1⟩,-⟩:=Jr aS.o;have aQ:=zg aS.o;clear hx b8 U c1 c2 f0 f1 f2;have aX:=ze (DW.aj bE.out HW.o al.o HO.o)
   go_upto_region 4 with fail
   have bb:∀W',zc E W'->(convert 94 9 (.slice (some ga) gn gc)).run prog W'=.ok (.string ⟨t.toArray⟩) W':=λW' V=>(bz.o.below V).conv;have bM:=bb _ ((zu _ E).drew);have bN:∀o,(convert 94 9 (.slice (some ga) gn gc)).run prog (E.alloc o).drew=.ok (.string ⟨t.toArray⟩) (E.alloc o).drew:=λo=>bb _ (zi E o).drew;have cL:∀o,(E.alloc o).cell? ⟨lb,1,none⟩=some (.string ⟨l.key.toArray⟩):=λo=>by rw[xg _ _ ⟨_,1,none⟩ aQ];exact k1
   have aC:Hid (zc E E.drew):=(zu _ _).drew;have aD:Hid (∀o,zc E (E.alloc o).drew):=λo=>(zi _ _).drew;clear bb;go_cut [5,6] from 13 to 37 (λs5 s6 wx=>∃(B:Nat) (n y0 y1 y2 y3 y4 y5 y6 y7:Int) (b:Bool),s5=.pointer (some ⟨B,0,none⟩)/\wx.heap[B]?=some (.cells #[.int .i64 n,.int .u8 y0,.int .u8 y1,.int .u8 y2,.int .u8 y3,.int .u8 y4,.int .u8 y5,.int .u8 y6,.int .u8 y7] 120 (0,0))/\E.heap.size<=B/\zc E wx/\s6=.bool b/\Chk t l.key n y0 y1 y2 y3 y4 y5 y6 y7 b)
   case first =>
    clear hn bd HD aZ K D af az HX HL HS ab aY HC cJ z1 hO q
    go_region_with (first
     |(go_at_call 84;refine(Qq t l.key ca hk E.drew (by exact aX.o.1.below aC.out)).mono ?_;rintro r Q ⟨C,n,y0,y1,y2,y3,y4,y5,y6,y7,b,rfl,N⟩;have I:zc E Q:=(aC.out).trans (C.mono (aC.out).size);have G:=ze I;have aV:=ze N;clear C I N)
     |(go_at_call 84;refine(Qq t l.key ca hk (E.alloc (.cells z9v 120)).drew (by exact aX.o.1.below (aD.out _))).mono ?_;rintro r Q ⟨C,n,y0,y1,y2,y3,y4,y5,y6,y7,b,rfl,N⟩;have I:zc E Q:=((aD.out _)).trans (C.mono ((aD.out _)).size);have G:=ze I;have aV:=ze N;have Y:Q.heap[E.heap.size]?=some (.cells z9v 120 (0,0)):=(by rw[C.block _ (by show E.heap.size<(E.heap.push _).size;simp)];exact zf E _);obtain⟨x0,x1,x2,x3,x4,x5,x6,x7,x8⟩:=Kd Y;have xz:=Ur Y;have cs:=ze Y;clear Y;clear C I N))
    all_goals go_wp2_with fail
    all_goals go_meet
    all_goals first
     |(have hN:=cs.o;exact⟨E.heap.size,n,y0,y1,y2,y3,y4,y5,y6,y7,b,rfl,Ww (.int .i64 n) (.int .u8 y0) (.int .u8 y1) (.int .u8 y2) (.int .u8 y3) (.int .u8 y4) (.int .u8 y5) (.int .u8 y6) (.int .u8 y7) hN,zk _,QQ G.o (zk _) (.int .i64 n) (.int .u8 y0) (.int .u8 y1) (.int .u8 y2) (.int .u8 y3) (.int .u8 y4) (.int .u8 y5) (.int .u8 y6) (.int .u8 y7),rfl,aV.o⟩)
     |exact⟨Q.heap.size,n,y0,y1,y2,y3,y4,y5,y6,y7,b,rfl,zf _ _,G.o.size,G.o.alloc G.o.size _,rfl,aV.o⟩
   case rest =>
    obtain⟨B,n,y0,y1,y2,y3,y4,y5,y6,y7,b,rfl,hB,cB,ba,rfl,N⟩:=hcut;clear bM bN cL aC aD k1 z1 q aX az bz;have M:zl O Oi w wc:=al.o.ah ba;have a3:=ze M;have a8:zl O [] E wc:=.aa ba;have aW:=ze (K.o.stay a8 (by decide) (by decide));have a0:=ze (D.o.stay a8 (by decide) (by decide) (by decide));have ae:=ze (HW.o.trans (M.below HO.o HW.o.size));have ad:=ze hB;clear al K D aS aQ ba a8 M hB cB;rcases N with ⟨m,b0,b1,b2,b3,b4,b5,b6,b7,b9,rfl,rfl,rfl,rfl,rfl,rfl,rfl,rfl,rfl,rfl⟩|⟨bY,rfl⟩
    ·have a2:=ze b9;clear b9;have bS:=(jn aB.o ae.o).br
     go_wp2
     go_loopg [7,8,9,10,11,12] (m+1) (λgg _ _ _ _ _ _ wr=>∃(k:Nat) (d1:Dk) (z:za),m+1-4*k<=gg/\4*k<m+4/\E3 (xr d.fs) m k=some z/\zl O rT w wr/\ym wr O db d1/\Ak wr (qv O w wr) db lb {l with es:=z}/\d1.fs=d.fs/\tk d1=tk d/\Fz d1/\wr.heap[B]?=some (.cells (tv m b0 b1 b2 b3 b4 b5 b6 b7) 120 (0,0)))
     case atStart=>exact⟨0,qu d,[],by omega,by omega,rfl,a3.o.bg,aW.o,by have:=a0.o.mono (O':=qv O w wc) (λ_ h=>.inl h);rw[<- ab.o];exact this,je d,Fo d,af.o,ad.o⟩
     case round =>
      clear a3 aW a0 af ad bS ae;obtain⟨k,d1,z,cY,bU,aG,ht,hd,bc,bQ,cb,bL,hB⟩:=hrel;have aP:=LL aG bU;have cP:=(Kv HS.o aG bU).1;have HT:=ze ht;have K:=ze hd;have HF:=ze (And.intro bQ cb);have ax:=ze bL;have ak:=ze aG;have ad:=ze hB;have D:=ze bc;have aw:=ze (HW.o.trans (ht.below HO.o HW.o.size));have ai:=ze aP;have c3:z.length<=4*k:=by omega
      have cQ:z.length<=m:=by omega
      have c5:z.length<=400000:=by omega
      obtain⟨a,a5,V,av,hg,hO⟩:=lok bc;obtain⟨⟨U,f0⟩,-,⟨c2,f2⟩,-⟩:=Jr V;obtain⟨n0,n1,n2,n3,n4,n5,n6,n7,n8⟩:=Kd hB;simp only at U c2;have bt:=ze av;have cm:=ze V;clear aG ht hd bc bQ cb bL aP hB V av hg hO n1 n2 n3 n4 n5 n6 n7 n8 f0 f2
      by_cases c4:z.length<m
      ·have bW:(z.length:Int)<(m:Int):=by omega
       go_wp2
       go_quiet (fail)
       go_upto_region 8 with fail
       have cH:min ((m:Int)-(z.length:Int)) 4=((CD m k:Nat):Int):=by have:=ai.o;unfold CD;omega
       go_cut [7] from 38 to 93 (λs7 wx=>s7=.int .i64 (CD m k:Nat)/\zc wr wx)
       case first =>
        have cU:wrap64 ((m:Int)-(z.length:Int))=(m:Int)-(z.length:Int):=by have:=a2.o.1;unfold wrap64;omega
        go_region
        all_goals go_wp2_with fail
        all_goals go_meet
        all_goals exact⟨rfl,⟨rfl,rfl,rfl,zk _,λ_ _=>rfl⟩⟩
       case rest =>
        obtain⟨rfl,au⟩:=hcut;have ar:zl O [] wr wc:=.aa au;have cx:Hid (zl O rT w wc):=HT.o.ah au;have ck:=ze (K.o.stay ar (by decide) (by decide));have cq:=ze ((D.o.stay ar (by decide) (by decide) (by decide)).mono (qv.more au.size));have cj:=ze (ar.keep ad.o (by decide));have aq:=aw.o.trans (au.mono aw.o.size);have aL:=ze aq;have bF:=bE.out.below aq;have cn:=ze (ar.keep cm.o (by decide));have cR:4*k<=z.length:=by have:=ai.o;omega
        have cZ:k<=100000:=by omega
        clear ar au cH c2 U n0 aq;obtain⟨⟨U,-⟩,-,⟨c2,f2⟩,-⟩:=Jr cn.o;simp only at U c2;rw[bd]at U;have c6:1<=CD m k:=by unfold CD;omega
        have c7:CD m k<=4:=by unfold CD;omega
        go_wp2_with fail;rw[show((z.length:Int)/4)=(k:Int) by omega];refine(Iv (-1) k (CD m k) (by omega) wc bF).mono ?_;rintro r Q ⟨rfl,C⟩;have L:zl O [] wc Q:=.aa C;have bD:Q.cell? ⟨lb,0,none⟩=some (UN db true):=by rw[C.cell (p:=⟨lb,0,none⟩) (yf U)];exact U
        have am:Hid (zl O rT w Q):=cx.o.ah C;have ay:=ze (ck.o.stay L (by decide) (by decide));have aA:=ze ((cq.o.stay L (by decide) (by decide) (by decide)).mono (qv.more C.size));have bl:=ze (L.keep cj.o (by decide));have aJ:=ze (aL.o.trans (C.mono aL.o.size));clear C L bF c2 f2;go_wp2_with fail;refine(QD O db lb d1 (qz (-1) k (CD m k)) Q (by rw[HF.o.1];exact hn) (by rw[HF.o.1];exact λf hf=>zt (HL.o f hf) (by omega)) ay.o bD).mono ?_;rintro r w3 ⟨v,e,rfl,J,Z,bP,aI⟩;have bB:Hid (zl O rT w w3):=am.o.trans (Z.bg.mono (λ_ h=>.inl h) (λ_ h=>h));have bq:=ze bP;have bw:=ze ((aA.o.stay Z (by decide) (by decide) (by decide)).mono (qv.more Z.size));have bm:=ze (Z.keep bl.o (by decide));have aK:=ze (aJ.o.trans (Z.below HO.o aJ.o.size));have aM:=ze (J.weaken am.o.size);have T:Hid ((qu d1).fs=d.fs/\tk (qu d1)=tk d):=⟨(je d1).trans HF.o.1,(Fo d1).trans HF.o.2⟩;clear Z bP U bD;rcases Bw J with ⟨A,rfl⟩|⟨A,g,rfl⟩
        ·have bo:Hid (Fz (qu d1)):=by
          rcases Eo ax.o with ⟨-,h⟩|⟨h,-⟩
          ·exact h
          ·simp[Jy,h]at A
         have bu:=ze (Yq A aI);clear J A aI;obtain⟨va,vn,vc,rfl⟩:∃a n c,v=.slice a n c:=by
          rcases Kk bu.o with ⟨-,rfl⟩|⟨_,_,_,_,-,rfl⟩
          ·exact⟨_,_,_,rfl⟩
          ·exact⟨_,_,_,rfl⟩
         go_wp2_with fail;refine(OJ (CD m k) (.slice va vn vc) _ w3 bu.o).mono ?_;rintro r w4 ⟨H,hr⟩;rw[HF.o.1,zjz]at hr;have aF:zl O [] w3 w4:=.aa H;have bC:Hid (zl O rT w w4):=bB.o.ah H;have bs:=ze (bq.o.stay aF (by decide) (by decide));have aE:=(bw.o.stay aF (by decide) (by decide) (by decide)).mono (qv.more H.size);have co:=ze aE;have bn:=ze (aF.keep bm.o (by decide));have bk:=ze (aK.o.trans (H.mono aK.o.size));clear aF H;rcases hr with ⟨b,y,F,rfl,be⟩|⟨F,rfl⟩
         ·have cD:=(Hr F).1;obtain⟨ya,yc,rfl⟩:=Ia be;obtain⟨gb,rfl,-⟩:=Md be (by omega);have cw:Hid (E3 (xr d.fs) m (k+1)=some (z++b)):=by
           show E3 (xr d.fs) m (k+1)=_;rw[E3,ak.o];simp only[F,OQ]
          have cN:b.length<=4:=by omega
          have cO:1<=b.length:=by omega
          have bj:=ze F;obtain⟨a4,ao,H,aO,bR,bG⟩:=lok aE;obtain⟨-,-,⟨c2,f2⟩,-⟩:=Jr H;simp only at c2 aO;obtain⟨i,hi,bT⟩:=zx.1 JH;obtain⟨ce,cf,cg⟩:i.zero=some (.slice none 0 0)/\i.size=1/\i.bytes=24:=by simpa using bT
          clear bT;have HI:=ze hi;have HZ:=ze (And.intro ce (And.intro cf cg));clear hi ce cf cg;obtain⟨xs,bZ,cd⟩:=aO;obtain⟨ys,bf,bh⟩:=be;have bi:ys.length=b.length:=by rw[bf.1,Ba]
          have Y:Hid (∀j u,ys[j]?=some u->w4.cell? ((⟨gb,0,none⟩:Addr).add j)=some u):=λj u hj=>bf.cells rfl _ _ hj;have cI:Hid (∀u∈ys,u.oneCell'=true):=λu hu=>by
           obtain⟨j,hj,rfl⟩:=ji hu;obtain⟨x,hx,cK⟩:=bh j (by omega);rw[zo hj]at hx;obtain rfl:ys[j]=x:=by simpa using hx
           exact QS cK _ (by simp)
          have a1:=ze bZ;have cy:=ze cd;have cz:=ze bh;have cA:=ze bi;have aU:=ze H;have cl:=ze bR;have ct:=ze bG;have cE:Hid (ys.length=b.length*1):=by show _=_;rw[bi];omega
          have bx:Hid (∀w5,w4.grownBy w5 (Value.slice a4 z.length ao).ownBlock->w5.heap[lb]?=some (.cells (Ge db (.slice a4 z.length ao) {key:=l.key,es:=z,put:=l.put,live:=l.live}) 200 (0,0))):=λw5 cG=>by
           rw[cG.block lb (zg aU.o) (λe=>?_)]
           ·exact aU.o
           ·rcases a1.o.2 with ⟨h,-⟩|⟨g,cp,cV,h,-,hg,-⟩
            ·simp at h;rw[h.1]at e;simp[Value.ownBlock]at e
            ·simp at h;rw[h.1]at e;simp only[Value.ownBlock,zn]at e;subst e;have:=aU.o;rw[hg]at this;simp at this
          clear cD F H bR bG bZ cd bf bh bi aE;go_wp2_with (at_builtin;refine jf _ rfl _ _ _ rfl 0 94 i (.slice none 0 0) 1 24 underlying88 HI.o HZ.o.1 HZ.o.2.1 HZ.o.2.2 rfl (by omega) (.slice a4 z.length ao) z.length xs rfl a1.o ⟨gb,0,none⟩ b.length yc ys rfl cE.out Y.out cI.out (by omega) (by unfold maxLen;omega) (by omega) (by omega) w4.heap.size rfl ?_;intro g5 cM w5 aR P bK cS;have a9:=bx.o w5 P;obtain⟨-,-,⟨k5,z5⟩,-⟩:=Jr a9;have cu:=ze aR;have ag:=ze P;have ch:=ze bK;have ci:=ze a9;clear aR P bK a9)
          go_roundg (gk-1)
          case rel =>
           have S:=Km (l:=l) (b:=b) (hv:=0) bC.o ct.o cl.o a1.o cy.o cz.o (yk _) cA.o cu.o ⟨ag.o.os,ag.o.tape,ag.o.output,ag.o.size,ag.o.block⟩ ch.o ci.o;refine⟨k+1,qu d1,z++b,by omega,by omega,cw.o,S.1,S.2.2.1 _ bs.o,S.2.1,T.o.1,T.o.2,bo.o,S.2.2.2.keep bn.o (by decide)⟩
          case measure=>omega
         ·have bj:=ze F;have bS:=(jn aB.o bk.o).br;clear F aE
          go_wp2
          go_ret;have a7:zl O [] w4 (w4.alloc (.cells #[qy (qz (-1) k (CD m k)),Eg an 5] 180)):=(zl.refl _ _ _).alloc _;refine⟨qu d1,z,bC.o.alloc _,bs.o.stay a7 (by decide) (by decide),(co.o.stay a7 (by decide) (by decide) (by decide)).mono (qv.more a7.size),T.o.1,T.o.2,.inr ⟨bo.o,.inr (.inr (.inl ⟨m,_,k,z,w4.heap.size,.inr ⟨t,HX.o,a2.o⟩,by omega,ak.o,bj.o,rfl,zf _ _⟩))⟩⟩
        ·have HH:Hid ((qu d1).hit=true):=by
          rcases Eo ax.o with ⟨h,-⟩|⟨-,h⟩
          ·rw[Jy,h]at A;simp at A
          ·exact h
         rw[A]at aM;obtain⟨va,vn,vc,rfl⟩:=JE aI;clear J A aI
         go_wp2
         go_ret;exact⟨qu d1,z,bB.o,bq.o,bw.o,T.o.1,T.o.2,.inl ⟨HH.o,_,_,rfl,aM.o⟩⟩
      ·have bW:¬(z.length:Int)<(m:Int):=by omega
       go_wp2
       go_quiet (fail)
       go_wp2_with fail;obtain⟨n0,n1,n2,n3,n4,n5,n6,n7,n8⟩:=Kd ad.o;obtain⟨r0,r1,r2,r3,r4,r5,r6,r7,hR⟩:=XC (j7 z.length z) (j5 _ _);have bI:hv (j7 z.length z)=#[.int .u8 r0.toNat,.int .u8 r1.toNat,.int .u8 r2.toNat,.int .u8 r3.toNat,.int .u8 r4.toNat,.int .u8 r5.toNat,.int .u8 r6.toNat,.int .u8 r7.toNat]:=by rw[hR];rfl
       have HR:=ze hR;have cv:=ze bI;clear hR bI;have bX:∀X,(binOp .neq 91 (.agg #[.int .u8 r0.toNat,.int .u8 r1.toNat,.int .u8 r2.toNat,.int .u8 r3.toNat,.int .u8 r4.toNat,.int .u8 r5.toNat,.int .u8 r6.toNat,.int .u8 r7.toNat]) (.agg #[.int .u8 b0.toNat,.int .u8 b1.toNat,.int .u8 b2.toNat,.int .u8 b3.toNat,.int .u8 b4.toNat,.int .u8 b5.toNat,.int .u8 b6.toNat,.int .u8 b7.toNat])).run prog X=.ok (.bool !Kh [r0,r1,r2,r3,r4,r5,r6,r7] [b0,b1,b2,b3,b4,b5,b6,b7]) X:=λX=>QL [r0,r1,r2,r3,r4,r5,r6,r7] [b0,b1,b2,b3,b4,b5,b6,b7] rfl rfl X;have cC:Hid (∀X,zc wr X->(λX=>X.cell? ⟨lb,2,none⟩=some (.slice a z.length a5)/\X.cell? ⟨B,1,none⟩=some (.int .u8 (b0.toNat:Int))/\X.cell? ⟨B,2,none⟩=some (.int .u8 (b1.toNat:Int))/\X.cell? ⟨B,3,none⟩=some (.int .u8 (b2.toNat:Int))/\X.cell? ⟨B,4,none⟩=some (.int .u8 (b3.toNat:Int))/\X.cell? ⟨B,5,none⟩=some (.int .u8 (b4.toNat:Int))/\X.cell? ⟨B,6,none⟩=some (.int .u8 (b5.toNat:Int))/\X.cell? ⟨B,7,none⟩=some (.int .u8 (b6.toNat:Int))/\X.cell? ⟨B,8,none⟩=some (.int .u8 (b7.toNat:Int))) X):=λX V=>by
        have cc:∀{p:Addr}{v:Value},wr.cell? p=some v->X.cell? p=some v:=fun {p v} h=>by rw[V.cell (yf h)];exact h
        exact⟨cc c2,cc n1,cc n2,cc n3,cc n4,cc n5,cc n6,cc n7,cc n8⟩
       have a6:Hid (∀q,zc wr (wr.drewN q).drew):=λq=>⟨rfl,rfl,rfl,zk _,λ_ _=>rfl⟩
       go_region_held3 (λX=>X.cell? ⟨lb,2,none⟩=some (.slice a z.length a5)/\X.cell? ⟨B,1,none⟩=some (.int .u8 (b0.toNat:Int))/\X.cell? ⟨B,2,none⟩=some (.int .u8 (b1.toNat:Int))/\X.cell? ⟨B,3,none⟩=some (.int .u8 (b2.toNat:Int))/\X.cell? ⟨B,4,none⟩=some (.int .u8 (b3.toNat:Int))/\X.cell? ⟨B,5,none⟩=some (.int .u8 (b4.toNat:Int))/\X.cell? ⟨B,6,none⟩=some (.int .u8 (b5.toNat:Int))/\X.cell? ⟨B,7,none⟩=some (.int .u8 (b6.toNat:Int))/\X.cell? ⟨B,8,none⟩=some (.int .u8 (b7.toNat:Int))) (go_keep) (first|(go_at_call 59;refine(I8 z.length _ z (wr.drewN nq).drew (zk _) (by omega) (by intro e cF;exact zt (zke ak.o e cF) (by unfold maxLen;omega)) (by exact(bt.o.bss'.below (a6.out nq)))).mono ?_;rintro r Q ⟨rfl,C⟩;rw[cv.o];have I:zc wr Q:=(a6.out nq).trans (C.mono (a6.out nq).size);obtain⟨q0,q1,q2,q3,q4,q5,q6,q7,q8⟩:=cC.out Q I;have G:=ze I;clear C I))
       have am:Hid (zl O rT w Q):=HT.o.ah G.o;have L:zl O [] wr Q:=.aa G.o;have ay:=ze (K.o.stay L (by decide) (by decide));have aA:=ze ((D.o.stay L (by decide) (by decide) (by decide)).mono (qv.more G.o.size));have cX:=(jn aB.o (aw.o.trans (G.o.mono aw.o.size))).proof;have bV:Hid (k=(m+3)/4):=by show _=_;have:=ai.o;omega
       have bp:Hid (KR (xr d.fs) l.key m [b0,b1,b2,b3,b4,b5,b6,b7]):=.inr ⟨t,HX.o,a2.o⟩;have bA:Hid (yy z=[r0,r1,r2,r3,r4,r5,r6,r7]):=HR.o;clear L q0 q1 q2 q3 q4 q5 q6 q7 q8 c2 U n0 n1 n2 n3 n4 n5 n6 n7 n8 bX;cases hq:Kh [r0,r1,r2,r3,r4,r5,r6,r7] [b0,b1,b2,b3,b4,b5,b6,b7]with
       |true =>
        have HQ:Hid ([r0,r1,r2,r3,r4,r5,r6,r7]=[b0,b1,b2,b3,b4,b5,b6,b7]):=ze (Ch hq)
        go_wp2
        go_ret;exact⟨d1,z,am.o,ay.o,aA.o,HF.o.1,HF.o.2,.inr ⟨ax.o,.inl ⟨rfl,m,_,bp.o,by rw[<- bV.out];exact ak.o,by rw[bA.o];exact HQ.o⟩⟩⟩
       |false =>
        have HQ:Hid ([r0,r1,r2,r3,r4,r5,r6,r7]≠[b0,b1,b2,b3,b4,b5,b6,b7]):=by
         have:=of_decide_eq_false hq;exact this
        go_wp2
        go_ret;exact⟨d1,z,am.o,ay.o,aA.o,HF.o.1,HF.o.2,.inr ⟨ax.o,.inr (.inr (.inr ⟨rfl,m,_,bp.o,by rw[<- bV.out];exact ak.o,by rw[bA.o];exact HQ.o⟩))⟩⟩
    ·have cr:=ze bY;have cW:=(jn aB.o ae.o).check;clear bY
     go_wp2
     go_ret;refine⟨qu d,[],a3.o.bg,aW.o,?_,je d,Fo d,.inr ⟨af.o,.inr (.inl ⟨rfl,t,HX.o,cr.o⟩)⟩⟩;have:=a0.o.mono (O':=qv O w wc) (λ_ h=>.inl h);rw[<- ab.o];exact this
 ·have HH:Hid ((qu d).hit=true):=by
   rcases Eo HC.o with ⟨h,-⟩|⟨-,h⟩
   ·rw[Jy,h]at A;simp at A
   ·exact h
  rw[A]at aY;obtain⟨va,vn,vc,rfl⟩:=JE aH;clear J A aH
  go_wp2
  go_ret;refine⟨qu d,[],al.o.bg,K.o,?_,je d,Fo d,.inl ⟨HH.o,_,_,rfl,aY.o⟩⟩;have:=D.o.mono (O':=qv O w E) (λ_ h=>.inl h);rw[<- ab.o];exact this
def zhr (O:Nat->Prop)(W:World)(x:Nat->Addr)(hE:DW W)(Y:vj W x)(X:∀k,O k->W.heap.size<=k)(q:Nat)(d:Dk)(b:zb)(w:World)(hn:d.fs.length<=1000000000)(hl:∀f∈d.fs,f.2.length<=1048576)(hk:b.length<=9223372036854775807)(hc:Fz d)(hW:zc W w)(h:ym w O q d)
 (s:List Nat) (hs:IS (xr d.fs) s) (ap:s.length<=100000) :
  Calls prog 86 #[.iface 73 (BD q),qy b] w λr P=>∃(U:Dk),zl O rT w P/\ym P (qv O w P) q U/\U.fs=d.fs/\tk U=tk d /\
   ((U.hit=true/\∃p e,r=.returned (.tuple #[.pointer none,e])/\EF true p w.heap.size e P)\/(Fz U/\∃(y:Int) (p:zb) (es:za) (m:Nat),Io (xr d.fs) b y p es m /\
    ((y=0/\∃lb,r=.returned (.tuple #[.pointer (some ⟨lb,0,none⟩),.nilIface])/\w.heap.size<=lb/\Ak P (qv O w P) q lb {key:=b,es:=es,put:=0,live:=true}) \/
     (y=3/\r=.returned (.tuple #[.pointer none,Eg x 2]))\/(y=5/\r=.returned (.tuple #[.pointer none,Eg x 4])) \/
     (y=6/\∃g,r=.returned (.tuple #[.pointer none,DT g])/\P.heap[g]?=some (.cells #[qy p,Eg x 5] 180 (0,0)))))):=by
 have HD:=ze h;have HL:=ze hl;have HS:=ze hs;have Q:=ze hW;have HC:=ze hc;have HO:=ze X;have V:=ze hE;have aI:=ze Y;clear hl h hW hc X hE hs Y;unfold BD;have aO:qy b=.string ⟨b.toArray⟩:=rfl;rw[aO];go_enter func86,ntmps86;go_wp2_with fail;have aC:Hid (Ak (w.alloc (.cells #[.iface 73 (.pointer (some ⟨q,0,none⟩)),.string ⟨b.toArray⟩,.slice none 0 0,.int .i64 0] 200)) (qv O w (w.alloc (.cells #[.iface 73 (.pointer (some ⟨q,0,none⟩)),.string ⟨b.toArray⟩,.slice none 0 0,.int .i64 0] 200))) q w.heap.size {key:=b,es:=[],put:=0,live:=true}):=
  ⟨.slice none 0 0,.inr ⟨zk _,by simp⟩,zf _ _,KB.nil _ _,λg e=>by simp[Value.ownBlock]at e⟩
 have H:zl O rT w (w.alloc (.cells #[.iface 73 (.pointer (some ⟨q,0,none⟩)),.string ⟨b.toArray⟩,.slice none 0 0,.int .i64 0] 200)):=(zl.refl _ _ _).alloc _;have K:w.heap.size<=(w.alloc (.cells #[.iface 73 (.pointer (some ⟨q,0,none⟩)),.string ⟨b.toArray⟩,.slice none 0 0,.int .i64 0] 200)).heap.size:=H.size;have Z:zl O [] w (w.alloc (.cells #[.iface 73 (.pointer (some ⟨q,0,none⟩)),.string ⟨b.toArray⟩,.slice none 0 0,.int .i64 0] 200)):=(zl.refl _ _ _).alloc _;generalize (w.alloc (.cells #[.iface 73 (.pointer (some ⟨q,0,none⟩)),.string ⟨b.toArray⟩,.slice none 0 0,.int .i64 0] 200))=L at *;have az:Hid (ym L (qv O w L) q d):=(HD.o.stay Z (by decide) (by decide)).mono (λ_ h=>.inl h);have aE:Hid (∀k,qv O w L k->W.heap.size<=k):=qv.base HO.o Q.o.size;have aK:Hid (zc W L):=Q.o.trans (H.below HO.o Q.o.size);have aJ:=ze H;have D:=ze K;clear H Z K;refine(ziv (qv O w L) W x V.out aI.o aE.o q w.heap.size d _ L hn HL.o hk HC.o aK.o az.o aC.o rfl rfl s HS.o ap).mono ?_;rintro r E ⟨d1,N,I,ag,al,ai,aq,z⟩;have i:Hid (zl O rT w E):=aJ.o.trans I;have au:∀k,qv (qv O w L) L E k->qv O w E k:=qv.trans D.out I.size;have v:Hid (ym E (qv O w E) q d1):=ag.mono (λk hk=>qv.more I.size _ hk);have aA:=ze (al.mono au);have a:=ze (And.intro ai aq);have aF:Hid (∀k,qv O w E k->W.heap.size<=k):=qv.base HO.o Q.o.size;have aL:Hid (zc W E):=Q.o.trans (i.o.below HO.o Q.o.size);clear I ag al ai aq au;rcases z with ⟨hh,p,e,rfl,t⟩|⟨ae,z⟩
 ·have u:=ze hh;have M:=ze (t.weaken D.out);obtain⟨g,rfl⟩:∃g,e=.iface 178 (.pointer (some ⟨g,0,none⟩)):=by
   rcases Bw t with ⟨h,-⟩|⟨-,h⟩
   ·simp at h
   ·exact h
  clear hh t
  go_wp2
  go_ret2
  exact⟨d1,i.o,v.o,a.o.1,a.o.2,.inl ⟨u.o,p,_,rfl,M.o⟩⟩
 ·have F:=ze ae;clear ae;rcases z with ⟨rfl,n,R,l,c,B⟩|⟨rfl,an⟩|⟨n,R,k,d0,g,l,ak,c,ad,rfl,ao⟩|⟨rfl,n,R,l,c,B⟩
  ·have ay:=ze l;have aG:=ze c;have aH:=ze B;have aa:=Kv HS.o c (by omega);have aN:=LL c (by omega);have HJ:Hid (∀j,4*j<N.length->j∈s):=λj hj=>aa.2 j (by omega);clear l c B aa aN;go_wp2_with fail;refine(XM (qv O w E) W V.out aF.o q w.heap.size d1 _ E (by rw[a.o.1];exact hn) (by rw[a.o.1];exact λf hf=>zt (HL.o f hf) (by omega)) F.o aL.o v.o aA.o rfl s (by rw[a.o.1];exact HS.o) ap HJ.o).mono ?_;rintro r w2 ⟨d2,aM,J,ah,am,aj,ar,A⟩;have T:Hid (zl O rT w w2):=i.o.trans J;have av:∀k,qv (qv O w E) E w2 k->qv O w w2 k:=qv.trans i.o.size J.size;have S:Hid (ym w2 (qv O w w2) q d2):=ah.mono (λk hk=>qv.more J.size _ hk);have aB:=ze (am.mono av);have G:Hid (d2.fs=d.fs/\tk d2=tk d):=⟨aj.trans a.o.1,ar.trans a.o.2⟩;rw[a.o.1]at A;have C:=i.o.size;clear J ah am aj ar av;rcases A with ⟨hh,p,e,rfl,t⟩|⟨af,rfl,ab⟩
   ·have u:=ze hh;have M:=ze (t.weaken C);obtain⟨g,rfl⟩:∃g,e=.iface 178 (.pointer (some ⟨g,0,none⟩)):=by
     rcases Bw t with ⟨h,-⟩|⟨-,h⟩
     ·simp at h
     ·exact h
    clear hh t C
    go_wp2
    go_ret2
    exact⟨d2,T.o,S.o,G.o.1,G.o.2,.inl ⟨u.o,p,_,rfl,M.o⟩⟩
   ·have ax:=ze af;have aw:=ze ab;clear af ab C
    go_wp2
    go_ret2
    exact⟨d2,T.o,S.o,G.o.1,G.o.2,.inr ⟨ax.o,0,[],aM,n,.inr ⟨n,R,ay.o,.inr ⟨N,aG.o,.inr ⟨aH.o,aw.o,rfl,rfl,rfl⟩⟩⟩,.inl ⟨rfl,_,rfl,zk _,aB.o⟩⟩⟩
  ·have aD:=ze an;clear an;unfold Eg
   go_wp2
   go_ret2
   exact⟨d1,i.o,v.o,a.o.1,a.o.2,.inr ⟨F.o,3,[],[],0,.inl ⟨aD.o,rfl,rfl,rfl,rfl⟩,.inr (.inl ⟨rfl,rfl⟩)⟩⟩
  ·have u:=ze (And.intro l (And.intro ak (And.intro c (And.intro ad ao))));clear l ak c ad ao;unfold DT
   go_wp2
   go_ret2
   exact⟨d1,i.o,v.o,a.o.1,a.o.2,.inr ⟨F.o,6,_,[],0,.inr ⟨n,R,u.o.1,.inl ⟨k,d0,u.o.2.1,u.o.2.2.1,u.o.2.2.2.1,rfl,rfl,rfl,rfl⟩⟩,.inr (.inr (.inr ⟨rfl,g,rfl,u.o.2.2.2.2⟩))⟩⟩
  ·have u:=ze (And.intro l (And.intro c B));clear l c B;unfold Eg
   go_wp2
   go_ret2
   exact⟨d1,i.o,v.o,a.o.1,a.o.2,.inr ⟨F.o,5,[],[],0,.inr ⟨n,R,u.o.1,.inr ⟨N,u.o.2.1,.inl ⟨u.o.2.2,rfl,rfl,rfl,rfl⟩⟩⟩,.inr (.inr (.inl ⟨rfl,rfl⟩))⟩⟩
def zhs (W:World)(b:Nat->Addr)(c:vj W b)(a:zb):
  Calls prog 86 #[.nilIface,qy a] W λr e=>r=.returned (.tuple #[.pointer none,Eg b 6])/\zc W e:=by
 have f:=c.failed;unfold Eg;have d:qy a=.string ⟨a.toArray⟩:=rfl;rw[d];go_enter func86,ntmps86
 go_wp2
 go_region
 all_goals go_wp2_with fail
 all_goals go_ret2
 all_goals exact⟨rfl,(zu _ _).drew⟩
def Kj (O:Nat->Prop)(f d:Nat)(l:Lg)(w:World)(h:Ak w O f d l):
  Calls prog 214 #[.pointer (some ⟨d,0,none⟩)] w λr i=>r=.returned (.bool !l.live)/\i=w:=by
 obtain⟨a,e,g,-⟩:=lok h;obtain⟨⟨b,f0⟩,-⟩:=Jr g;cases c:l.live with
 |true =>
  rw[c]at b;unfold UN BD at b;simp only[if_true]at b;go_enter func214,ntmps214
  go_wp2
  go_ret;exact⟨rfl,rfl⟩
 |false =>
  rw[c]at b;unfold UN at b;simp only[vz,CM]at b;go_enter func214,ntmps214
  go_wp2
  go_ret;exact⟨rfl,rfl⟩
def zi2 (O:Nat->Prop)(d b:Nat)(l:Lg)(w:World)(h:Ak w O d b l):
  Calls prog 137 #[.pointer (some ⟨b,0,none⟩)] w λr f=>r=.returned (.int .i64 (l.es.length:Int))/\f=w:=by
 obtain⟨a,c,e,-⟩:=lok h;obtain⟨-,-,⟨g,f2⟩,-⟩:=Jr e;go_enter func137,ntmps137
 go_wp2
 go_ret;exact⟨rfl,rfl⟩
def Vn (l:Int)(d:-1<=l)(e:l<=30)(w:World):
  Calls prog 272 #[.int .i64 l] w λr c=>r=.returned (.int .i64 ((2*l.toNat:Nat):Int))/\c=w:=by
 by_cases a:l=-1
 ·subst a;go_enter func272,ntmps272
  go_wp2
  go_ret;exact⟨rfl,rfl⟩
 ·obtain⟨k,rfl⟩:=qc (show 0<=l by omega);have b:max (k:Int) 0=(k:Int):=by omega
  go_enter func272,ntmps272
  go_wp2
  go_ret;exact⟨congrArg (λx=>Ending.returned (.int .i64 x)) (by simp),rfl⟩
def Kr (l:Int):2^(2*l.toNat)=4^l.toNat:=by rw[Nat.pow_mul]
def OX (l:Int)(d:-1<=l)(e:l<=30)(n:Nat)(w:World):
  Calls prog 227 #[.int .i64 l,.int .i64 n] w λr f=>r=.returned (.int .i64 ((qx l n:Nat):Int))/\f=w:=by
 go_enter func227,ntmps227;go_wp2_with fail;refine(Vn l d e w).mono ?_;rintro r h ⟨rfl,rfl⟩;have c:=ze (Kr l);generalize g:2*l.toNat=b at *;have a:b<=60:=by omega
 go_wp2
 go_ret;refine⟨congrArg (λx=>Ending.returned (.int .i64 x)) ?_,rfl⟩;show((n:Int)/2^b)=((qx l n:Nat):Int);unfold qx;rw[<- c.o];simp
def VJ (l:Int)(k:0<=l)(m:l<=20)(n:Nat)(i:n*4^l.toNat<=1000000)(w:World):
  Calls prog 297 #[.int .i64 l,.int .i64 n] w λr j=>r=.returned (.int .i64 ((n*4^l.toNat:Nat):Int))/\j=w:=by
 rw[<- Kr l]at i ⊢;go_enter func297,ntmps297;go_wp2_with fail;refine(Vn l (by omega) (by omega) w).mono ?_;rintro r p ⟨rfl,rfl⟩;generalize e:2*l.toNat=b at *;have f:b<=60:=by omega
 have c:=ze e;clear e;have a:((n:Int)*2^b)=((n*2^b:Nat):Int):=by simp
 have g:(0:Int)<=(n:Int)*2^b:=by rw[a];omega
 have h:(n:Int)*2^b<=1000000:=by rw[a];omega
 have d:=ze a;clear a
 go_wp2
 go_ret;exact⟨by rw[c.o];exact congrArg (λx=>Ending.returned (.int .i64 x)) d.o,rfl⟩
end Go.Proofs.YtfdbeldiomkdiaaGreatDoor
