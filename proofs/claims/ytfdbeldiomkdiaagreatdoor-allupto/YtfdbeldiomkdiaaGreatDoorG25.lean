import Derived.Test.YtfdbeldiomkdiaaGreatDoorG24
set_option maxHeartbeats 8000000
set_option maxRecDepth 100000
set_option linter.all false
namespace Go.Proofs.YtfdbeldiomkdiaaGreatDoor
open Go.RowKit Go.Proofs.Tryz
def Sr (v:Value)(u:Fs)(af:zb)(w:World)(hn:u.length<=1000000000)(hl:∀f∈u,f.2.length<=1048576)(hk:af.length<=2097152)(h:Mr w v u)(s:List Nat)(hs:IS (xr u) s)(bd:s.length<=100000):
  Calls prog 96 #[v,qy af] w λr w'=>zc w w'/\∃(ev:Value) (aP:Int) (p:zb) (es:za) (m:Nat),Io (xr u) af aP p es m/\r=.returned (.tuple #[ev,.int .i64 (m:Int),.int .i64 aP,.string ⟨p.toArray⟩])/\w'.ownsRow w.heap.size 9 1 ev es.length (es.map qy):=by
 have HF:=ze h;have HL:=ze hl;have HS:=ze hs;obtain⟨fa,a8,rfl,aR,-⟩:=h;clear aR hl hs;unfold qy;go_enter func96,ntmps96;go_wp2_with fail;refine(G6 ⟨#[]⟩ w (by unfold maxLen;simp[ByteArray.size])).mono ?_;rintro r w1 ⟨rfl,aF⟩;have av:=ze aF;have aN:=ze (HF.o.below aF);clear aF;unfold AL;go_wp2_with fail;refine(AF _ u CA w1 hn aN.o).mono ?_;rintro r w2 ⟨rfl,rfl⟩;cases e:GC u CA with
 |none =>
  have N:Ed u CA=-1:=by unfold Ed;rw[e]
  rw[N];have ah:Hid (KR (xr u) af 0 (hash [])):=.inl ⟨(Bm e).1,rfl,rfl⟩;clear e N
  go_wp2
  go_loopw [12,13] (λdv iv wr=>dv=.slice none 0 0/\iv=.int .i64 0/\wr=w2) (λ_ _ _=>0)
  case atStart=>exact⟨rfl,rfl,rfl⟩
  case round =>
   obtain⟨rfl,rfl,rfl⟩:=hrel;go_wp2_with fail;refine(Dl (.slice none 0 0) [] wr (by simp) (by simp) (La.nil _)).mono ?_;rintro r w5 ⟨rfl,E⟩;have L:=ze (av.o.trans (E.mono av.o.size));clear E;have H:Hid (E3 (xr u) 0 ((0+3)/4)=some []):=rfl;have ai:Hid (yy []=hash []):=Dd _ _ rfl;rw[ai.o];have HJ:Hid (∀j,4*j<([]:za).length->j∈s):=λj hj=>by simp at hj
   have ak:Hid (w5.ownsRow w.heap.size 9 1 (.slice none 0 0) (CQ (xr u) [] 0).length ((CQ (xr u) [] 0).map qy)):=⟨rfl,.inl ⟨rfl,rfl⟩⟩;generalize hash []=R at *
   go_wp2
   go_loopg [12] (s.length+1) (λgg dv au=>∃U:Nat,s.length+1-U<=gg/\zc w au/\au.ownsRow w.heap.size 9 1 dv (CQ (xr u) ([]:za) U).length ((CQ (xr u) ([]:za) U).map qy)/\∀i,i<U->(Cb (xr u) (CQ (xr u) ([]:za) i)).2=true)
   case atStart=>exact⟨0,by omega,L.o,ak.o,λi hi=>absurd hi (Am _)⟩
   case round =>
    clear L ak;obtain⟨U,a6,I,y,ae⟩:=hrel;have ab:=Ql HS.o HJ.o ae;have D:=ze I;have am:=ze ae;have C:=ze ab;obtain⟨d,K⟩:∃d,CQ (xr u) ([]:za) U=d:=⟨_,rfl⟩;rw[K]at y ab;have A:=ze K;obtain⟨q,hv,hd,aK⟩:∃q hv,d.length=4*q+hv/\hv<4:=⟨d.length/4,d.length%4,by omega,by omega⟩;obtain⟨da,V,rfl⟩:=qt y;have g:=ze y;have M:=ze (HF.o.below I);have aI:q<=1000000:=by omega
    have Q:Hid (d.length+(Cb (xr u) d).1.length<=1000000000):=by show _<=_;omega
    have aC:=ze hd;clear K ae I y hd ab;go_wp2_with fail;refine(Rr _ da V u d q hv wr hn HL.o aC.o aK aI M.o (Dg g.o)).mono ?_;rintro r w6 ⟨Z,x,rfl,hx⟩;have W:=ze (D.o.trans (Z.mono D.o.size));have P:=ze (zy g.o (zl.aa (O:=λ_=>False) (T:=[]) Z) (by simp));have HX:=ze hx;obtain⟨xa,xc,N,-⟩:=id hx;subst N;have B:=ze W.o.size;clear hx Z M g;cases S:(Cb (xr u) d).2 with
    |true =>
     have X:=ze S;clear S;go_wp2_with (at_builtin;refine Hq _ rfl _ _ rfl w.heap.size B.o _ d rfl P.o _ _ rfl HX.o Q.out ?_;intro v' w7 c a;have F:=ze (W.o.grown a B.o (vg P.o));have z:=ze c;clear c a;obtain⟨ya,yc,N⟩:=qt z.o;subst N)
     go_roundg (gk-1)
     case rel =>
      refine⟨U+1,by omega,F.o,?_,λi hi=>?_⟩
      ·rw[CQ,A.o];have h:=z.o;rw[zw]at h ⊢;exact h
      ·rcases qf i U with h|h
       ·exact am.o i h
       ·obtain rfl:i=U:=by omega
        rw[A.o];exact X.o
     case measure =>
      have:=C.o.2;omega
    |false =>
     have X:=ze S;clear S;go_wp2_with (at_builtin;refine Hq _ rfl _ _ rfl w.heap.size B.o _ d rfl P.o _ _ rfl HX.o Q.out ?_;intro v' w7 c a;have F:=ze (W.o.grown a B.o (vg P.o));have z:=ze c;clear c a;obtain⟨ya,yc,N⟩:=qt z.o;subst N);refine zv (Ae results96 _ _ _) rfl ?_;have an:=GD.of am.o (by rw[A.o];exact X.o);rw[A.o]at an;exact⟨F.o,_,0,[],_,0,.inr ⟨0,_,ah.o,.inr ⟨([]:za),H.o,.inr ⟨ai.o,an,rfl,rfl,rfl⟩⟩⟩,rfl,by have h:=z.o;rw[zw]at h ⊢;exact h⟩
 |some k =>
  have N:Ed u CA=k:=by unfold Ed;rw[e]
  rw[N];obtain⟨aV,-,aZ,-⟩:=Bn e;obtain⟨-,-,az⟩:=aN.o.at;obtain⟨b,be,rfl,aS⟩:=az (by omega);obtain⟨-,y1⟩:=aS k aV;unfold qy at y1;have ag:=HL.o _ (ye aV);have aw:=ze aZ;clear aS az e N aZ;generalize u[k].2=x at *;go_wp2_with fail;refine(Kx x af ag hk w2).mono ?_;rintro r w3 ⟨aQ,hr⟩;have aA:=ze (av.o.trans (aQ.mono av.o.size));clear aQ y1;rcases hr with ⟨m,R,aJ,rfl⟩|⟨a0,rfl⟩
  ·have ah:Hid (KR (xr u) af m R):=.inr ⟨x,aw.o,aJ⟩;have bb:=aJ.1;clear aJ aw
   go_wp2
   go_loopw [12,13] (λdv iv wr=>∃(k:Nat) (l:za),iv=.int .i64 k/\4*k<m+4/\E3 (xr u) m k=some l/\zc w wr/\wr.ownsRow w.heap.size 9 1 dv l.length (l.map qy)) (λ_ iv _=>m+4-4*(intOf iv).toNat)
   case atStart=>exact⟨0,[],rfl,by omega,rfl,aA.o,⟨rfl,.inl ⟨rfl,rfl⟩⟩⟩
   case round =>
    obtain⟨k,l,rfl,aW,ap,I,y⟩:=hrel;have ag:=LL ap aW;have ay:=Kv HS.o ap aW;have aM:=ze (zke ap);have D:=ze I;have H:=ze ap;have G:=ze ag;have a2:=ze ay;obtain⟨da,V,rfl⟩:=qt y;have g:=ze y;have M:=ze (HF.o.below I);have aX:k<=1000000:=by omega
    have a9:l.length<=m:=by omega
    have ba:l.length<=400000:=by omega
    clear ap I y ag ay aA
    by_cases bc:l.length<m
    ·have aU:l.length=4*k:=by have:=G.o;omega
     have aL:=ze aU;clear aU
     by_cases h4:4<m-l.length
     ·have a5:(4:Int)<(m:Int)-(l.length:Int):=by omega
      have ad:CD m k=4:=by have:=G.o;unfold CD;omega
      go_wp2_with fail;refine(Kw _ u k 4 wr hn HL.o aX M.o).mono ?_;rintro r w4 ⟨Y,ea,en,ec,rfl,ao⟩;have C:=ze (D.o.trans (Y.mono D.o.size));have aj:=ze (zy g.o (zl.aa (O:=λ_=>False) (T:=[]) Y) (by simp));have A:=ze ao;clear Y ao M g;cases J:Df (xr u) k 4 with
      |none =>
       have aB:Hid (Df (xr u) k (CD m k)=none):=by show _=_;rw[ad];exact J
       clear J;go_wp2_with fail;refine(C5 (-1) k (4:Nat) (by omega) w4).mono ?_;rintro r w5 ⟨rfl,E⟩;have L:=ze (C.o.trans (E.mono C.o.size));clear E;have aD:Hid (qz (-1) k (CD m k:Nat)=qz (-1) k (4:Nat)):=by show _=_;rw[ad]
       generalize qz (-1) (k:Int) ((4:Nat):Int)=nm at *;go_wp2_with fail;refine zv (Ae results96 _ _ _) rfl ?_;exact⟨L.o,_,6,nm,[],0,.inr ⟨m,R,ah.o,.inl ⟨k,l,by have:=G.o;omega,H.o,aB.o,rfl,aD.o.symm,rfl,rfl⟩⟩,rfl,⟨rfl,.inl ⟨rfl,rfl⟩⟩⟩
      |some es =>
       obtain⟨aG,ar⟩:=A.o es J;have HT:=ze (La.of ar);obtain⟨aH,-⟩:=HT.o.at;subst aH;have al:Hid (E3 (xr u) m (k+1)=some (l++es)):=by
        show _=_;unfold E3;rw[H.o,ad,J]
        rfl
       have Q:Hid (l.length+es.length<=1000000000):=by show _<=_;omega
       have B:=ze C.o.size;clear ar J aG A;go_wp2_with (at_builtin;refine Hq _ rfl _ _ rfl w.heap.size B.o _ l rfl aj.o _ _ rfl HT.o Q.out ?_;intro v' w7 c a;have F:=ze (C.o.grown a B.o (vg aj.o));have z:=ze c;clear c a;obtain⟨ya,yc,N⟩:=qt z.o;subst N)
       go_roundw
       case rel=>exact⟨k+1,l++es,by go_num,by have:=aL.o;omega,al.o,F.o,by have h:=z.o;rw[zw]at h ⊢;exact h⟩
       case measure=>simp[intOf];omega
     ·have a5:¬(4:Int)<(m:Int)-(l.length:Int):=by omega
      have a1:(m:Int)-(l.length:Int)=((m-l.length:Nat):Int):=by omega
      have a4:=ze a1;clear a1;have ad:CD m k=(m-l.length):=by have:=G.o;unfold CD;omega
      go_wp2_with fail;rw[a4.o];refine(Kw _ u k (m-l.length) wr hn HL.o aX M.o).mono ?_;rintro r w4 ⟨Y,ea,en,ec,rfl,ao⟩;have C:=ze (D.o.trans (Y.mono D.o.size));have aj:=ze (zy g.o (zl.aa (O:=λ_=>False) (T:=[]) Y) (by simp));have A:=ze ao;clear Y ao M g;cases J:Df (xr u) k (m-l.length)with
      |none =>
       have aB:Hid (Df (xr u) k (CD m k)=none):=by show _=_;rw[ad];exact J
       clear J;go_wp2_with fail;refine(C5 (-1) k ((m-l.length):Nat) (by omega) w4).mono ?_;rintro r w5 ⟨rfl,E⟩;have L:=ze (C.o.trans (E.mono C.o.size));clear E;have aD:Hid (qz (-1) k (CD m k:Nat)=qz (-1) k ((m-l.length):Nat)):=by show _=_;rw[ad]
       generalize qz (-1) (k:Int) (((m-l.length):Nat):Int)=nm at *;go_wp2_with fail;refine zv (Ae results96 _ _ _) rfl ?_;exact⟨L.o,_,6,nm,[],0,.inr ⟨m,R,ah.o,.inl ⟨k,l,by have:=G.o;omega,H.o,aB.o,rfl,aD.o.symm,rfl,rfl⟩⟩,rfl,⟨rfl,.inl ⟨rfl,rfl⟩⟩⟩
      |some es =>
       obtain⟨aG,ar⟩:=A.o es J;have HT:=ze (La.of ar);obtain⟨aH,-⟩:=HT.o.at;subst aH;have al:Hid (E3 (xr u) m (k+1)=some (l++es)):=by
        show _=_;unfold E3;rw[H.o,ad,J]
        rfl
       have Q:Hid (l.length+es.length<=1000000000):=by show _<=_;omega
       have B:=ze C.o.size;clear ar J aG A;go_wp2_with (at_builtin;refine Hq _ rfl _ _ rfl w.heap.size B.o _ l rfl aj.o _ _ rfl HT.o Q.out ?_;intro v' w7 c a;have F:=ze (C.o.grown a B.o (vg aj.o));have z:=ze c;clear c a;obtain⟨ya,yc,N⟩:=qt z.o;subst N)
       go_roundw
       case rel=>exact⟨k+1,l++es,by go_num,by have:=aL.o;omega,al.o,F.o,by have h:=z.o;rw[zw]at h ⊢;exact h⟩
       case measure=>simp[intOf];omega
    ·have a7:l.length=m:=by omega
     have aY:k=(m+3)/4:=by have:=G.o;omega
     have ax:Hid (E3 (xr u) m ((m+3)/4)=some l):=by show _=_;rw[<- aY];exact H.o
     have HJ:Hid (∀j,4*j<l.length->j∈s):=λj hj=>a2.o.2 j (by have:=G.o;omega);clear H;have H:=ax;clear ax aY a7;go_wp2_with fail;refine(Dl (.slice da l.length V) l wr (by omega) aM.o (Dg g.o)).mono ?_;rintro r w5 ⟨rfl,E⟩;have L:=ze (D.o.trans (E.mono D.o.size));have ak:=ze (zy g.o (zl.aa (O:=λ_=>False) (T:=[]) E) (by simp));obtain⟨R',aE⟩:∃R',yy l=R':=⟨_,rfl⟩;have aO:=ze aE;rw[aE];clear E aE
     by_cases aq:R'=R
     ·have ai:Hid (yy l=R):=aO.o.trans aq;subst aq
      go_wp2
      go_loopg [12] (s.length+1) (λgg dv au=>∃U:Nat,s.length+1-U<=gg/\zc w au/\au.ownsRow w.heap.size 9 1 dv (CQ (xr u) l U).length ((CQ (xr u) l U).map qy)/\∀i,i<U->(Cb (xr u) (CQ (xr u) l i)).2=true)
      case atStart=>exact⟨0,by omega,L.o,ak.o,λi hi=>absurd hi (Am _)⟩
      case round =>
       clear L ak;obtain⟨U,a6,I,y,ae⟩:=hrel;have ab:=Ql HS.o HJ.o ae;have D:=ze I;have am:=ze ae;have C:=ze ab;obtain⟨d,K⟩:∃d,CQ (xr u) l U=d:=⟨_,rfl⟩;rw[K]at y ab;have A:=ze K;obtain⟨q,hv,hd,aK⟩:∃q hv,d.length=4*q+hv/\hv<4:=⟨d.length/4,d.length%4,by omega,by omega⟩;obtain⟨da,V,rfl⟩:=qt y;have g:=ze y;have M:=ze (HF.o.below I);have aI:q<=1000000:=by omega
       have Q:Hid (d.length+(Cb (xr u) d).1.length<=1000000000):=by show _<=_;omega
       have aC:=ze hd;clear K ae I y hd ab;go_wp2_with fail;refine(Rr _ da V u d q hv wr hn HL.o aC.o aK aI M.o (Dg g.o)).mono ?_;rintro r w6 ⟨Z,x,rfl,hx⟩;have W:=ze (D.o.trans (Z.mono D.o.size));have P:=ze (zy g.o (zl.aa (O:=λ_=>False) (T:=[]) Z) (by simp));have HX:=ze hx;obtain⟨xa,xc,N,-⟩:=id hx;subst N;have B:=ze W.o.size;clear hx Z M g;cases S:(Cb (xr u) d).2 with
       |true =>
        have X:=ze S;clear S;go_wp2_with (at_builtin;refine Hq _ rfl _ _ rfl w.heap.size B.o _ d rfl P.o _ _ rfl HX.o Q.out ?_;intro v' w7 c a;have F:=ze (W.o.grown a B.o (vg P.o));have z:=ze c;clear c a;obtain⟨ya,yc,N⟩:=qt z.o;subst N)
        go_roundg (gk-1)
        case rel =>
         refine⟨U+1,by omega,F.o,?_,λi hi=>?_⟩
         ·rw[CQ,A.o];have h:=z.o;rw[zw]at h ⊢;exact h
         ·rcases qf i U with h|h
          ·exact am.o i h
          ·obtain rfl:i=U:=by omega
           rw[A.o];exact X.o
        case measure =>
         have:=C.o.2;omega
       |false =>
        have X:=ze S;clear S;go_wp2_with (at_builtin;refine Hq _ rfl _ _ rfl w.heap.size B.o _ d rfl P.o _ _ rfl HX.o Q.out ?_;intro v' w7 c a;have F:=ze (W.o.grown a B.o (vg P.o));have z:=ze c;clear c a;obtain⟨ya,yc,N⟩:=qt z.o;subst N);refine zv (Ae results96 _ _ _) rfl ?_;have an:=GD.of am.o (by rw[A.o];exact X.o);rw[A.o]at an;exact⟨F.o,_,0,[],_,m,.inr ⟨m,_,ah.o,.inr ⟨l,H.o,.inr ⟨ai.o,an,rfl,rfl,rfl⟩⟩⟩,rfl,by have h:=z.o;rw[zw]at h ⊢;exact h⟩
     ·have ai:Hid (yy l≠R):=λe=>aq (aO.o.symm.trans e);have hq:(R'==R)=false:=by simpa using aq
      clear aq;go_wp2_with fail;refine zv (Ae results96 _ _ _) rfl ?_;exact⟨L.o,_,5,[],[],0,.inr ⟨m,R,ah.o,.inr ⟨l,H.o,.inl ⟨ai.o,rfl,rfl,rfl,rfl⟩⟩⟩,rfl,⟨rfl,.inl ⟨rfl,rfl⟩⟩⟩
  ·have a3:Hid (∃t,xr u CA=some t/\∀n R,¬vq t af n R):=⟨x,aw.o,a0⟩;clear a0 aw;go_wp2_with fail;refine zv (Ae results96 _ _ _) rfl ?_;exact⟨aA.o,_,3,[],[],0,.inl ⟨a3.o,rfl,rfl,rfl,rfl⟩,rfl,⟨rfl,.inl ⟨rfl,rfl⟩⟩⟩
variable {C:Array Value}{O:Nat->Prop}{d:Dk}{db:Nat}{lk:Lk}{w w3 w4 wx:World}
def PO (O:Nat->Prop)(h:Nat)(d:Dk)(f:zb)(w b:World)(a:Option Addr)(e:Int)(p:zb):Prop:=
 ∃c:Dk,zl O rT w b/\ym b (qv O w b) h c/\c.fs=d.fs/\tk c=tk d/\((c.hit=true/\a=none/\e=8)\/(Fz c/\∃i m,Io (xr d.fs) f e p i m /\
  ((e=0/\∃g j,a=some ⟨g,0,none⟩/\w.heap.size<=g/\KM b g j/\Ak b (qv O w b) h j {key:=f,es:=i,put:=0,live:=true})\/(e≠0/\a=none))))
def znl {a p:zb}{b:za}{m:Nat}(h:Io lk a 0 p b m):p=[]:=by
 rcases h with ⟨-,-,h,-⟩|⟨n,R,e,⟨k,d,-,-,-,h,-⟩|⟨d,c,⟨-,-,h,-⟩|⟨-,-,-,h,-⟩⟩⟩
 ·exact h
 ·simp at h
 ·exact h
 ·exact h
def WG (O:Nat->Prop)(W:World)(i:Nat->Addr)(F:DW W)(v:vj W i)(t:RW W)(u:∀k,O k->W.heap.size<=k)(l:Nat)(d:Dk)(b:zb)(w:World)(K:d.fs.length<=1000000000)(J:∀f∈d.fs,f.2.length<=1048576)(R:b.length<=2097152)(H:Fz d)(G:zc W w)(h:ym w O l d)
 (s:List Nat) (M:IS (xr d.fs) s) (z:s.length<=100000) :
  Calls prog 97 #[.pointer (some ⟨l,0,none⟩),.string ⟨b.toArray⟩] w λr C=>∃a e p,r=.returned (.tuple #[.pointer a,.agg #[.int .i64 e,.string ⟨p.toArray⟩]])/\PO O l d b w C a e p:=by
 refine(zc7 O W i F v t u l d b w K J (by omega) H G h s M z).mono ?_;rintro r C ⟨n,A,x,c,g,⟨I,p,rfl⟩|⟨j,o,p,B,m,y,⟨rfl,P,N,rfl,q,Q,D,E⟩|⟨q,rfl⟩⟩⟩
 ·exact⟨none,8,p,rfl,n,A,x,c,g,.inl ⟨I,rfl,rfl⟩⟩
 ·have L:=znl y;subst L;exact⟨_,0,[],rfl,n,A,x,c,g,.inr ⟨j,B,m,y,.inl ⟨rfl,P,N,rfl,q,D,E⟩⟩⟩
 ·exact⟨none,o,p,rfl,n,A,x,c,g,.inr ⟨j,B,m,y,.inr ⟨q,rfl⟩⟩⟩
def PO.shift {j:zb}{a:Option Addr}{e:Int}{p:zb}(h:PO O db d j w w4 a e p)(c:zc w3 w)(f:zl (λk=>w3.heap.size<=k) [39] w4 wx):PO O db d j w3 wx a e p:=by
 obtain⟨u,g,A,l,q,B⟩:=h;have t:∀k,qv O w w4 k->qv O w3 wx k:=λk b=>by
  rcases b with b|b
  ·exact .inl b
  ·exact .inr ⟨zt c.size b.1,zq b.2 f.size⟩
 refine⟨u,⟨f.os.trans (g.os.trans c.os),f.tape.trans (g.tape.trans c.tape),f.output.trans (g.output.trans c.output),zt c.size (zt g.size f.size),λk b=>?_⟩,(A.stay f (by decide) (by decide)).mono t,l,q,?_⟩
 ·have n:=c.block k b;have o:wx.heap[k]?=w4.heap[k]?:=by
   rcases f.block k (zq b (zt c.size g.size))with h|⟨h,-⟩
   ·exact h
   ·omega
  rw[o,<- n];exact g.block k (zq b c.size)
 ·rcases B with h|⟨i,r,m,s,⟨h0,D,C,v,x,y,z⟩|h⟩
  ·exact .inl h
  ·exact .inr ⟨i,r,m,s,.inl ⟨h0,D,C,v,zt c.size x,f.keep y (by decide),(z.stay f (by decide) (by decide) (by decide)).mono t⟩⟩
  ·exact .inr ⟨i,r,m,s,.inr h⟩
def PO.after {b:zb}{a:Option Addr}{e:Int}{p:zb}(h:PO O db d b w w4 a e p)(c:zc w3 w)(o:Obj):PO O db d b w3 (w4.alloc o) a e p:=
 h.shift c (zl.aa (zi w4 o))
def PO.bZ {b:zb}{a:Option Addr}{e:Int}{p:zb}(h:PO O db d b w w4 a e p)(f:zc w3 w)(c:w4.heap[w3.heap.size]?=some (.cells C 39 (0,0)))(u v:Value):PO O db d b w3 ((w4.setCell ⟨w3.heap.size,0,none⟩ u).setCell ⟨w3.heap.size,1,none⟩ v) a e p:=
 h.shift f (((zl.refl _ _ w4).set (.inl (zk _)) c (by simp) _).set (.inl (zk _)) (Aw c 0 _) (by simp) _)
variable {d':Dk}{ev lv:Value}{wb:Nat}
def N4 (d:Dk):Dk:={d with az:=0,dead:=false,hit:=false}
def zk6 {l p:zb}{g:za}{m:Nat}{s:List Nat}(h:Io lk l 0 p g m)(o:IS lk s):(∀e∈g,e.length<=20)/\∀j,4*j<g.length->j∈s:=by
 rcases h with ⟨-,h,-⟩|⟨n,R,w,h⟩
 ·simp at h
 ·rcases h with ⟨k,d,-,-,-,h,-⟩|⟨d,c,h⟩
  ·simp at h
  ·rcases h with ⟨-,h,-⟩|⟨A,⟨k,r,v,rfl⟩,-⟩
   ·simp at h
   ·have u:∀j,4*j<d.length->j∈s:=λj i=>by
     have z:=LL c (by omega);exact(Kv o c (by omega)).2 j (by omega)
    refine⟨?_,λj i=>?_⟩
    ·have step:∀e:za,(∀y∈e,y.length<=20)->∀y∈(Cb lk e).1,y.length<=20:=by
      intro e x y a;unfold Cb at a;split at a
      ·simp at a
      ·split at a
       ·simp at a
       ·rename_i b t;split at a
        ·exact zmf t y (jz a)
        ·simp at a
     have f:∀k,∀y∈CQ lk d k,y.length<=20:=by
      intro k
      induction k with
      |zero=>exact zke c
      |succ k q =>
       intro y a;rw[CQ]at a;rcases yj.1 a with a|a
       ·exact q y a
       ·exact step _ q y a
     exact f (k+1)
    ·refine zme o u r j ?_;rw[CQ,zw]at i;exact i
def zoo {x:Wd}(h:KO w wb db lv ev x)(u e:Value)(m:Int):
  KO ((((w.setCell ⟨wb,2,none⟩ u).setCell ⟨wb,5,none⟩ (.bool false)).setCell ⟨wb,3,none⟩ e).setCell ⟨wb,4,none⟩ (.int .i64 m)) wb db u e {key:=x.key,ar:=m,failed:=false,aw:=x.aw} /\
  zl (λk=>k=wb) [76] w ((((w.setCell ⟨wb,2,none⟩ u).setCell ⟨wb,5,none⟩ (.bool false)).setCell ⟨wb,3,none⟩ e).setCell ⟨wb,4,none⟩ (.int .i64 m)):=by
 have a:=(RV h).1 u;have b:=(RV a).2.2.2.1 false;have c:=(RV b).2.1 e;have d:=(RV c).2.2.1 m;exact⟨d,(((((zl.refl (λk=>k=wb) [76] w).set (.inl rfl) h (by simp) _).set (.inl rfl) a (by simp) _).set (.inl rfl) b (by simp) _).set (.inl rfl) c (by simp) _)⟩
def zon {x:Wd}(h:KO w wb db lv ev x)(u:Value):
  KO ((w.setCell ⟨wb,2,none⟩ u).setCell ⟨wb,5,none⟩ (.bool false)) wb db u ev {x with failed:=false} /\
  zl (λk=>k=wb) [76] w ((w.setCell ⟨wb,2,none⟩ u).setCell ⟨wb,5,none⟩ (.bool false)):=by
 have a:=(RV h).1 u;have b:=(RV a).2.2.2.1 false;exact⟨b,((zl.refl (λk=>k=wb) [76] w).set (.inl rfl) h (by simp) _).set (.inl rfl) a (by simp) _⟩
def C0.cw (h:C0 d)(e:tk d'=tk d):C0 d':=by
 unfold Go.Proofs.YtfdbeldiomkdiaaGreatDoor.tk at e;simp only[xj]at e;obtain⟨-,a,b,c⟩:=e;rw[a,h.1,h.2.1]at b;rw[a,h.1,h.2.2]at c;exact⟨a.trans h.1,by simpa using b,by simpa using c⟩
def X8 (O:Nat->Prop)(W:World)(bn:Nat->Addr)(hE:DW W)(bs:vj W bn)(bq:RW W)(z u:Nat)(lv ev:Value)(x:Wd)(d:Dk)(s:List Nat)(n:Nat)(w:World)(a7:∀k,O k->W.heap.size<=k/\k<w.heap.size)(hW:zc W w)(hn:n<=4200)(hO:O z)(h:Jz w O z u lv ev x d s n):
  Calls prog 47 #[.pointer (some ⟨z,0,none⟩)] w λr Q=>r=.returned (.bool true)/\zl O aT w Q/\(∀k,qv O w Q k->W.heap.size<=k/\k<Q.heap.size)/\∃P p es m A,Io (xr d.fs) x.key P p es m/\A.fs=d.fs/\C0 A/\∃bG bo,(Fh Q (qv O w Q) z u bG bo {key:=x.key,ar:=(m:Int),failed:=false,aw:=x.aw} A s n es 0/\P=0)\/(Jz Q (qv O w Q) z u bG bo {x with failed:=false} A s n/\P≠0):=by
 obtain⟨bA,aH,hd,ao,-⟩:=h;have b:=ze ao;have bL:=ze aH;have HD:=ze hd;have V:=ze a7;have aU:Hid (∀k,O k->W.heap.size<=k):=λk c=>(a7 k c).1;have HW:=ze hW;have be:=ze hE;have bj:=ze bs;have bf:=ze bq;have HO:=ze hO;have aR:=ze bA;have bU:=zf0 aH hd;have i:Hid (d.fs.length<=800000000):=by have:=ao.count;show _<=_;omega
 obtain⟨⟨c0,-⟩,-⟩:=FK aH;unfold BD at c0;clear aH hd ao a7 hW hE bs bq hO bA;go_enter func47,ntmps47;go_wp2_with fail;refine(zhc O u d w HD.o).mono ?_;rintro r w1 ⟨rfl,aF,bu⟩;have bk:=ze aF;have ab:Hid (KO w1 z u lv ev x):=aF.keep bL.o (by decide);have aP:Hid (ym w1 O u (N4 d)):=bu;obtain⟨⟨d0,-⟩,-⟩:=FK ab.o;have bt:=d0;unfold BD at d0;have bl:Hid (zc W w1):=HW.o.trans (aF.below aU.o HW.o.size);clear aF bu c0;go_wp2_with fail;refine(CN O u z (N4 d) w1 (by have:=i.out;show d.fs.length<=_;omega) aP.o bt).mono ?_;rintro r w2 ⟨v2,aD,rfl,bC,a8,ag,-⟩;have G:Hid (aD.Perm d.fs):=bC;have bg:=ze a8;have aX:Hid (zl O Oi w w2):=bk.o.ah ag;have ad:Hid (KO w2 z u lv ev x):=(zl.aa (O:=O) (T:=[]) ag).keep ab.o (by simp);have bd:Hid (ym w2 O u (N4 d)):=aP.o.stay (zl.aa (O:=O) (T:=[]) ag) (by simp) (by simp);have bm:Hid (zc W w2):=bl.o.trans (ag.mono bl.o.size);obtain⟨-,⟨d1,-⟩,-⟩:=FK ad.o;unfold qy at d1;obtain⟨va,vc,he,-⟩:=id a8;subst he;clear bC a8 ag d0 bt bk aP ab;go_wp2_with fail;refine(Sr _ aD x.key w2 (by have:=i.out;rw[G.o.length_eq];omega) (zcy G.o b.o.data) (by have:=b.o.key;omega) bg.o s (by rw[SU b.o.apart G.o];exact b.o.ba) (by have:=b.o.small;omega)).mono ?_;rintro r v ⟨ai,bT,P,p,es,m,a9,rfl,av⟩;rw[SU b.o.apart G.o]at a9;have U:=ze a9;have X:=ze av;obtain⟨ea,ec,he⟩:=qt av;subst he;have aB:Hid (zl O Oi w v):=aX.o.ah ai;have J:Hid (KO v z u lv ev x):=(zl.aa (O:=O) (T:=[]) ai).keep ad.o (by simp);have aQ:Hid (ym v O u (N4 d)):=bd.o.stay (zl.aa (O:=O) (T:=[]) ai) (by simp) (by simp);have aY:Hid (zc W v):=bm.o.trans (ai.mono bm.o.size);obtain⟨⟨e0,-⟩,⟨e1,-⟩,-⟩:=FK J.o;unfold BD at e0;unfold qy at e1;have ay:Hid (w.heap.size<=w2.heap.size):=aX.o.size;clear a9 av ai d1 aX bd ad bg;have a0:∀o,(v.alloc o).cell? ⟨z,0,none⟩=some (.pointer (some ⟨u,0,none⟩)):=λo=>by rw[xg _ _ ⟨z,0,none⟩ (yf e0)];exact e0
 have a1:∀o,(v.alloc o).cell? ⟨z,1,none⟩=some (.string ⟨x.key.toArray⟩):=λo=>by rw[xg _ _ ⟨z,1,none⟩ (yf e1)];exact e1
 have a5:Hid (zc v v.drew):=(zu _ _).drew;have a6:Hid (∀o,zc v (v.alloc o).drew):=λo=>(zi _ _).drew;have aW:Hid (∀Q,zc v Q->Calls prog 97 #[.pointer (some ⟨u,0,none⟩),.string ⟨x.key.toArray⟩] Q λr bP=>∃a e p,r=.returned (.tuple #[.pointer a,.agg #[.int .i64 e,.string ⟨p.toArray⟩]])/\PO O u (N4 d) x.key Q bP a e p):=λQ hb=>WG O W bn be.o bj.o bf.o aU.o u (N4 d) x.key Q (by have:=i.out;show d.fs.length<=_;omega) b.o.data (by have:=b.o.key;omega) ⟨rfl,rfl⟩ (aY.o.trans (hb.mono aY.o.size)) (aQ.o.stay (zl.aa (O:=O) (T:=[]) hb) (by simp) (by simp)) s b.o.ba (by have:=b.o.small;omega)
 go_upto_region 4 with fail
 go_cut [8,9] from 30 to 41 (λs8 s9 wx=>∃(a:Option Addr) (e:Int) (q:zb) (B:Nat),s8=.pointer a/\s9=.pointer (some ⟨B,0,none⟩)/\v.heap.size<=B/\wx.heap[B]?=some (.cells #[.int .i64 e,.string ⟨q.toArray⟩] 39 (0,0))/\PO O u (N4 d) x.key v wx a e q)
 case first =>
  clear b V aU HW be bj bf HO aR i G U X aB aY aQ ay
  go_region_with (first
   |(go_at_call 97;refine(aW.o v.drew a5.out).mono ?_;rintro r w4 ⟨a,e,q,rfl,E⟩;have HP:=ze E;clear E)
   |(go_at_call 97;refine(aW.o (v.alloc (.cells #[.int .i64 0,.string ⟨#[]⟩] 39)).drew (a6.out _)).mono ?_;rintro r w4 ⟨a,e,q,rfl,E⟩;have HP:=ze E;have aE:w4.heap[v.heap.size]?=some (.cells #[.int .i64 0,.string ⟨#[]⟩] 39 (0,0)):=(by obtain⟨-,bb,-⟩:=E;exact bb.keep (zf v _) (by decide));obtain⟨x0,z0⟩:=zm aE 0 _ rfl;obtain⟨x1,z1⟩:=zm aE 1 _ rfl;have bH:=ze aE;clear aE E))
  all_goals go_wp2_with fail
  all_goals go_meet
  all_goals first
   |(have hN:=bH.o;exact⟨a,e,q,v.heap.size,rfl,rfl,zk _,BH hN e q rfl,HP.o.bZ (a6.out _) hN _ _⟩)
   |exact⟨a,e,q,w4.heap.size,rfl,rfl,(by obtain⟨-,bb,-⟩:=HP.o;exact bb.size),zf _ _,HP.o.after a5.out _⟩
 case rest =>
 obtain⟨pa,bQ,p',B,rfl,rfl,bM,bp,E⟩:=hcut;obtain⟨A,aG,bw,K,az,aq⟩:=E;clear a0 a1 a5 a6 aW;have aM:A.hit=false:=zl1 az rfl rfl;have aL:Hid (C0 A):=C0.cw (d:=N4 d) ⟨rfl,rfl,rfl⟩ az;have bK:Hid (A.au=false):=(OI az).trans b.o.au;have y:Hid (A.fs=d.fs):=K;have bc:A.au=d.au:=OI (e:=N4 d) az;have bh:Hid (Num n {key:=x.key,ar:=(m:Int),failed:=false,aw:=x.aw} A s/\Num n {x with failed:=false} A s):=⟨JK b.o rfl K bc,JK b.o rfl K bc⟩;have aC:Hid (zl O aT w wc):=(aB.o.mono (λ_ h=>h) (by decide)).trans (aG.mono (λ_ h=>.inl h) (by decide));have C:Hid (KO wc z u lv ev x):=aG.keep J.o (by decide);have M:=ze bw;have L:=ze bp;have H:Hid (wc.ownsRow w2.heap.size 9 1 (.slice ea es.length ec) es.length (es.map qy)):=zy X.o aG (by decide);have ax:Hid (w.heap.size<=v.heap.size):=aB.o.size;have bR:¬B=z:=by have:=zg J.o;omega
 obtain⟨⟨g0,-⟩,-⟩:=FK C.o;clear aG bw K az bc e0 e1 aB aQ J X bp bM;rcases aq with ⟨hh,-⟩|⟨aj,bS,m',bB,aq⟩
 ·rw[aM]at hh;simp at hh
 obtain⟨rfl,rfl,rfl,rfl⟩:=U.o.unique bB;have aO:=ze aj;have bz:∀k,qv O v wc k->qv O w wc k:=λk c=>by
  rcases c with c|c
  ·exact .inl c
  ·exact .inr ⟨by have:=ax.out;omega,c.2⟩
 have aZ:=ze bz;clear bB aj aM bz;rcases aq with ⟨rfl,pb,lb,rfl,bD,bE,aN⟩|⟨ak,rfl⟩
 ·have bi:=ze bE;have aI:=ze aN;have bI:=ze bD;clear bE aN bD;go_wp2_with fail;refine(CN (qv O v wc) u z A wc (by have:=i.out;rw[y.o];omega) M.o g0).mono ?_;rintro r R ⟨v5,af,rfl,ap,al,t,-⟩;obtain⟨n0,-⟩:=zm ((zl.aa (O:=O) (T:=[]) t).keep L.o (by simp)) 0 _ rfl;obtain⟨n1,-⟩:=zm ((zl.aa (O:=O) (T:=[]) t).keep L.o (by simp)) 1 _ rfl;have aV:Hid (af.Perm d.fs):=by rw[<- y.o];exact ap
  obtain⟨bN,bO,he,-⟩:=id al;subst he;have am:aD.length=d.fs.length:=G.o.length_eq;have an:af.length=d.fs.length:=aV.o.length_eq;rw[am,an];have Z:Hid (zl O aT w R):=aC.o.ah t;have j:zl O [] wc R:=.aa t;have D:Hid (KO R z u lv ev x):=j.keep C.o (by simp);have aA:Hid (ym R (qv O w wc) u A):=(M.o.stay j (by simp) (by simp)).mono aZ.o;have aJ:Hid (KM R pb lb):=j.keep bi.o (by simp);have aS:=ze ((aI.o.stay j (by simp) (by simp) (by simp)).mono aZ.o);have Y:=ze (zy H.o j (by simp));have I:Hid (wc.heap.size<=R.heap.size):=t.size;have ae:=ze (zoo D.o (.pointer (some ⟨pb,0,none⟩)) (.slice ea es.length ec) (m:Int));obtain⟨⟨k0,-⟩,⟨k1,-⟩,⟨k2,f2⟩,⟨k3,f3⟩,⟨k4,f4⟩,⟨k5,f5⟩,-⟩:=FK D.o;obtain⟨fv,-,bx,-⟩:=id aA.o;obtain⟨-,-,-,-,-,-,-,⟨t7,-⟩⟩:=GW bx;rw[bK.o]at t7;have aK:=ze (ae.o.2.keep aJ.o (by decide));have S:=ze (aS.o.stay ae.o.2 (by decide) (by decide) (by decide));unfold BD at k0;clear ap al t am an j bx g0 C L M bi aI H aC;generalize d.fs.length=N at *;go_wp2_with fail;refine(Tq _ u pb lb _ _ (by exact aK.o) (by exact S.o)).mono ?_;rintro r w9 ⟨rfl,rfl⟩
  go_wp2
  go_ret;have F:=ae.o;have br:=zk6 U.o b.o.ba;have l:∀(W1:World) a1 a2 a3 a4 u1 u2 u3 u4,(((((W1.setCell a1 u1).setCell a2 u2).setCell a3 u3).setCell a4 u4)).heap.size=W1.heap.size:=λW1 a1 a2 a3 a4 u1 u2 u3 u4=>by simp[World.setCell]
  have bF:∀(W1:World) a1 a2 a3 a4 u1 u2 u3 u4,W1.heap.size=R.heap.size->∀k,qv O w wc k->qv O w (((((W1.setCell a1 u1).setCell a2 u2).setCell a3 u3).setCell a4 u4)) k:=λW1 a1 a2 a3 a4 u1 u2 u3 u4 e k c=>by
   rcases c with c|c
   ·exact .inl c
   ·exact .inr ⟨c.1,by rw[l,e];have:=I.out;omega⟩
  refine⟨by first|rfl|simp,Z.o.trans (F.2.mono (λk c=>.inl (by rw[c];exact HO.o)) (by decide)),λk c=>?_,_,_,es,m,A,U.o,y.o,aL.o,_,_,.inl ⟨⟨aR.o,F.1,(aA.o.stay F.2 (by decide) (by decide)).mono (bF _ _ _ _ _ _ _ _ _ rfl),bh.o.1,pb,lb,rfl,?_,aK.o,S.o.mono (bF _ _ _ _ _ _ _ _ _ rfl),zy (MI Y.o (yk _)) F.2 (by decide),λg hg=>?_,⟨br.1,br.2,yk _,λ_=>⟨aO.o,λf hf=>absurd hf (by rw[List.take_zero];exact X4)⟩⟩⟩,rfl⟩⟩
  ·rw[l];rcases c with c|c
   ·exact⟨(V.o k c).1,zq (V.o k c).2 Z.o.size⟩
   ·rw[l]at c;exact⟨zt HW.o.size c.1,c.2⟩
  ·refine .inr ⟨by have:=bI.o;have:=ax.out;omega,?_⟩;rw[l];exact zg aJ.o
  ·have:=Y.o.lt g hg;refine .inr ⟨by have:=ay.out;omega,?_⟩;rw[l];exact this.2
 ·have hq:(P==0)=false:=by simpa using ak
  have bV:¬P=0:=ak;have bJ:=ze ak;go_wp2_with fail;refine(CN (qv O v wc) u z A wc (by have:=i.out;rw[y.o];omega) M.o g0).mono ?_;rintro r R ⟨v5,af,rfl,ap,al,t,-⟩;obtain⟨n0,-⟩:=zm ((zl.aa (O:=O) (T:=[]) t).keep L.o (by simp)) 0 _ rfl;obtain⟨n1,-⟩:=zm ((zl.aa (O:=O) (T:=[]) t).keep L.o (by simp)) 1 _ rfl;have aV:Hid (af.Perm d.fs):=by rw[<- y.o];exact ap
  obtain⟨bN,bO,he,-⟩:=id al;subst he;have am:aD.length=d.fs.length:=G.o.length_eq;have an:af.length=d.fs.length:=aV.o.length_eq;rw[am,an];have Z:Hid (zl O aT w R):=aC.o.ah t;have j:zl O [] wc R:=.aa t;have D:Hid (KO R z u lv ev x):=j.keep C.o (by simp);have aA:Hid (ym R (qv O w wc) u A):=(M.o.stay j (by simp) (by simp)).mono aZ.o;have I:Hid (wc.heap.size<=R.heap.size):=t.size;have ae:=ze (zon D.o (.pointer none));obtain⟨⟨k0,-⟩,⟨k1,-⟩,⟨k2,f2⟩,⟨k3,f3⟩,⟨k4,f4⟩,⟨k5,f5⟩,-⟩:=FK D.o;unfold BD at k0;clear ap al t am an j g0 C L M H aC;generalize d.fs.length=N at *
  go_wp2
  go_ret;have F:=ae.o;have l:∀(W1:World) a1 a2 u1 u2,((W1.setCell a1 u1).setCell a2 u2).heap.size=W1.heap.size:=λW1 a1 a2 u1 u2=>by simp[World.setCell]
  refine⟨by first|rfl|simp,Z.o.trans (F.2.mono (λk c=>.inl (by rw[c];exact HO.o)) (by decide)),λk c=>?_,_,_,es,m,A,U.o,y.o,aL.o,_,_,.inr ⟨⟨aR.o,F.1,(aA.o.stay F.2 (by decide) (by decide)).mono (λk c=>?_),bh.o.2,.inl rfl⟩,bJ.o⟩⟩
  ·rw[l];rcases c with c|c
   ·exact⟨(V.o k c).1,zq (V.o k c).2 Z.o.size⟩
   ·rw[l]at c;exact⟨zt HW.o.size c.1,c.2⟩
  ·rcases c with c|c
   ·exact .inl c
   ·exact .inr ⟨c.1,by rw[l];have:=I.out;omega⟩
def zeq (O:Nat->Prop)(W:World)(a:Nat->Addr)(H:DW W)(t:vj W a)(l:RW W)(f i:Nat)(A v:Value)(x:Wd)(d:Dk)(s:List Nat)(n:Nat)(w:World)(q:∀k,O k->W.heap.size<=k/\k<w.heap.size)(I:zc W w)(K:n<=4200)(o:O f)(h:Jz w O f i A v x d s n):
  Calls prog 47 #[.pointer (some ⟨f,0,none⟩)] w λr j=>r=.returned (.bool true)/\zl O aT w j/\MU W.heap.size j (qv O w j) f n:=by
 refine(X8 O W a H t l f i A v x d s n w q I K o h).mono ?_;rintro r j ⟨rfl,z,y,B,p,C,m,u,-,-,-,c,b,⟨⟨D,E,F,G,M,L,e,g⟩,-⟩|⟨J,-⟩⟩
 ·exact⟨rfl,z,.inl o,y,.inr ⟨i,c,b,_,u,s,D,E,F,G,.inr ⟨M,L,C,0,e,g⟩⟩⟩
 ·exact⟨rfl,z,.inl o,y,.inr ⟨i,c,b,_,u,s,J⟩⟩
def zjg (O:Nat->Prop)(W:World)(f:Nat->Addr)(G:DW W)(u:vj W f)(q:RW W)(l o:Nat)(C z:Value)(x:Wd)(d:Dk)(s:List Nat)(n:Nat)(w:World)(t:∀k,O k->W.heap.size<=k/\k<w.heap.size)(I:zc W w)(J:n<=4200)(H:O l)(h:Jz w O l o C z x d s n)(v:d.fs=[]):
  Calls prog 47 #[.pointer (some ⟨l,0,none⟩)] w λr c=>r=.returned (.bool true)/\zl O aT w c/\(∀k,qv O w c k->W.heap.size<=k/\k<c.heap.size)/\∃b a j,Fh c (qv O w c) l o b a {key:=x.key,ar:=((0:Nat):Int),failed:=false,aw:=x.aw} j s n [] 0/\C0 j/\j.fs=[]:=by
 refine(X8 O W f G u q l o C z x d s n w t I J H h).mono ?_;rintro r c ⟨rfl,L,F,D,p,M,m,j,B,A,K,b,a,E⟩;rw[v]at B A;have y:Io (xr []) x.key 0 [] [] 0:=.inr ⟨0,hash [],.inl ⟨rfl,rfl,rfl⟩,.inr ⟨[],rfl,.inr ⟨rfl,⟨0,λi h=>absurd h (Am _),rfl,rfl⟩,rfl,rfl,rfl⟩⟩⟩;obtain⟨rfl,rfl,rfl,rfl⟩:=B.unique y;rcases E with ⟨g,-⟩|⟨-,e⟩
 ·exact⟨rfl,L,F,b,a,j,g,K,A⟩
 ·exact absurd rfl e
def Z3 (O:Nat->Prop)(W:World)(ap:Nat->Addr)(hE:DW W)(aw:vj W ap)(av:RW W)(l j:Nat)(ev:Value)(x:Wd)(d:Dk)(s:List Nat)(n:Nat)(w:World)(U:∀k,O k->W.heap.size<=k/\k<w.heap.size)(hW:zc W w)(hn:n<=4200)(hO:O l)(h:Jz w O l j (.pointer none) ev x d s n)(hc:Fz d):
  Calls prog 89 #[.pointer (some ⟨l,0,none⟩)] w λr D=>r=.returned (.bool true)/\zl O aT w D/\MU W.heap.size D (qv O w D) l n:=by
 obtain⟨aB,ab,hd,z,-⟩:=h;have f:=ze z;have ao:=ze ab;have HD:=ze hd;have J:=ze U;have ak:Hid (∀k,O k->W.heap.size<=k):=λk i=>(U k i).1;have HW:=ze hW;have ag:=ze hE;have am:=ze aw;have ai:=ze av;have HO:=ze hO;have aj:=ze aB;have ae:=ze hc;have b:Hid (d.fs.length<=800000000):=by have:=z.count;show _<=_;omega
 obtain⟨⟨c0,-⟩,-⟩:=FK ab;have ax:=c0;unfold BD at c0;clear ab hd z U hW hE aw av hO aB hc;go_enter func89,ntmps89;go_wp2_with fail;refine(CN O j l d w (by have:=b.out;omega) HD.o ax).mono ?_;rintro r c ⟨v2,aM,rfl,aF,az,u,-⟩;have al:=ze aF;have G:Hid (KO c l j (.pointer none) ev x):=(zl.aa (O:=O) (T:=[]) u).keep ao.o (by simp);have af:Hid (ym c O j d):=HD.o.stay (zl.aa (O:=O) (T:=[]) u) (by simp) (by simp);have P:Hid (zc W c):=HW.o.trans (u.mono HW.o.size);have L:Hid (zl O aT w c):=zl.aa u;obtain⟨⟨d0,-⟩,⟨d1,-⟩,-⟩:=FK G.o;unfold BD at d0;unfold qy at d1;obtain⟨va,vc,he,-⟩:=id az;subst he;clear aF az u c0 ax HD ao;have a0:∀o,(c.alloc o).cell? ⟨l,0,none⟩=some (.pointer (some ⟨j,0,none⟩)):=λo=>by rw[xg _ _ ⟨l,0,none⟩ (yf d0)];exact d0
 have a1:∀o,(c.alloc o).cell? ⟨l,1,none⟩=some (.string ⟨x.key.toArray⟩):=λo=>by rw[xg _ _ ⟨l,1,none⟩ (yf d1)];exact d1
 have R:Hid (zc c c.drew):=(zu _ _).drew;have S:Hid (∀o,zc c (c.alloc o).drew):=λo=>(zi _ _).drew;have K:Hid (∀D,zc c D->Calls prog 97 #[.pointer (some ⟨j,0,none⟩),.string ⟨x.key.toArray⟩] D λr aR=>∃a e p,r=.returned (.tuple #[.pointer a,.agg #[.int .i64 e,.string ⟨p.toArray⟩]])/\PO O j d x.key D aR a e p):=λD hb=>WG O W ap ag.o am.o ai.o ak.o j d x.key D (by have:=b.out;omega) f.o.data (by have:=f.o.key;omega) ae.o (P.o.trans (hb.mono P.o.size)) (af.o.stay (zl.aa (O:=O) (T:=[]) hb) (by simp) (by simp)) s f.o.ba (by have:=f.o.small;omega)
 go_upto_region 2 with fail
 go_cut [4,5] from 10 to 21 (λs8 s9 wx=>∃(a:Option Addr) (e:Int) (q:zb) (B:Nat),s8=.pointer a/\s9=.pointer (some ⟨B,0,none⟩)/\c.heap.size<=B/\wx.heap[B]?=some (.cells #[.int .i64 e,.string ⟨q.toArray⟩] 39 (0,0))/\PO O j d x.key c wx a e q)
 case first =>
  clear f J ak HW ag am ai HO aj b al P af L ae
  go_region_with (first
   |(go_at_call 97;refine(K.o c.drew R.out).mono ?_;rintro r w4 ⟨a,e,q,rfl,g⟩;have HP:=ze g;clear g)
   |(go_at_call 97;refine(K.o (c.alloc (.cells #[.int .i64 0,.string ⟨#[]⟩] 39)).drew (S.out _)).mono ?_;rintro r w4 ⟨a,e,q,rfl,g⟩;have HP:=ze g;have C:w4.heap[c.heap.size]?=some (.cells #[.int .i64 0,.string ⟨#[]⟩] 39 (0,0)):=(by obtain⟨-,X,-⟩:=g;exact X.keep (zf c _) (by decide));obtain⟨x0,z0⟩:=zm C 0 _ rfl;obtain⟨x1,z1⟩:=zm C 1 _ rfl;have aL:=ze C;clear C g))
  all_goals go_wp2_with fail
  all_goals go_meet
  all_goals first
   |(have hN:=aL.o;exact⟨a,e,q,c.heap.size,rfl,rfl,zk _,BH hN e q rfl,HP.o.bZ (S.out _) hN _ _⟩)
   |exact⟨a,e,q,w4.heap.size,rfl,rfl,(by obtain⟨-,X,-⟩:=HP.o;exact X.size),zf _ _,HP.o.after R.out _⟩
 case rest =>
 obtain⟨aQ,aq,p',B,rfl,rfl,aO,ar,g⟩:=hcut;obtain⟨Q,Z,ay,y,aH,I⟩:=g;clear a0 a1 R S K;have aI:Q.au=d.au:=OI aH;have F:=ze y;have aK:Hid (Num n x Q s):=JK f.o rfl y aI;have an:Hid (zl O aT w wc):=L.o.trans (Z.mono (λ_ h=>.inl h) (by decide));have m:Hid (KO wc l j (.pointer none) ev x):=Z.keep G.o (by decide);have A:=ze ay;have ad:=ze ar;have Y:Hid (w.heap.size<=c.heap.size):=L.o.size;obtain⟨⟨g0,-⟩,-⟩:=FK m.o;have aC:=g0;unfold BD at g0;have aJ:Hid ((Q.hit=true/\aQ=none/\aq=8)\/Q.hit=false):=by
  rcases I with h|⟨V,-⟩
  ·exact .inl h
  ·exact .inr V.2
 clear Z ay y aH aI I d0 d1 ar aO;go_wp2_with fail;refine(ZP (qv O c wc) j Q wc A.o).mono ?_;rintro r aV ⟨rfl,aP⟩;obtain rfl:=aP.symm;go_wp2_with fail;refine(CN (qv O c wc) j l Q wc (by have:=b.out;rw[F.o];omega) A.o aC).mono ?_;rintro r w5 ⟨v5,aN,rfl,aG,aA,v,-⟩;obtain⟨n0,-⟩:=zm ((zl.aa (O:=O) (T:=[]) v).keep ad.o (by simp)) 0 _ rfl;obtain⟨aS,aU,he,-⟩:=id aA;subst he;have aD:aM.length=d.fs.length:=al.o.length_eq;have aE:aN.length=d.fs.length:=by rw[aG.length_eq,F.o]
 rw[aD,aE];have M:Hid (zl O aT w w5):=an.o.ah v;have t:zl O [] wc w5:=.aa v;have H:Hid (KO w5 l j (.pointer none) ev x):=t.keep m.o (by simp);have E:Hid (MU W.heap.size w5 (qv O w w5) l n):=by
  refine⟨.inl HO.o,λk i=>?_,.inr ⟨j,_,_,_,Q,s,aj.o,H.o,(A.o.stay t (by simp) (by simp)).mono (λk i=>?_),aK.o,.inl rfl⟩⟩
  ·rcases i with i|i
   ·exact⟨(J.o k i).1,zq (J.o k i).2 M.o.size⟩
   ·exact⟨zt HW.o.size i.1,i.2⟩
  ·rcases i with i|i
   ·exact .inl i
   ·exact .inr ⟨by have:=Y.out;omega,zq i.2 v.size⟩
 clear aG aA v aD aE t g0 aC ad m A an H;generalize d.fs.length=N at *;rcases aJ.o with ⟨hh,rfl,rfl⟩|hh
 ·rw[hh]
  go_wp2
  go_ret;exact⟨by first|rfl|simp,M.o,E.o⟩
 ·rw[hh]
  go_wp2
  go_ret;exact⟨by first|rfl|simp,M.o,E.o⟩
end Go.Proofs.YtfdbeldiomkdiaaGreatDoor
