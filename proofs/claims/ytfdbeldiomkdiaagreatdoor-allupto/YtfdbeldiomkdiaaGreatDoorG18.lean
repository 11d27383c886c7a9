import Derived.Test.YtfdbeldiomkdiaaGreatDoorG17
set_option maxHeartbeats 8000000
set_option maxRecDepth 100000
set_option linter.all false
namespace Go.Proofs.YtfdbeldiomkdiaaGreatDoor
open Go.RowKit Go.Proofs.Tryz
def CK:=@Nat.mul_le_mul_right
def Qg:=@Nat.one_mul
variable {B cap g:Nat}{a0 a1 a2 a3 a4 a5 a6 a7 x:Value}{fr:Nat × Nat}{l:zb}{t:TypeId}{w:World}
def Z4 (w:World)(v:Value)(d:za):Prop:=∃a e,v=.slice a d.length e/\∀j (h:j<d.length),∃b f,a=some ⟨b,f,none⟩/\d.length<=e/\∃g c,w.cell? ⟨b,f+j,none⟩=some (.slice (some ⟨g,0,none⟩) d[j].length c)/\∀i (k:i<d[j].length),w.cell? ⟨g,i,none⟩=some (bv d[j][i])
def Sb (v:Value)(d:za)(w:World)(hn:d.length<=1000000)(Z:∀l∈d,l.length<=maxLen)(h:Z4 w v d):
  Calls prog 80 #[v] w λr w'=>∃x,r=.returned x/\zc w w'/\(Iz d=true->OB w' w.heap.size x (DB d))/\(Iz d=false->x=.slice none 0 0):=by
 obtain⟨i,hi,W⟩:=zx.1 Nq;obtain⟨af,ag,ah⟩:i.zero=some (.int .u8 0)/\i.size=1/\i.bytes=1:=by simpa using W
 have HI:=ze hi;have C:=ze (And.intro af (And.intro ag ah));obtain⟨a,al,rfl,hc⟩:=h;have Hc:=ze hc;have Hl:=ze Z
 by_cases I:4<d.length
 ·have T:=ze (U3 I);go_enter func80,ntmps80
  go_wp2
  go_ret;exact⟨_,rfl,zu _ _,λh=>by rw[T.o]at h;simp at h,λ_=>rfl⟩
 ·go_enter func80,ntmps80
  go_wp2
  go_loopw [3,11] (λt i wr=>∃k:Nat,k<=d.length/\i=.int .i64 k/\zc w wr/\wr.ownsRow w.heap.size 5 1 t (DB (d.take k)).length ((DB (d.take k)).map bv)/\(k=0->t=.slice none 0 0)/\(0<k->t≠ .slice none 0 0)/\∀j (z:j<d.length),j<k->d[j].length<=20) (λ_ i _=>d.length-(intOf i).toNat)
  case atStart=>exact⟨0,yk _,rfl,zu _ _,⟨rfl,.inl ⟨rfl,rfl⟩⟩,λ_=>rfl,λh=>absurd h (M8 _),λj _ z=>absurd z (Am _)⟩
  case round =>
   obtain⟨k,hk,rfl,U,f,q,ad,H⟩:=hrel;have D:=ze U;have Q:=ze f;have HN:=ze (And.intro q ad);have L:=ze H
   by_cases A:k<d.length
   ·obtain⟨b,ai,rfl,an,g,c,hx,J⟩:=Hc.o k A;have V:0<d[k].length->g<w.heap.size:=λh0=>yf (p:=⟨g,0,none⟩) (J 0 h0);rw[<- D.o.cell (yf (p:=⟨b,ai+k,none⟩) hx)]at hx;have HS:=ze J;have HG:=ze V;have hm:=Hl.o d[k] (ye A);unfold maxLen at hm
    by_cases ax:20<d[k].length
    ·have T:=ze (QV k A ax);generalize d[k]=l at *
     go_wp2
     go_ret;exact⟨_,rfl,D.o,λh=>by rw[T.o]at h;simp at h,λ_=>rfl⟩
    ·have ae:=Vt d k A (by omega);have F:=ze ae;have O:=ze (Ng (d.take k) (λl Z=>by
      obtain⟨j,z,rfl⟩:=ji Z;have X:j<k:=by simp at z;omega
      rw[js];exact L.o j (by omega) X))
     have aa:(d.take k).length=k:=by rw[AM];omega
     have M:Hid (∀j (z:j<d.length),j<k+1->d[j].length<=20):=λj Y ao=>by
      rcases qf j k with h|h
      ·exact L.o j Y h
      ·obtain rfl:j=k:=by omega
       omega
     have aq:IntKind.u8.wrap (d[k].length:Int)=(d[k].length:Int):=by
      rw[CW];omega
     generalize d[k]=l at *;generalize DB (d.take k)=m at *;have ab:m.length<=84:=by have:=O.o;rw[aa]at this;omega
     have y:=ze ab;have aj:l.length<=20:=by omega
     have B:=ze D.o.size;have R:Hid (∀o,(wr.alloc o).ownsRow w.heap.size 5 1 u3 m.length (m.map bv)):=λo=>yx Q.o (zi wr o);go_wp2_with (first
      |(at_builtin;refine jf _ rfl _ _ _ rfl w.heap.size 5 i (.int .u8 0) 1 1 underlying94 HI.o C.o.1 C.o.2.1 C.o.2.2 rfl (by omega) u3 m.length _ rfl (R.o _) ⟨wr.heap.size,0,none⟩ 1 1 [.int .u8 (l.length:Int)] rfl rfl (xm (zf _ _)) (by simp[Value.oneCell']) (by omega) (by have:=y.o;unfold maxLen;omega) (by have:=y.o;omega) (by have:=B.out;simp;omega) (wr.heap.size+1) (by simp) ?_;intro g' G w2 f n am ak;have s:=ze ((D.o.trans ((zi wr _).mono B.out)).grown n (by have:=B.out;simp;omega) (vg Q.o));have E:=ze f)
      |(at_builtin;(refine M6 _ rfl _ _ _ rfl w.heap.size 5 i (.int .u8 0) 1 1 underlying94 HI.o C.o.1 C.o.2.1 C.o.2.2 rfl (by omega) (.slice (some ⟨g',0,none⟩) (m.length+1) G) (m.length+1) (m.map bv++[.int .u8 (l.length:Int)]) rfl E.o ⟨g,0,none⟩ l.length c (l.map bv) rfl (by simp) (λj u z=>T8 HS.o HG.o s.o j u z) (XV l) (by have:=y.o;unfold maxLen;omega) (by have:=y.o;omega) s.o.size ?_;intro v3 w3 f n q;have N:=ze (s.o.grown n (by have:=s.o.size;omega) (vg E.o));have S:=ze f;have P:Hid (v3≠ .slice none 0 0):=(λe=>absurd (q.1 e).1 (by simp));clear n q f)))
     go_roundw
     case rel=>exact⟨k+1,by omega,by go_num,N.o,by rw[F.o.1,F.o.2];exact S.o,λh=>by omega,λ_=>P.o,M.o⟩
     case measure=>simp[intOf];omega
   ·go_wp2
    go_ret;have ap:d.length=k:=by omega
    refine⟨_,rfl,D.o,λK=>?_,λK=>?_⟩
    ·have:=Q.o;rw[xn (by omega)]at this;refine⟨this,HN.o.2 ?_⟩;rcases Dw k with h|h
     ·rw[N5 (by omega)]at K;simp at K
     ·exact h
    ·refine HN.o.1 ?_;rcases Dw k with h|h
     ·exact h
     ·rw[QW (by omega) (by omega) (λj z=>L.o j z (by omega))]at K;simp at K
def Vy {b:za}(h:KB w B (.slice (some ⟨g,0,none⟩) b.length cap) b)(i n:Nat)(y:i+n<=b.length)(a:Option Addr)(c:Nat)(r:0<n->a=some ⟨g,i,none⟩)(s:n<=c):Z4 w (.slice a n c) ((b.drop i).take n):=by
 obtain⟨z,u,v⟩:=h;have k:((b.drop i).take n).length=n:=by simp;omega
 refine⟨a,c,by rw[k],λj t=>?_⟩;rw[k]at t;obtain⟨x,e,l⟩:=v (i+j) (by omega);obtain⟨p,o,rfl,-,-,f⟩:=l.form;have d:=u.cells rfl _ _ e;rw[vp,xk]at d;refine⟨g,i,r (by omega),by rw[k];exact s,p,o,?_,?_⟩
 ·rw[js,Ai];exact d
 ·intro q m;simp only[js,Ai]at m ⊢;exact f q m
def OB.bq (h:OB w B x l):Bq w x l:=by
 rcases h.1.2 with h0|⟨g,a,b,rfl,k,c,f,m,n,j⟩
 ·exact absurd h0.1 h.2
 ·refine⟨g,a,b,(0,0),rfl,f,c,λi d=>?_⟩;have e:(l.map bv)[i]?=some (bv l[i]):=by simp[d]
  rw[<- j,qi,if_pos (by omega)]at e;simpa using e
def zgd (a:za)(i n:Nat)(h:i+n<=a.length):((List.range' i n).map (Ao a (-1))).flatten=DB ((a.drop i).take n):=by
 induction n with
 |zero=>simp[DB]
 |succ n c =>
  have b:=c (by omega);rw[List.range'_1_concat,yv,Ej,b];have e:(a.drop i).take (n+1)=(a.drop i).take n++[a[i+n]]:=by
   rw[List.take_add_one,BT,zo (by omega)]
   rfl
  rw[e,G1,Lh];congr 1;simp[Ao,zo (show i+n<a.length by omega)]
def zcn (a:za)(i n:Nat)(h:i+n<=a.length)(c:1<=n)(d:n<=4)(b:∀e∈a,e.length<=20):Iz ((a.drop i).take n)=true:=by
 refine QW (by simp;omega) (by simp;omega) (λj f=>?_);rw[js,Ai];exact b _ (ye _)
def zbr (O:Nat->Prop)(C A:Nat)(l:Lg)(w:World)(M:l.es.length<=1000000)(y:∀e∈l.es,e.length<=20)(h:Ak w O C A l)(i n:Nat)(d:i+n<=l.es.length)(D:1<=n)(E:n<=4):
  Calls prog 287 #[.pointer (some ⟨A,0,none⟩),.int .i64 (-1),.int .i64 i,.int .i64 ((i+n:Nat):Int)] w λr B=>∃v,r=.returned v/\zc w B/\Bq B v (((List.range' i n).map (Ao l.es (-1))).flatten):=by
 obtain⟨a,b,F,c,-⟩:=lok h;obtain⟨-,-,⟨J,f2⟩,-⟩:=Jr F;obtain⟨g,rfl,-⟩:=Md c (by omega);have z:=U2 c;have p:=ze c;have k:=ze y;have q:=ze (zgd l.es i n d);have f:=ze (zcn l.es i n d D E y);have G:¬b=i:=by omega
 have H:(i:Int)<=((i+n:Nat):Int):=by omega
 have I:((i+n:Nat):Int)<=(b:Int):=by omega
 go_enter func287,ntmps287;go_wp2_with fail;refine(Sb (.slice (some ⟨g,i,none⟩) n (b-i)) ((l.es.drop i).take n) w (by simp;omega) (λe u=>zt (k.o e (jz (qa u))) (by unfold maxLen;omega)) (Vy p.o i n d _ _ (λ_=>rfl) (by omega))).mono ?_;rintro r P ⟨x,rfl,t,j,-⟩;have m:=ze t;have s:=ze (j f.o);obtain⟨L,K,N,rfl⟩:=JL (j f.o)
 go_wp2
 go_ret;exact⟨_,rfl,m.o,by rw[q.o];exact s.o.bq⟩
def zmz (h:w.heap[g]?=some (.cells #[a0,a1,a2,a3,a4,a5,a6,a7] t fr)):
  w.cell? ⟨g,0,none⟩=some a0/\w.cell? ⟨g,1,none⟩=some a1/\w.cell? ⟨g,2,none⟩=some a2/\w.cell? ⟨g,3,none⟩=some a3/\w.cell? ⟨g,4,none⟩=some a4/\w.cell? ⟨g,5,none⟩=some a5/\w.cell? ⟨g,6,none⟩=some a6/\w.cell? ⟨g,7,none⟩=some a7:=by
 refine⟨?_,?_,?_,?_,?_,?_,?_,?_⟩<;>rw[xe _ _ _ _ _ _ h]<;>rfl
def zbi {b:Nat}(a c d e f g i j:Value)(h:w.heap[b]?=some (.cells #[a0,a1,a2,a3,a4,a5,a6,a7] t (0,0))):((((((((w.setCell ⟨b,0,none⟩ a).setCell ⟨b,1,none⟩ c).setCell ⟨b,2,none⟩ d).setCell ⟨b,3,none⟩ e).setCell ⟨b,4,none⟩ f).setCell ⟨b,5,none⟩ g).setCell ⟨b,6,none⟩ i).setCell ⟨b,7,none⟩ j).heap[b]?=some (.cells #[a,c,d,e,f,g,i,j] t (0,0)):=by
 have k:=Aw h 0 a;have l:=Aw k 1 c;have m:=Aw l 2 d;have n:=Aw m 3 e;have o:=Aw n 4 f;have p:((((((w.setCell ⟨b,0,none⟩ a).setCell ⟨b,1,none⟩ c).setCell ⟨b,2,none⟩ d).setCell ⟨b,3,none⟩ e).setCell ⟨b,4,none⟩ f).setCell ⟨b,5,none⟩ g).heap[b]?=some (.cells #[a,c,d,e,f,g,a6,a7] t (0,0)):=Aw o 5 g;have q:(((((((w.setCell ⟨b,0,none⟩ a).setCell ⟨b,1,none⟩ c).setCell ⟨b,2,none⟩ d).setCell ⟨b,3,none⟩ e).setCell ⟨b,4,none⟩ f).setCell ⟨b,5,none⟩ g).setCell ⟨b,6,none⟩ i).heap[b]?=some (.cells #[a,c,d,e,f,g,i,a7] t (0,0)):=Aw p 6 i;have r:((((((((w.setCell ⟨b,0,none⟩ a).setCell ⟨b,1,none⟩ c).setCell ⟨b,2,none⟩ d).setCell ⟨b,3,none⟩ e).setCell ⟨b,4,none⟩ f).setCell ⟨b,5,none⟩ g).setCell ⟨b,6,none⟩ i).setCell ⟨b,7,none⟩ j).heap[b]?=some (.cells #[a,c,d,e,f,g,i,j] t (0,0)):=Aw q 7 j;exact r
def VE {b:Nat}{a:World}(h:Below B a w)(c:B<=b)(d e f g i j k l:Value):Below B a ((((((((w.setCell ⟨b,0,none⟩ d).setCell ⟨b,1,none⟩ e).setCell ⟨b,2,none⟩ f).setCell ⟨b,3,none⟩ g).setCell ⟨b,4,none⟩ i).setCell ⟨b,5,none⟩ j).setCell ⟨b,6,none⟩ k).setCell ⟨b,7,none⟩ l):=
 h|>.setCell (p:=⟨b,0,none⟩) c d|>.setCell (p:=⟨b,1,none⟩) c e|>.setCell (p:=⟨b,2,none⟩) c f|>.setCell (p:=⟨b,3,none⟩) c g|>.setCell (p:=⟨b,4,none⟩) c i|>.setCell (p:=⟨b,5,none⟩) c j|>.setCell (p:=⟨b,6,none⟩) c k|>.setCell (p:=⟨b,7,none⟩) c l
def Pb (l:Int)(a:0<=l)(b:l<=20)(x:Int)(e:0<=x)(P:Nat)(c:P=4^l.toNat)(d:x.toNat*P<=1000000)(w:World):
  Calls prog 297 #[.int .i64 l,.int .i64 x] w λr f=>r=.returned (.int .i64 ((x.toNat*P:Nat):Int))/\f=w:=by
 subst c;have:=VJ l a b x.toNat d w;rw[Int.toNat_of_nonneg e]at this;exact this
def zbs (O:Nat->Prop)(db x:Nat)(l:Lg)(w:World)(he:l.es.length<=1000000)(ax:∀e∈l.es,e.length<=20)(h:Ak w O db x l)(L:Nat)(hL:L<=20)(i n:Nat)(aM:(i+n)*4^L<=l.es.length)(h1:1<=n)(h4:n<=4):
  Calls prog 287 #[.pointer (some ⟨x,0,none⟩),.int .i64 L,.int .i64 i,.int .i64 ((i+n:Nat):Int)] w λr y=>∃v,r=.returned v/\zc w y/\Bq y v (((List.range' i n).map (Ao l.es L)).flatten):=by
 obtain⟨a,b,hb,B,-⟩:=lok h;obtain⟨-,-,⟨c2,f2⟩,-⟩:=Jr hb;have aN:=zg hb;obtain⟨P,hP⟩:∃P,P=4^L:=⟨_,rfl⟩;have aH:1<=P:=by rw[hP];exact jp (by omega)
 rw[<- hP]at aM;have aY:1*P<=(i+n)*P:=CK _ (by omega);obtain⟨g,rfl,-⟩:=Md B (by omega);have aS:=U2 B;have ay:=ze B;have ar:=ze ax;have HP:=ze hP;obtain⟨ti,an,N⟩:=zx.1 Nq;obtain⟨ao,ap,aq⟩:ti.zero=some (.int .u8 0)/\ti.size=1/\ti.bytes=1:=by simpa using N
 have HI:=ze an;have HZ:=ze (And.intro ao (And.intro ap aq));clear h hb B ax f2 hP an N ao ap aq;have aV:((L:Int)==-1)=false:=by rw[yp];omega
 go_enter func287,ntmps287
 go_wp2
 go_loopg [9,10,11] (n+1) (λgg t j _ wr=>∃k:Nat,k<=n/\n+1-k<=gg/\j=.int .i64 ((i+k:Nat):Int)/\zc w wr/\wr.ownsRow w.heap.size 5 1 t (((List.range' i k).map (Ao l.es L)).flatten).length ((((List.range' i k).map (Ao l.es L)).flatten).map bv)/\(((List.range' i k).map (Ao l.es L)).flatten).length=8*k/\(0<k->t≠ .slice none 0 0))
 case atStart=>exact⟨0,yk _,by omega,by simp,zu _ _,⟨rfl,.inl ⟨rfl,rfl⟩⟩,by simp,λh=>absurd h (M8 _)⟩
 case round =>
  obtain⟨k,hk,a0,rfl,ae,c,M,al⟩:=hrel;have V:=ze ae;have HO:=ze c;have Y:=ze M;have aC:=ze al;clear ae c M al
  by_cases a1:k<n
  ·have aU:((i+k:Nat):Int)<((i+n:Nat):Int):=by omega
   have ak:(i+k+1)*P<=(i+n)*P:=CK _ (by omega);have aj:(i+k+1)*P=(i+k)*P+P:=by rw[BW,Qg]
   obtain⟨C,D,E,F,G,H,I,K,hR⟩:=XC (j7 P ((l.es.drop ((i+k)*P)).take P)) (j5 _ _);have ad:hv (j7 P ((l.es.drop ((i+k)*P)).take P))=#[.int .u8 C.toNat,.int .u8 D.toNat,.int .u8 E.toNat,.int .u8 F.toNat,.int .u8 G.toNat,.int .u8 H.toNat,.int .u8 I.toNat,.int .u8 K.toNat]:=by rw[hR];rfl
   have aF:=ze ad;have aw:Hid (Ao l.es L (i+k)=[C,D,E,F,G,H,I,K]):=by
    show Ao l.es L (i+k)=_;unfold Ao;rw[if_neg (by omega),zz,<- HP.o];unfold yy;rw[show(List.take P (List.drop ((i+k)*P) l.es)).length=P by simp;omega];exact hR
   have W:wr.cell? ⟨x,2,none⟩=some (.slice (some ⟨g,0,none⟩) l.es.length b):=by rw[V.o.cell (p:=⟨x,2,none⟩) aN];exact c2
   have Z:=ze aj;have aZ:¬b=(i+k)*P:=by omega
   have a3:(i+k)*P<=(i+k+1)*P:=by omega
   have a4:(i+k+1)*P<=b:=by omega
   have aO:(i+k+1)*P<=1000000:=by omega
   have aP:(i+k)*P<=1000000:=by omega
   have a5:(i+k+1)*P<=l.es.length:=by omega
   clear hR ad ak aj;have af:∀X,Calls prog 297 #[.int .i64 (L:Int),.int .i64 ((i+k:Nat):Int)] X λr y=>r=.returned (.int .i64 (((i+k)*P:Nat):Int))/\y=X:=λX=>by
    have:=Pb L (by omega) (by omega) ((i+k:Nat):Int) (by omega) P (by rw[HP.o];simp) (by rw[zz];exact aP) X;rw[zz]at this;exact this
   have ag:∀X,Calls prog 297 #[.int .i64 (L:Int),.int .i64 (((i+k:Nat):Int)+1)] X λr y=>r=.returned (.int .i64 (((i+k+1)*P:Nat):Int))/\y=X:=λX=>by
    have:=Pb L (by omega) (by omega) (((i+k:Nat):Int)+1) (by omega) P (by rw[HP.o];simp) (by rw[show(((i+k:Nat):Int)+1).toNat=i+k+1 by omega];exact aO) X;rw[show(((i+k:Nat):Int)+1).toNat=i+k+1 by omega]at this;exact this
   generalize hA:(i+k)*P=A at *;generalize aG:(i+k+1)*P=A' at *;generalize hJ:i+k=J at *;have HJ:=ze hJ;have az:=ze af;have aA:=ze ag;clear hA aG hJ af ag;have aX:J<=2000000:=by
    have:=HJ.o;have hh:(i+n)*1<=(i+n)*P:=Nat.mul_le_mul_left _ aH;omega
   have Q:Hid (zc wr wr.drew):=(zu _ _).drew;have R:Hid (∀o,zc wr (wr.alloc o).drew):=λo=>(zi _ _).drew;have ab:Hid (∀X,zc wr X->Calls prog 59 #[.slice (some ⟨g,A,none⟩) (A'-A) (b-A)] X λr y=>r=.returned (.agg #[.int .u8 (C.toNat:Int),.int .u8 (D.toNat:Int),.int .u8 (E.toNat:Int),.int .u8 (F.toNat:Int),.int .u8 (G.toNat:Int),.int .u8 (H.toNat:Int),.int .u8 (I.toNat:Int),.int .u8 (K.toNat:Int)])/\zc X y):=λX hX=>by
    have hp:=I8 P (.slice (some ⟨g,A,none⟩) (A'-A) (b-A)) ((l.es.drop A).take P) X (by simp;omega) (by have:=Z.o;simp;omega) (λe aK=>zt (ar.o e (jz (qa aK))) (by unfold maxLen;omega)) (by
     have aJ:=((ay.o.bss'.below V.o).below hX).drop A (by omega);have h2:=aJ.take (A'-A) (by rw[vi];omega);rw[show A'-A=P by have:=Z.o;omega]at h2 ⊢;rw[xk]at h2;exact h2)
    rw[aF.o]at hp;exact hp
   go_wp2
   go_cut [11] from 23 to 43 (λaQ wx=>∃U,aQ=.pointer (some ⟨U,0,none⟩)/\wx.heap[U]?=some (.cells #[.int .u8 (C.toNat:Int),.int .u8 (D.toNat:Int),.int .u8 (E.toNat:Int),.int .u8 (F.toNat:Int),.int .u8 (G.toNat:Int),.int .u8 (H.toNat:Int),.int .u8 (I.toNat:Int),.int .u8 (K.toNat:Int)] 91 (0,0))/\wr.heap.size<=U/\zc wr wx)
   case first =>
    have a6:¬x=wr.heap.size:=by have:=yf W;simp only at this;omega
    have a7:¬wr.heap.size=x:=by omega
    have c6:IntKind.i64.wrap ((J:Int)+1)=(J:Int)+1:=by rw[Cw];omega
    go_region_held3 (λX=>X.cell? ⟨x,2,none⟩=some (.slice (some ⟨g,0,none⟩) l.es.length b)) (go_keep) (first
     |(go_at_call_of 297 (Value.int .i64 (J:Int));refine(az.o _).mono ?_;rintro r y ⟨rfl,rfl⟩)
     |(go_at_call 297;refine(aA.o _).mono ?_;rintro r y ⟨rfl,rfl⟩)
     |(go_at_call 59;refine(ab.o wr.drew Q.out).mono ?_;rintro r T ⟨rfl,f⟩;have d:zc wr T:=Q.out.trans (f.mono Q.out.size);have q2:T.cell? ⟨x,2,none⟩=some (.slice (some ⟨g,0,none⟩) l.es.length b):=(by rw[d.cell (p:=⟨x,2,none⟩) (yf W)];exact W);have q:=ze d;clear f d)
     |(go_at_call 59;refine(ab.o (wr.alloc (.cells #[.int .u8 0,.int .u8 0,.int .u8 0,.int .u8 0,.int .u8 0,.int .u8 0,.int .u8 0,.int .u8 0] 91)).drew (R.out _)).mono ?_;rintro r T ⟨rfl,f⟩;have d:zc wr T:=(R.out _).trans (f.mono (R.out _).size);have q2:T.cell? ⟨x,2,none⟩=some (.slice (some ⟨g,0,none⟩) l.es.length b):=(by rw[d.cell (p:=⟨x,2,none⟩) (yf W)];exact W);have m:T.heap[wr.heap.size]?=some (.cells #[.int .u8 0,.int .u8 0,.int .u8 0,.int .u8 0,.int .u8 0,.int .u8 0,.int .u8 0,.int .u8 0] 91 (0,0)):=(by rw[f.block _ (by show wr.heap.size<(wr.heap.push _).size;simp)];exact zf wr _);obtain⟨x0,x1,x2,x3,x4,x5,x6,x7⟩:=zmz m;have xz:=Ur m;have aD:=ze m;have q:=ze d;clear f d m))
    all_goals go_wp2_with fail
    all_goals go_meet
    all_goals first
     |(have hN:=aD.o;exact⟨wr.heap.size,rfl,zbi (.int .u8 (C.toNat:Int)) (.int .u8 (D.toNat:Int)) (.int .u8 (E.toNat:Int)) (.int .u8 (F.toNat:Int)) (.int .u8 (G.toNat:Int)) (.int .u8 (H.toNat:Int)) (.int .u8 (I.toNat:Int)) (.int .u8 (K.toNat:Int)) hN,zk _,VE q.o (zk _) (.int .u8 (C.toNat:Int)) (.int .u8 (D.toNat:Int)) (.int .u8 (E.toNat:Int)) (.int .u8 (F.toNat:Int)) (.int .u8 (G.toNat:Int)) (.int .u8 (H.toNat:Int)) (.int .u8 (I.toNat:Int)) (.int .u8 (K.toNat:Int))⟩)
     |exact⟨T.heap.size,rfl,zf _ _,q.o.size,q.o.alloc q.o.size _⟩
   case rest =>
    obtain⟨U,rfl,hB,aW,z⟩:=hcut;have av:=ze z;have au:=ze hB;have aa:Hid (wc.ownsRow w.heap.size 5 1 u9 (((List.range' i k).map (Ao l.es L)).flatten).length ((((List.range' i k).map (Ao l.es L)).flatten).map bv)):=yx HO.o z;have S:Hid (((List.range' i (k+1)).map (Ao l.es L)).flatten=((List.range' i k).map (Ao l.es L)).flatten++[C,D,E,F,G,H,I,K]):=by
     show _=_;rw[List.range'_1_concat,yv,Ej,List.map_singleton,HJ.o,aw.o];simp
    have m:Hid (∀j u,([.int .u8 (C.toNat:Int),.int .u8 (D.toNat:Int),.int .u8 (E.toNat:Int),.int .u8 (F.toNat:Int),.int .u8 (G.toNat:Int),.int .u8 (H.toNat:Int),.int .u8 (I.toNat:Int),.int .u8 (K.toNat:Int)]:List Value)[j]?=some u->wc.cell? ((⟨U,0,none⟩:Addr).add j)=some u):=λj u hj=>by
     rw[vp,xk,xe _ _ _ _ _ _ au.o];simpa using hj
    have a2:(((List.range' i k).map (Ao l.es L)).flatten).length<=32:=by have:=Y.o;omega
    have am:Hid (w.heap.size<=wc.heap.size):=zt V.o.size z.size;clear z hB W;generalize aL:((List.range' i k).map (Ao l.es L)).flatten=ff at *;clear aL;go_wp2_with (at_builtin;refine jf _ rfl _ _ _ rfl w.heap.size 5 ti (.int .u8 0) 1 1 underlying94 HI.o HZ.o.1 HZ.o.2.1 HZ.o.2.2 rfl (by omega) u9 ff.length (ff.map bv) rfl aa.o ⟨U,0,none⟩ 8 8 [.int .u8 (C.toNat:Int),.int .u8 (D.toNat:Int),.int .u8 (E.toNat:Int),.int .u8 (F.toNat:Int),.int .u8 (G.toNat:Int),.int .u8 (H.toNat:Int),.int .u8 (I.toNat:Int),.int .u8 (K.toNat:Int)] rfl rfl m.out (by simp[Value.oneCell']) (by omega) (by unfold maxLen;omega) (by omega) (am.out) wc.heap.size rfl ?_;intro g5 aR w5 c s aI ai;have aE:=ze c;have aB:=ze s;clear c s aI ai)
    go_roundg (gk-1)
    case rel =>
     have ah:=S.out;refine⟨k+1,by omega,by omega,by congr 1;have:=HJ.o;omega,((V.o.trans (av.o.mono V.o.size)).grown aB.o am.out (vg aa.o)),?_,?_,λ_ h=>by simp at h⟩
     ·rw[ah,zw,yv];exact aE.o
     ·rw[ah,zw,Y.o];simp;omega
    case measure=>omega
  ·obtain rfl:k=n:=by omega
   go_wp2
   go_ret;exact⟨_,rfl,V.o,(show OB wr w.heap.size _ _ from ⟨HO.o,aC.o (by omega)⟩).bq⟩
variable {B':Nat}{d d':Dk}
def zez (o:Option (zb))(B:Nat)(e:Value)(w:World):Prop:=(o=none/\e=.nilIface)\/∃p,o=some p/\EF true p B e w
def zez.weaken {o:Option (zb)}{e:Value}(h:zez o B e w)(c:B'<=B):zez o B' e w:=by
 rcases h with h|⟨p,a,b⟩
 ·exact .inl h
 ·exact .inr ⟨p,a,b.weaken c⟩
def zib (d:Dk)(p x:zb):(E0 d p x).fs.length<=d.fs.length+1:=by
 have h:=LR d.fs p x;unfold E0;split
 ·split
  ·split
   ·exact h
   ·rw[je];omega
  ·show(qu d).fs.length<=_;rw[je];omega
 ·split
  ·exact h
  ·rw[je];omega
def Me:∀(t:Fs) (d:Dk) ,(AU t d).2.fs.length<=d.fs.length+t.length
 |[],d=>by simp[AU]
 |f::r,d=>by
  have h:=zib d f.1 f.2;unfold AU;split
  ·simp;omega
  ·have:=Me r (E0 d f.1 f.2);simp;omega
def Sf (a:za)(l:Int)(b c t:Nat):Fs:=(List.range' b t).map (Eb a l c)
def SM (a:za)(l:Int)(b c t:Nat):Sf a l b c (t+1)=Sf a l b c t++[Eb a l c (b+t)]:=by
 unfold Sf;rw[List.range'_1_concat,yv]
 rfl
def QC (b:za)(l:Int)(a c t:Nat)(h:t<=(c+3)/4-a):Lw b l a c=Sf b l a c t++(List.range' (a+t) ((c+3)/4-a-t)).map (Eb b l c):=by
 unfold Lw Sf;rw[<- yv,List.range'_append_1];congr 2;omega
def Tt {a b:Fs}{p:zb}(h:AU a d=(some p,d')):AU (a++b) d=(some p,d'):=by rw[Ku,h]
def zdf {a:Fs}{f:zb×zb}(h:AU a d=(none,d')):AU (a++[f]) d=if Mo d' f.1 f.2 then (some f.1,E0 d' f.1 f.2) else (none,E0 d' f.1 f.2):=by
 rw[Ku,h];simp only[AU]
def zga (O:Nat->Prop)(d c:Nat)(l:Lg)(w:World)(k:l.es.length<=1000000)(f:∀e∈l.es,e.length<=20)(h:Ak w O d c l)(a:Int)(o:-1<=a)(p:a<=20)(i n:Nat)(b:i+n<=qx a l.es.length)(g:1<=n)(j:n<=4):
  Calls prog 287 #[.pointer (some ⟨c,0,none⟩),.int .i64 a,.int .i64 i,.int .i64 ((i+n:Nat):Int)] w λr m=>∃v,r=.returned v/\zc w m/\Bq m v (((List.range' i n).map (Ao l.es a)).flatten):=by
 by_cases e:a=-1
 ·subst e;exact zbr O d c l w k f h i n (by simpa[qx]using b) g j
 ·obtain⟨L,rfl⟩:=qc (show 0<=a by omega);refine zbs O d c l w k f h L (by omega) i n ?_ g j;unfold qx at b;rw[zz]at b;exact(BM (jp (by omega))).1 b
def zb8 (O:Nat->Prop)(W:World)(hE:DW W)(ag:∀k,O k->W.heap.size<=k)(G N:Nat)(d:Dk)(l:Lg)(w:World)(hn:d.fs.length<=900000000)(he:l.es.length<=1000000)(ao:l.put<=l.es.length)(ax:∀e∈l.es,e.length<=20)(aH:l.live=true)(hW:zc W w)(h:ym w O G d)(hL:Ak w O G N l)(i:Int)(am:-1<=i)(aG:i<=20):
  Calls prog 253 #[.pointer (some ⟨N,0,none⟩),.int .i64 i] w λr w'=>∃e,r=.returned e/\zez (AU (IN l.es l.put i) d).1 w.heap.size e w'/\zl O dT w w'/\ym w' (qv O w w') G (AU (IN l.es l.put i) d).2:=by
 have HD:=ze h;have az:=ze hL;have aq:=ze ax;have HW:=ze hW;have HO:=ze ag;have aD:=ze hE;obtain⟨a,aC,hb,aF,-⟩:=lok hL;obtain⟨⟨c0,f0⟩,-,⟨c2,f2⟩,⟨c3,f3⟩⟩:=Jr hb;have aX:=zg hb;have aR:=IY i l.es.length;have aS:qx i l.put<=qx i l.es.length:=CJ ao;have K:Hid (IN l.es l.put i=if qx i l.es.length=qx i l.put then [] else Lw l.es i (qx i l.put/4) (qx i l.es.length)):=rfl;clear h hL ax hW ag hE hb aF f0 f2 f3 c0;go_enter func253,ntmps253
 go_wp2
 go_region_held3 (λX=>X.cell? ⟨N,2,none⟩=some (.slice a l.es.length aC)/\X.cell? ⟨N,3,none⟩=some (.int .i64 (l.put:Int))) (go_keep) (first
  |(go_at_call 227;refine(OX i am (by omega) _ _).mono ?_;rintro r w' ⟨rfl,rfl⟩))
 generalize ak:qx i l.es.length=c at *;generalize aj:qx i l.put=b at *;have ar:=ze (And.intro ak aj);clear ak aj c2 c3
 by_cases D:c=b
 ·have A:Hid (AU (IN l.es l.put i) d=(none,d)):=by show _=_;rw[K.o,if_pos D];rfl
  have q1:((c:Int)==(b:Int))=true:=by rw[CY];omega
  clear D
  go_wp2
  go_ret;rw[A.o];exact⟨_,rfl,.inl ⟨rfl,rfl⟩,(zl.refl _ _ _).drew,(HD.o.stay (O1:=λ_=>False) (T:=[]) (zl.refl _ _ w).drew (by simp) (by simp)).mono (λ_ h=>.inl h)⟩
 ·have u:Hid (IN l.es l.put i=Lw l.es i (b/4) c):=by show _=_;rw[K.o,if_neg D]
  have q1:((c:Int)==(b:Int))=false:=by rw[yp];omega
  have aQ:b<c:=by omega
  obtain⟨m,L⟩:∃m,m=b/4:=⟨_,rfl⟩;have aw:=ze L;have aV:4*m<=b:=by omega
  have aW:b<4*m+4:=by omega
  rw[<- L]at u;clear D L K
  go_wp2
  go_loopg [7,8,9,10] (c+1) (λgg s7 _ _ _ wr=>∃(t:Nat) (z:Dk),s7=.int .i64 ((4*(m+t):Nat):Int)/\4*(m+t)<c+4/\c+1-4*t<=gg/\AU (Sf l.es i m c t) d=(none,z)/\zl O dT w wr/\ym wr (qv O w wr) G z)
  case atStart=>exact⟨0,d,by congr 1;have:=aw.o;omega,by omega,by omega,rfl,(zl.refl _ _ _).drew,(HD.o.stay (O1:=λ_=>False) (T:=[]) (zl.refl _ _ w).drew (by simp) (by simp)).mono (λ_ h=>.inl h)⟩
  case round =>
   obtain⟨t,z,rfl,p,aU,M,hT,hD⟩:=hrel;have A:=ze M;have HT:=ze hT;have R:=ze hD;have aJ:t<=(c+3)/4-m:=by omega
   have V:=ze (az.o.stay hT (by decide) (by decide) (by decide));have ae:=HW.o.trans (hT.below HO.o HW.o.size);have af:=aD.out.below ae;have aE:z.fs.length<=1000000000:=by
    have h1:=Me (Sf l.es i m c t) d;rw[M]at h1;have h2:(Sf l.es i m c t).length=t:=by unfold Sf;simp
    simp only[h2]at h1;omega
   clear M hT hD ae;obtain⟨J,hJ⟩:∃J,J=m+t:=⟨_,rfl⟩;rw[<- hJ]at p ⊢;have P:=ze hJ;obtain⟨F,hF⟩:∃F,F=4*J:=⟨_,rfl⟩;rw[<- hF]at p ⊢;have I:=ze hF
   by_cases aY:F<c
   ·have an:(F:Int)<(c:Int):=by omega
    obtain⟨j,q⟩:∃j,j=CD c J:=⟨_,rfl⟩;have aK:1<=j:=by rw[q];unfold CD;omega
    have aL:j<=4:=by rw[q];unfold CD;omega
    have aM:F+j<=c:=by rw[q];unfold CD;omega
    have aZ:min ((F:Int)+4) (c:Int)=(F:Int)+(j:Int):=by rw[q];unfold CD;omega
    have aB:=ze q;have aP:J<=1000000:=by omega
    clear hJ hF q;have ad:Hid (Eb l.es i c (m+t)=(qz i J j,((List.range' F j).map (Ao l.es i)).flatten)):=by
     show _=_;rw[<- P.o];unfold Eb D6;rw[<- aB.o,<- I.o]
    go_wp2_with fail;rw[show((F:Int)/4)=(J:Int) by have:=I.o;omega,show((F:Int)+(j:Int)-(F:Int))=(j:Int) by omega];refine(Iv i J j (by omega) wr af).mono ?_;rintro r w2 ⟨rfl,B⟩;have ai:=HT.o.ah B;have aA:=ze ai;have x:zl O [] wr w2:=.aa B;have U:=ze (V.o.stay x (by decide) (by decide) (by decide));have au:=ze (R.o.stay x (by decide) (by decide));have aI:=ze B.size;clear B ai x af;go_wp2_with fail;rw[show((F:Int)+(j:Int))=((F+j:Nat):Int) by omega];refine(zga _ G N l w2 he aq.o U.o i am aG F j (by rw[ar.o.1];exact aM) aK aL).mono ?_;rintro r w3 ⟨v,rfl,C,hq⟩;have HQ:=ze hq;obtain⟨va,vn,vc,rfl⟩:=Vo hq;have y:zl O [] w2 w3:=.aa C;have Z:=ze (aA.o.ah C);have ay:=ze (U.o.stay y (by decide) (by decide) (by decide));have av:=ze (au.o.stay y (by decide) (by decide));have ap:=ze (zt aI.out C.size);have H:w3.cell? ⟨N,0,none⟩=some (UN G true):=by
     obtain⟨_,_,hb,-⟩:=lok ay.o;have:=(Jr hb).1.1;rw[aH]at this;exact this
    clear C hq y;generalize aN:((List.range' F j).map (Ao l.es i)).flatten=xx at *;go_wp2_with fail;refine(zg7 (qv O w wr) G N z (qz i J j) xx (.slice va vn vc) w3 aE av.o HQ.o H).mono ?_;rintro r w4 ⟨e,rfl,E,p,al⟩;have ab:=ze (Z.o.trans (p.mono (λk hk=>by rcases hk with h|h;exact .inl h;exact .inr ⟨h.1,zq h.2 ap.out⟩) (λ_ h=>h)));have Q:Hid (ym w4 (qv O w w4) G (E0 z (qz i J j) xx)):=al.mono (λk hk=>by
     have a0:=HT.o.size;have aO:=p.size;have:=ap.out;rcases hk with (h|h)|h
     ·exact .inl h
     ·exact .inr (by omega)
     ·exact .inr (by omega))
    have Y:=ze (zdf (f:=Eb l.es i c (m+t)) A.o);have S:=ze (E.weaken Z.o.size);clear p al H aN;rcases Bw E with ⟨n,rfl⟩|⟨n,g,rfl⟩
    ·have s:Hid (AU (Sf l.es i m c (t+1)) d=(none,E0 z (qz i J j) xx)):=by
      show _=_;rw[SM,Y.o,ad.o];simp only[n,vz,CM]
     clear E n
     go_wp2
     go_roundg (gk-1)
     case rel=>exact⟨t+1,E0 z (qz i J j) xx,by congr 1;have:=P.o;have:=I.o;omega,by have:=P.o;have:=I.o;omega,by omega,s.o,ab.o,Q.o⟩
     case measure=>have:=P.o;have:=I.o;omega
    ·have s:Hid (AU (IN l.es l.put i) d=(some (qz i J j),E0 z (qz i J j) xx)):=by
      show _=_;rw[u.o,QC l.es i m c (t+1) (by have:=P.o;have:=I.o;omega)];refine Tt ?_;rw[SM,Y.o,ad.o];simp only[n,if_true]
     rw[n]at S;clear E n
     go_wp2
     go_ret;rw[s.o];exact⟨_,rfl,.inr ⟨_,rfl,S.o⟩,ab.o,Q.o⟩
   ·have s:Hid (AU (IN l.es l.put i) d=(none,z)):=by
     show _=_;rw[u.o,QC l.es i m c t aJ,show(c+3)/4-m-t=0 by have:=P.o;have:=I.o;omega];simp only[List.range'_zero,DQ,AT];exact A.o
    have an:¬(F:Int)<(c:Int):=by omega
    go_wp2
    go_ret;rw[s.o];exact⟨_,rfl,.inl ⟨rfl,rfl⟩,HT.o,R.o⟩
variable {l':Int}
def XE (b:za)(a t:Nat):Fs:=(List.range t).flatMap λ(k:Nat)=>IN b a ((k:Int)-1)
def Xt (b:za)(a t:Nat):XE b a (t+1)=XE b a t++IN b a ((t:Int)-1):=by
 unfold XE;rw[DK,KA];simp
def zag (b:za)(a:Nat):XE b a 22=A9 b a:=by
 unfold XE A9 UQ;rw[List.range_succ_eq_map,DO,List.flatMap_map];congr 1
def V5 {l:Int}(h:l<=l')(n:Nat):qx l' n<=qx l n:=by
 unfold qx;exact Nat.div_le_div_left (j2 (by omega) (by omega)) (jp (by omega))
def zi8 (b:za)(a t:Nat)(c:a<=b.length)(d:t<=22)(h:qx ((t:Int)-1) b.length=0):XE b a t=A9 b a:=by
 rw[<- zag];unfold XE;rw[SH _ t 22 d];intro k g;have e:=V5 (show((t:Int)-1)<=((k:Int)-1) by omega) b.length;have f:qx ((k:Int)-1) a<=qx ((k:Int)-1) b.length:=CJ c;unfold IN;rw[if_pos (by omega)]
def zj9 (n:Nat)(d:n<=1000000)(l:Int)(a:10<=l):qx l n=0:=by
 have b:=V5 a n;have c:qx 10 n=0:=by
  unfold qx;exact Cy (by simp;omega)
 omega
def zah (b:za)(a:Nat):∀(n t:Nat),∃r,XE b a (t+n)=XE b a t++r
 |0,t=>⟨[],by simp⟩
 |n+1,t=>by
  obtain⟨r,c⟩:=zah b a n t;exact⟨r++IN b a (((t+n:Nat):Int)-1),by rw[<- AP,Xt,c,qk]⟩
def TE (b:za)(a t:Nat)(d:t<=22):∃r,A9 b a=XE b a t++r:=by
 obtain⟨r,c⟩:=zah b a (22-t) t;rw[show t+(22-t)=22 by omega,zag]at c;exact⟨r,c⟩
def zh8 {A9:Fs}{c:zb}{p:zb}(h:AU A9 d=(some p,d')):CZ A9 c d=(some p,d'):=by
 unfold CZ;rw[h]
def zh9 {A9:Fs}{c:zb}(h:AU A9 d=(none,d')):CZ A9 c d=if Jy d' then (some CA,GR d' CA c) else (none,GR d' CA c):=by
 unfold CZ;rw[h]
def zet (O:Nat->Prop)(W:World)(hE:DW W)(aa:∀k,O k->W.heap.size<=k)(G T:Nat)(d:Dk)(l:Lg)(w:World)(hn:d.fs.length+(A9 l.es l.put).length<=900000000)(he:l.es.length<=1000000)(y:l.put<=l.es.length)(ax:∀e∈l.es,e.length<=20)(hk:l.key.length<=9223372036854775807)(R:l.live=true)(hW:zc W w)(h:ym w O G d)(hL:Ak w O G T l):
  Calls prog 215 #[.pointer (some ⟨T,0,none⟩)] w λr U=>∃e,r=.returned e/\zez (CZ (A9 l.es l.put) (AR l.es.length (yy l.es) l.key) d).1 w.heap.size e U/\zl O dT w U/\ym U (qv O w U) G (CZ (A9 l.es l.put) (AR l.es.length (yy l.es) l.key) d).2:=by
 have HD:=ze h;have V:=ze hL;have I:=ze ax;have Y:=ze hW;have HO:=ze aa;have P:=ze hE;obtain⟨a,aj,hb,-⟩:=lok hL;obtain⟨-,-,⟨c2,f2⟩,-⟩:=Jr hb;go_enter func215,ntmps215
 go_wp2
 go_loopg [4,5] 30 (λgg s4 _ wr=>∃(t:Nat) (f:Dk),t<=11/\30-t<=gg/\s4=.int .i64 ((t:Int)-1)/\AU (XE l.es l.put t) d=(none,f)/\zl O dT w wr/\ym wr (qv O w wr) G f)
 case atStart=>exact⟨0,d,by omega,by omega,rfl,rfl,zl.refl _ _ _,HD.o.mono (λ_ h=>.inl h)⟩
 case round =>
  obtain⟨t,f,ai,ak,rfl,af,hT,hD⟩:=hrel;have s:=ze af;have F:=ze hT;have K:=ze hD;have u:=ze ((V.o.stay hT (by decide) (by decide) (by decide)).mono (O':=qv O w wr) (λ_ h=>.inl h));have Z:=Y.o.trans (hT.below HO.o Y.o.size);have J:=ze Z;have X:Hid (∀k,qv O w wr k->W.heap.size<=k):=qv.base HO.o Y.o.size;obtain⟨c,v⟩:∃c:Int,(t:Int)-1=c:=⟨_,rfl⟩;have x:-1<=c:=by omega
  have ag:c<=10:=by omega
  have q:=ze v;rw[v];go_wp2_with fail;refine(OX c x (by omega) l.es.length wr).mono ?_;rintro r S ⟨rfl,rfl⟩
  by_cases hc:0<qx c l.es.length
  ·have ab:(0:Int)<((qx c l.es.length:Nat):Int):=by omega
   have ah:t<=10:=by
    rcases qf 10 t with h|h
    ·have:=zj9 l.es.length he c (by have:=q.o;omega);omega
    ·exact h
   generalize qx c l.es.length=cc at ab ⊢;have D:f.fs.length<=900000000:=by
    have H:=Me (XE l.es l.put t) d;rw[s.o]at H;obtain⟨rr,E⟩:=TE l.es l.put t (by omega);have h2:(A9 l.es l.put).length=(XE l.es l.put t).length+rr.length:=by rw[E,zw]
    simp only at H;omega
   go_wp2_with fail;refine(zb8 (qv O w S) W P.out X.o G T f l S D he y I.o R J.o K.o u.o c x (by omega)).mono ?_;rintro r w2 ⟨e,rfl,ad,m,C⟩;have j:=ze (F.o.trans m);have i:=ze (C.mono (qv.trans F.o.size m.size));have L:Hid (AU (XE l.es l.put (t+1)) d=AU (IN l.es l.put c) f):=by
    show _=_;rw[Xt,Ku,s.o,q.o]
   rcases ad with ⟨ae,rfl⟩|⟨p,hp,b⟩
   ·have A:Hid (AU (XE l.es l.put (t+1)) d=(none,(AU (IN l.es l.put c) f).2)):=by
     show _=_;rw[L.o];exact Prod.ext ae rfl
    generalize (AU (IN l.es l.put c) f).2=d2 at *
    go_wp2
    go_roundg (gk-1)
    case rel=>exact⟨t+1,d2,by omega,by omega,by congr 1;have:=q.o;omega,A.o,j.o,i.o⟩
    case measure=>omega
   ·have A:Hid (CZ (A9 l.es l.put) (AR l.es.length (yy l.es) l.key) d=(some p,(AU (IN l.es l.put c) f).2)):=by
     show _=_;obtain⟨rr,E⟩:=TE l.es l.put (t+1) (by omega);refine zh8 ?_;rw[E];refine Tt ?_;rw[L.o];exact Prod.ext hp rfl
    obtain⟨g,rfl⟩:∃g,e=.iface 178 (.pointer (some ⟨g,0,none⟩)):=by
     rcases Bw b with ⟨h,-⟩|⟨-,h⟩
     ·simp at h
     ·exact h
    have z:=ze (b.weaken F.o.size)
    go_wp2
    go_ret;rw[A.o];exact⟨_,rfl,.inr ⟨p,rfl,z.o⟩,j.o,i.o⟩
  ·have Q:qx c l.es.length=0:=by omega
   have N:=ze (zi8 l.es l.put t y (by omega) (by rw[q.o];exact Q));rw[Q];have D:f.fs.length<=1000000000:=by
    have H:=Me (XE l.es l.put t) d;rw[s.o]at H;rw[N.o]at H;simp only at H;omega
   go_wp2_with fail;refine(zcc (qv O w S) (qv O w S) G T f l S (P.out.below J.o) D he I.o hk R K.o u.o).mono ?_;rintro r w2 ⟨e,rfl,b,m,C⟩;have j:=ze (F.o.trans m);have i:=ze (C.mono (qv.trans F.o.size m.size));have M:Hid (CZ (A9 l.es l.put) (AR l.es.length (yy l.es) l.key) d=if Jy f then (some CA,GR f CA (AR l.es.length (yy l.es) l.key)) else (none,GR f CA (AR l.es.length (yy l.es) l.key))):=by
    refine zh9 ?_;rw[<- N.o];exact s.o
   have z:=ze (b.weaken F.o.size);rcases Bw b with ⟨B,rfl⟩|⟨B,g,rfl⟩
   ·clear b;have n:=ze B
    go_wp2
    go_ret;rw[M.o,n.o];exact⟨_,rfl,.inl ⟨rfl,rfl⟩,j.o,i.o⟩
   ·clear b;have n:=ze B
    go_wp2
    go_ret;rw[M.o,n.o];refine⟨_,rfl,.inr ⟨CA,rfl,?_⟩,j.o,i.o⟩;have:=z.o;rw[n.o]at this;exact this
end Go.Proofs.YtfdbeldiomkdiaaGreatDoor
