import Derived.Test.YtfdbeldiomkdiaaGreatDoorG09
set_option maxHeartbeats 8000000
set_option maxRecDepth 100000
set_option linter.all false
namespace Go.Proofs.YtfdbeldiomkdiaaGreatDoor
open Go.RowKit Go.Proofs.Tryz
def vr:=@List.take_append_of_le_length
def AX:=@Option.getD_some
def EK:=@List.cons.injEq
def My:=@grownCap_ge
def NV:=@Nat.zero_mul
variable {B B' cap' g o off:Nat}{acc ls:za}{l rr:zb}{u v x:Value}{w w' w1 w2 wr:World}
def J8 (a:Addr)(n c:Nat)(l:zb)(w:World)(I:l.length=n)(K:n<=1000000)(E:∀j u,(l.map bv)[j]?=some u->w.cell? (a.add j)=some u):
  Calls prog 122 #[.slice (some a) n c] w λr y=>∃x,r=.returned x/\OB y w.heap.size x l/\zc w y:=by
 obtain⟨i,F,m⟩:=zx.1 Nq;obtain⟨p,s,t⟩:i.zero=some (.int .u8 0)/\i.size=1/\i.bytes=1:=by simpa using m
 have B:=ze F;have g:=ze (And.intro p (And.intro s t));have q:∀(w:World) (a:Option Addr) (n c v h:Nat),(binOp .eql 94 (.slice a n c) (.slice none v h)).run prog w=.ok (.bool a.isNone) w:=λw a n c v h=>EZ w _ _ a n c v h underlying94;have z:=ze E;go_enter func122,ntmps122;go_wp2_with (at_builtin;refine M6 _ rfl _ _ 94 rfl w.heap.size 5 i (.int .u8 0) 1 1 underlying94 B.o g.o.1 g.o.2.1 g.o.2.2 rfl (by decide) (.slice (some ⟨w.heap.size,0,none⟩) 0 0) 0 [] rfl (World.ownsRow_made w #[] 0 (zk _) (yk _) rfl) a n c (l.map bv) rfl (by simp;omega) (λj u G=>Lib.cell?_alloc_some _ (z.o j u G)) (XV l) (by unfold maxLen;omega) (by omega) (by simp) ?_;intro J L f b d;have D:=ze f;have A:=ze b;have C:=ze d);go_ret;refine⟨J,rfl,⟨by have:=D.o;rw[I];simpa using this,λe=>absurd (C.o.1 e).1 (by simp)⟩,?_⟩;exact((zu _ w).alloc (zk _) _).grown A.o (by simp) (by intro k H;simp[Value.ownBlock]at H;omega)
def OB.grown {n:Nat}{xs:List Value}(h:OB w B x l)(k:w.ownsRow B' 94 1 v n xs)(e:w.grownBy w' v.ownBlock):OB w' B x l:=by
 refine⟨⟨h.1.1,?_⟩,h.2⟩;rcases h.1.2 with h0|⟨g,b,c,rfl,j,d,r⟩
 ·exact .inl h0
 ·refine .inr ⟨g,b,c,rfl,j,?_,r⟩;rw[e.block g (vk d) ?_]
  ·exact d
  ·intro f;rcases k.2 with ⟨rfl,_⟩|⟨o,m,i,rfl,_,a,_⟩
   ·simp[Value.ownBlock]at f
   ·simp only[Value.ownBlock,zn]at f;subst f;rw[d]at a;simp at a
def OB.weaken (h:OB w B x l)(c:B'<=B):OB w B' x l:=by
 refine⟨⟨h.1.1,?_⟩,h.2⟩;rcases h.1.2 with h0|⟨g,a,b,rfl,d,r⟩
 ·exact .inl h0
 ·exact .inr ⟨g,a,b,rfl,zt c d,r⟩
def KB (w:World)(B:Nat)(v:Value)(a:za):Prop:=
 ∃b:List Value,w.ownsRow B 94 1 v a.length b/\∀j (h:j<a.length),∃x,b[j]?=some x/\OB w B x a[j]
def KB.nil (w:World)(B:Nat):KB w B (.slice none 0 0) []:=⟨[],⟨rfl,.inl ⟨rfl,rfl⟩⟩,λj a=>by simp at a⟩
def QT {b:List Value}{o:Obj}(n:B<=wr.heap.size)(m:wr.ownsRow B 94 1 u ls.length b)
 (s:∀j (h:j<ls.length),∃x,b[j]?=some x/\OB wr B x ls[j])
 (c:zc wr w1) (r:OB w1 wr.heap.size x l)
 (i:w2.ownsRow B 94 1 (.slice (some ⟨g,0,none⟩) (ls.length+1) cap') (ls.length+1) (b++[x]))
 (a:(w1.alloc o).grownBy w2 u.ownBlock) :
  KB w2 B (.slice (some ⟨g,0,none⟩) (ls.length+1) cap') (ls++[l]):=by
 have k:b.length=ls.length:=by rw[m.1,Ba]
 have f:(w1.alloc o).ownsRow B 94 1 u ls.length b:=yx (yx m c) (zi _ _);refine⟨b++[x],by simpa using i,λj q=>?_⟩
 by_cases d:j<ls.length
 ·obtain⟨y,e,p⟩:=s j d;refine⟨y,by rw[qh (by omega)];exact e,?_⟩;rw[List.getElem_append_left d];exact((p.below c).below (zi _ _)).grown f a
 ·obtain rfl:j=ls.length:=by simp at q;omega
  refine⟨x,by rw[qq (by omega),k];simp,?_⟩;rw[List.getElem_append_right (zk _)];simp only[Nat.sub_self,Af];exact((r.weaken n).below (zi _ _)).grown f a
def zlp {p q:Bool}(h:p=q):Ending.returned (.tuple #[x,.bool p])=.returned (.tuple #[x,.bool q]):=by rw[h]
def zas (w:World)(v:Value)(r:zb):Prop:=∃a b,v=.slice (some a) r.length b/\r.length<=b/\a.spot=none/\∀i (h:i<r.length),w.cell? ⟨a.block,a.off+i,none⟩=some (bv r[i])
def QS (h:OB w B x l):∀u∈[x],u.oneCell'=true:=by
 intro u b;obtain rfl:u=x:=by simpa using b
 obtain⟨g,a,rfl,-⟩:=h.form
 rfl
def zhm {a:Addr}(h:rr.length=0)(n:Nat):∀j u,((rr.take n).map bv)[j]?=some u->wr.drew.cell? (a.add j)=some u:=by
 intro j u b;obtain rfl:rr=[]:=vw.1 h;simp at b
def JL (h:OB w B x l):∃g c n,x=.slice (some ⟨g,0,none⟩) n c:=by
 obtain⟨g,a,rfl,-⟩:=h.form;exact⟨g,a,_,rfl⟩
def zfc (h:∀l∈acc,l.length<=20)(b:l.length<=20):∀m∈acc++[l],m.length<=20:=by
 intro m c;rcases yj.1 c with a|a
 ·exact h m a
 ·obtain rfl:m=l:=by simpa using a
  exact b
def zom:Value->Nat
 |.slice _ n _=>n
 |_=>0
def Tu {b:Nat}(g:∀i (h:i<rr.length),w.cell? ⟨b,off+1+i,none⟩=some (bv rr[i]))(n a d:Nat)(c:rr.length-n<=a)(f:n<rr.length->d=off+1+n):
  zas w (.slice (some ⟨b,d,none⟩) (rr.length-n) a) (rr.drop n):=by
 refine⟨⟨b,d,none⟩,a,by rw[vi],by rw[vi];exact c,rfl,λi e=>?_⟩;rw[vi]at e;obtain rfl:=f (by omega);rw[Ai];show w.cell? ⟨b,off+1+n+i,none⟩=_;rw[AP (off+1)];exact g (n+i) (by omega)
def zin {b:Nat}(h:l.length=0):zas w (.slice (some ⟨b,o,none⟩) 0 0) l:=
 ⟨⟨b,o,none⟩,0,by rw[h],by rw[h];exact zk _,rfl,λi a=>by omega⟩
def RB {b:Nat}(g:∀i (h:i<rr.length),w.cell? ⟨b,off+1+i,none⟩=some (bv rr[i]))(f:zc w wr)(n:Nat):∀j u,((rr.take n).map bv)[j]?=some u->wr.drew.cell? ((⟨b,off+1,none⟩:Addr).add j)=some u:=by
 intro j u c;have a:j<(rr.take n).length:=by simpa using (qm.1 c).1
 have d:j<rr.length:=by simp at a;omega
 have e:=g j d;rw[vp];show wr.cell? ⟨b,off+1+j,none⟩=_;rw[f.cell (p:=⟨b,off+1+j,none⟩) (yf (p:=⟨b,off+1+j,none⟩) e),e];rw[List.getElem?_map,zo a,js]at c;simpa using c
def zai (v:Value)(d:zb)(w:World)(h:zas w v d):
  Calls prog 81 #[v] w λr w'=>∃x,r=.returned (.tuple #[x,.bool (DV d).isSome])/\zc w w'/\KB w' w.heap.size x ((DV d).getD []):=by
 obtain⟨i,hi,ak⟩:=zx.1 JH;obtain⟨an,ao,ap⟩:i.zero=some (.slice none 0 0)/\i.size=1/\i.bytes=24:=by simpa using ak
 have HI:=ze hi;have L:=ze (And.intro an (And.intro ao ap));have ah:=ze h;go_enter func81,ntmps81
 go_wp2
 go_loopw [0,4] (λt u wr=>∃(r:zb) (a:za),zas w t r/\Un d a r/\zc w wr/\KB wr w.heap.size u a/\a.length<=4/\∀l∈a,l.length<=20) (λt _ _=>zom t)
 case atStart=>exact⟨d,[],ah.o,Un.start _,zu _ _,KB.nil _ _,yk _,λl hl=>by simp at hl⟩
 case round =>
  obtain⟨r,a,⟨⟨b,D,ag⟩,C,rfl,aa,U,T⟩,af,aj,ad,h4,Y⟩:=hrel;obtain rfl:ag=none:=U;have M:=ze af;have m:=ze aj;have HA:=ze Y;have HC:=ze T;obtain⟨R,ho,am⟩:=ad;have G:=ze ho;have V:=ze am;obtain⟨N,P,al⟩:∃N P,u4=.slice N a.length P:=by
   rcases ho.2 with ⟨e,e0⟩|⟨g,C,au,e,_⟩
   ·exact⟨none,0,by rw[e,e0]⟩
   ·exact⟨_,_,e⟩
  subst al;have ab:=af.2;cases r with
  |nil =>
   by_cases h1:1<=a.length
   ·have n1:(0:Int)<(a.length:Int):=by omega
    have q:=ze (M.o.bK (QW h1 h4 (λj hj=>HA.o _ (ye hj)))).1;have HD:=ze (show decide (0<a.length)=true by simp;omega)
    go_wp2
    go_ret2
    exact⟨_,by rw[q.o];exact zlp HD.o,m.o,by rw[q.o];exact⟨R,G.o,V.o⟩⟩
   ·have h0:a.length=0:=by omega
    have q:=ze (M.o.bz (N5 h0));obtain rfl:a=[]:=vw.1 h0
    go_wp2
    go_ret2
    exact⟨_,by rw[q.o];rfl,m.o,by rw[q.o];exact⟨R,G.o,V.o⟩⟩
  |cons c s =>
   simp only[xf]at aa ab ⊢;have K:=HC.o 0 (by simp);rw[NU]at K;simp only[Af]at K;rw[<- m.o.cell (yf (p:=⟨b,D,none⟩) K)]at K;unfold bv at K;have aw:=c.toNat_lt;have HS:Hid (∀i (h:i<s.length),w.cell? ⟨b,D+1+i,none⟩=some (bv s[i])):=λi h=>by
    have:=HC.o (i+1) (by simp;omega);rw[show D+(i+1)=D+1+i by omega]at this;simpa using this
   by_cases e4:a.length=4
   ·have q:=ze (M.o.many (by omega));have n4:((a.length:Int)==4)=true:=by rw[CY];omega
    by_cases S:C=1
    ·subst S
     go_wp2
     go_region
     all_goals go_wp2
     all_goals go_ret2
     all_goals exact⟨_,by rw[q.o];rfl,m.o.drew,by rw[q.o];exact KB.nil _ _⟩
    ·go_wp2
     go_region
     all_goals go_wp2
     all_goals go_ret2
     all_goals exact⟨_,by rw[q.o];rfl,m.o.drew,by rw[q.o];exact KB.nil _ _⟩
   ·have n4:((a.length:Int)==4)=false:=by rw[yp];omega
    by_cases ai:20<c.toNat
    ·have q:=ze (M.o.long ai);have aq:(20:Int)<(c.toNat:Int):=by omega
     by_cases S:C=1
     ·subst S
      go_wp2
      go_region
      all_goals go_wp2
      all_goals go_ret2
      all_goals exact⟨_,by rw[q.o];rfl,m.o.drew,by rw[q.o];exact KB.nil _ _⟩
     ·go_wp2
      go_region
      all_goals go_wp2
      all_goals go_ret2
      all_goals exact⟨_,by rw[q.o];rfl,m.o.drew,by rw[q.o];exact KB.nil _ _⟩
    ·have aq:¬(20:Int)<(c.toNat:Int):=by omega
     by_cases E:c.toNat<=s.length
     ·have nf:¬(s.length:Int)<(c.toNat:Int):=by omega
      by_cases S:C=1
      ·have ax:s.length=0:=by omega
       have ar:c.toNat=0:=by omega
       subst S
       go_wp2
       go_region
       go_wp2_with fail;refine(J8 ⟨b,D,none⟩ 0 0 (s.take c.toNat) wr.drew (by simp;omega) (by omega) (zhm (by omega) _)).mono ?_;rintro r B ⟨x,rfl,z,J⟩;obtain⟨X,W,nx,rfl⟩:=JL z;have y:=ze z;have k:=ze (Mq (zu _ _).drew J);have H:Hid (∀o,(B.alloc o).ownsRow w.heap.size 94 1 (.slice N a.length P) a.length R):=λo=>yx (yx G.o k.o) (zi B o);have n:=ze (zt m.o.size k.o.size);go_wp2_with (at_builtin;(refine jf _ rfl _ _ _ rfl w.heap.size 94 i (.slice none 0 0) 1 24 underlying88 HI.o L.o.1 L.o.2.1 L.o.2.2 rfl (by omega) (.slice N a.length P) a.length R rfl (H.o _) ⟨B.heap.size,0,none⟩ 1 1 [.slice (some ⟨X,0,none⟩) nx W] rfl rfl (xm (zf _ _)) (QS y.o) (by omega) (by unfold maxLen;omega) (by omega) (by have:=n.out;simp;omega) (B.heap.size+1) (by simp) ?_;intro g' O w2 A f Z Q;have I:=ze (QT m.o.size G.o V.o k.o y.o A f);have F:=ze (((m.o.trans (k.o.mono m.o.size)).trans ((zi B _).mono n.out)).grown f (by have:=n.out;simp;omega) (vg G.o))));refine⟨⟨s.drop c.toNat,a++[s.take c.toNat],zin (by simp;omega),M.o.step E,F.o,I.o,by simp;omega,zfc HA.o (by simp;omega)⟩,by show 0<_;simp[zom]⟩
      ·by_cases av:C-1=c.toNat
       ·go_wp2
        go_region
        go_wp2_with fail;refine(J8 ⟨b,D+1,none⟩ c.toNat c.toNat (s.take c.toNat) wr.drew (by simp;omega) (by omega) (RB HS.o m.o _)).mono ?_;rintro r B ⟨x,rfl,z,J⟩;obtain⟨X,W,nx,rfl⟩:=JL z;have y:=ze z;have k:=ze (Mq (zu _ _).drew J);have H:Hid (∀o,(B.alloc o).ownsRow w.heap.size 94 1 (.slice N a.length P) a.length R):=λo=>yx (yx G.o k.o) (zi B o);have n:=ze (zt m.o.size k.o.size);go_wp2_with (at_builtin;(refine jf _ rfl _ _ _ rfl w.heap.size 94 i (.slice none 0 0) 1 24 underlying88 HI.o L.o.1 L.o.2.1 L.o.2.2 rfl (by omega) (.slice N a.length P) a.length R rfl (H.o _) ⟨B.heap.size,0,none⟩ 1 1 [.slice (some ⟨X,0,none⟩) nx W] rfl rfl (xm (zf _ _)) (QS y.o) (by omega) (by unfold maxLen;omega) (by omega) (by have:=n.out;simp;omega) (B.heap.size+1) (by simp) ?_;intro g' O w2 A f Z Q;have I:=ze (QT m.o.size G.o V.o k.o y.o A f);have F:=ze (((m.o.trans (k.o.mono m.o.size)).trans ((zi B _).mono n.out)).grown f (by have:=n.out;simp;omega) (vg G.o))));refine⟨⟨s.drop c.toNat,a++[s.take c.toNat],Tu HS.o c.toNat _ _ (by omega) (λh=>by omega),M.o.step E,F.o,I.o,by simp;omega,zfc HA.o (by simp;omega)⟩,by show s.length-c.toNat<s.length+1;omega⟩
       ·go_wp2
        go_region
        go_wp2_with fail;refine(J8 ⟨b,D+1,none⟩ c.toNat (C-1) (s.take c.toNat) wr.drew (by simp;omega) (by omega) (RB HS.o m.o _)).mono ?_;rintro r B ⟨x,rfl,z,J⟩;obtain⟨X,W,nx,rfl⟩:=JL z;have y:=ze z;have k:=ze (Mq (zu _ _).drew J);have H:Hid (∀o,(B.alloc o).ownsRow w.heap.size 94 1 (.slice N a.length P) a.length R):=λo=>yx (yx G.o k.o) (zi B o);have n:=ze (zt m.o.size k.o.size);go_wp2_with (at_builtin;(refine jf _ rfl _ _ _ rfl w.heap.size 94 i (.slice none 0 0) 1 24 underlying88 HI.o L.o.1 L.o.2.1 L.o.2.2 rfl (by omega) (.slice N a.length P) a.length R rfl (H.o _) ⟨B.heap.size,0,none⟩ 1 1 [.slice (some ⟨X,0,none⟩) nx W] rfl rfl (xm (zf _ _)) (QS y.o) (by omega) (by unfold maxLen;omega) (by omega) (by have:=n.out;simp;omega) (B.heap.size+1) (by simp) ?_;intro g' O w2 A f Z Q;have I:=ze (QT m.o.size G.o V.o k.o y.o A f);have F:=ze (((m.o.trans (k.o.mono m.o.size)).trans ((zi B _).mono n.out)).grown f (by have:=n.out;simp;omega) (vg G.o))));refine⟨⟨s.drop c.toNat,a++[s.take c.toNat],Tu HS.o c.toNat _ _ (by omega) (λh=>by omega),M.o.step E,F.o,I.o,by simp;omega,zfc HA.o (by simp;omega)⟩,by show s.length-c.toNat<s.length+1;omega⟩
     ·have nf:(s.length:Int)<(c.toNat:Int):=by omega
      have q:=ze (M.o.fail E)
      by_cases S:C=1
      ·subst S
       go_wp2
       go_region
       all_goals go_wp2
       all_goals go_ret2
       all_goals exact⟨_,by rw[q.o];rfl,m.o.drew,by rw[q.o];exact KB.nil _ _⟩
      ·go_wp2
       go_region
       all_goals go_wp2
       all_goals go_ret2
       all_goals exact⟨_,by rw[q.o];rfl,m.o.drew,by rw[q.o];exact KB.nil _ _⟩
def zdn (w:World)(s:ByteArray)(a:Nat)(b:s.size<=a):zas (w.alloc (.cells (bytesRow s a) 5 ((bytesRow s a).size,(bytesRow s a).size+1))) (.slice (some ⟨w.heap.size,0,none⟩) s.size a) s.data.toList:=by
 have d:s.data.toList.length=s.size:=by simp
 refine⟨⟨w.heap.size,0,none⟩,a,by rw[d],by rw[d];exact b,rfl,λi e=>?_⟩;have c:i<s.data.size:=by simpa using e
 show World.cell? _ ⟨w.heap.size,0+i,none⟩=_;rw[xk,xe _ _ _ _ _ _ (zf _ _),bytesRow,Dt (by simpa using c),Array.getElem?_map,D9 c]
 rfl
def zaz {a:World}(j:B<=g)(h:Below B a w)(o:Nat)(b:List Value):Below B a (w.setCells g o b):=by
 obtain⟨d,e,f,i⟩:=C7 g b o w;exact⟨d.trans h.os,e.trans h.tape,f.trans h.output,by rw[i];exact h.size,λk c=>by rw[AV _ _ _ _ _ (by omega)];exact h.block k c⟩
def OB.ch (h:OB w B x l)(e:∀k,B<=k->w'.heap[k]?=w.heap[k]?):OB w' B x l:=by
 refine⟨⟨h.1.1,?_⟩,h.2⟩;rcases h.1.2 with h0|⟨g,a,b,rfl,c,d,r⟩
 ·exact .inl h0
 ·exact .inr ⟨g,a,b,rfl,c,by rw[e g c];exact d,r⟩
def KB.ch (h:KB w B v ls)(d:∀k,B<=k->w'.heap[k]?=w.heap[k]?):KB w' B v ls:=by
 obtain⟨o,f,n⟩:=h;refine⟨o,⟨f.1,?_⟩,λj m=>?_⟩
 ·rcases f.2 with h0|⟨g,a,b,rfl,c,l,r⟩
  ·exact .inl h0
  ·exact .inr ⟨g,a,b,rfl,c,by rw[d g c];exact l,r⟩
 ·obtain⟨x,e,i⟩:=n j m;exact⟨x,e,i.ch d⟩
def KB.at (h:KB w B v ls):
  ∃a c,v=.slice a ls.length c/\∀j (h:j<ls.length),∃b,a=some ⟨b,0,none⟩/\∃x,w.cell? ⟨b,j,none⟩=some x/\OB w B x ls[j]:=by
 obtain⟨y,⟨r,m⟩,o⟩:=h;rcases m with ⟨rfl,h0⟩|⟨g,c,f,rfl,p,l,t,s,u,n⟩
 ·exact⟨none,0,by rw[h0],λj q=>by omega⟩
 ·refine⟨_,_,rfl,λi d=>⟨g,rfl,?_⟩⟩;obtain⟨x,e,k⟩:=o i d;refine⟨x,?_,k⟩;rw[xe _ _ _ _ _ _ l];rw[<- n,Ba]at e;rw[qi,if_pos d]at e;simpa using e
def RO {d:zb}:((DV d).getD []).length<=4:=by
 unfold DV;cases Xz d with
 |none=>simp
 |some a =>
  by_cases h:Iz a=true
  ·simp only[h,if_true,AX];unfold Iz at h;simp at h;exact h.2.1
  ·simp[h]
def U9 (s:ByteArray)(w:World):
  Calls prog 36 #[.string s] w λr w'=>∃x,r=.returned (.tuple #[x,.bool (DV s.data.toList).isSome])/\zc w w'/\CT w' x (((DV s.data.toList).getD []).map tb):=by
 obtain⟨i,hi,L⟩:=zx.1 Hf;obtain⟨R,S,T⟩:i.zero=some (.string ⟨#[]⟩)/\i.size=1/\i.bytes=16:=by simpa using L
 clear L;have HI:=ze hi;have HZ:=ze (And.intro R (And.intro S T));clear hi R S T;have z:=AI (P:=prog) w 9 94 5 s xt underlying94 jc;have K:s.size<=grownCap w s.size 0 5:=My _ _ _ _;generalize grownCap w s.size 0 5=l at *;have ab:=ze (zdn w s l K);have ae:=ze (Hp (n:=s.size) (zf w (.cells (bytesRow s l) 5 ((bytesRow s l).size,(bytesRow s l).size+1))) (by simp[bytesRow]) (.inl (by simp[bytesRow])));clear K;go_enter func36,ntmps36;go_wp2_with fail;clear z;generalize v:(w.alloc (.cells (bytesRow s l) 5 ((bytesRow s l).size,(bytesRow s l).size+1)))=B at *;have F:Hid (zc w B):=v▸zi w _;have u:Hid (B.heap.size=w.heap.size+1):=by show B.heap.size=_;rw[<- v];simp
 clear v;refine(zai _ s.data.toList B.drew ab.o).mono ?_;rintro r D ⟨x,rfl,I,m⟩;have q:Hid (zc B D):=Mq (zu _ _).drew I;have H:Hid (D.there w.heap.size 0 s.size):=λj hj=>by
  rw[q.o.cell (p:=⟨w.heap.size,0+j,none⟩) (by rw[u.o];exact Nat.lt_succ_self _),q.o.frozen (p:=⟨w.heap.size,0+j,none⟩) (by rw[u.o];exact Nat.lt_succ_self _)];exact ae.o j hj
 have ag:=λty=>Ll (P:=prog) D 94 5 ty (.int .u8 0) underlying94 NR rfl rfl w.heap.size s.size l H.o;have aa:Hid (KB (D.setCells w.heap.size 0 (List.replicate s.size (.int .u8 0))) B.heap.size x ((DV s.data.toList).getD [])):=KB.ch m (λk hk=>by rw[AV _ _ _ _ _ (by have:=u.o;omega)]);have G:Hid (zc w (D.setCells w.heap.size 0 (List.replicate s.size (.int .u8 0)))):=zaz (zk _) (F.o.trans (q.o.mono F.o.size)) _ _;generalize D.setCells w.heap.size 0 (List.replicate s.size (.int .u8 0))=C at *;have ad:=ze (RO (d:=s.data.toList));generalize M:(DV s.data.toList).getD []=g at *;have W:=ze M;clear m I M;obtain⟨a,ca,rfl,h⟩:=aa.o.at;have U:=ze h;have ah:g.length<=4:=ad.o;clear h
 go_wp2
 go_loopw [7,20] (λt i wr=>∃k:Nat,k<=g.length/\i=.int .i64 k/\zc C wr/\wr.ownsRow C.heap.size 9 1 t k ((g.take k).map AL)) (λ_ i _=>g.length-(intOf i).toNat)
 case atStart=>exact⟨0,yk _,rfl,zu _ _,⟨rfl,.inl ⟨rfl,rfl⟩⟩⟩
 case round =>
  obtain⟨k,hk,rfl,J,c⟩:=hrel;have E:=ze J;have X:=ze c;clear J c
  by_cases N:k<g.length
  ·obtain⟨b,rfl,y,hy,Q⟩:=U.o k N;rw[<- E.o.cell (yf (p:=⟨b,k,none⟩) hy)]at hy;have f:=Q.below E.o;have z:=f.conv;obtain⟨gy,cy,ny,rfl⟩:=JL f;have Hs:Hid ((g.take (k+1)).map AL=(g.take k).map AL++[AL g[k]]):=by
    show _=_;rw[yz N,yv];rfl
   clear Q f;generalize g[k]=p at *;unfold AL at z;have A:Hid (C.heap.size<=wr.heap.size):=E.o.size;have Y:Hid (∀o,(wr.alloc o).ownsRow C.heap.size 9 1 u7 k ((g.take k).map AL)):=λo=>yx X.o (zi wr o);go_wp2_with (at_builtin;refine jf _ rfl _ _ _ rfl C.heap.size 9 i (.string ⟨#[]⟩) 1 16 underlying22 HI.o HZ.o.1 HZ.o.2.1 HZ.o.2.2 rfl (by omega) u7 k _ rfl (Y.o _) ⟨wr.heap.size,0,none⟩ 1 1 [.string ⟨p.toArray⟩] rfl rfl (xm (zf _ _)) (by simp[Value.oneCell']) (by omega) (by unfold maxLen;omega) (by omega) (by have:=A.out;simp;omega) (wr.heap.size+1) (by simp) ?_;intro g' af w2 c e h O;have V:Hid (zc C w2):=(E.o.trans ((zi wr _).mono A.out)).grown e (by have:=A.out;simp;omega) (vg X.o);have Z:=ze c;clear e h O c)
   go_roundw
   case rel=>exact⟨k+1,by omega,by go_num,V.o,by rw[Hs.o];exact Z.o⟩
   case measure=>simp[intOf];omega
  ·go_wp2
   go_ret2
   refine⟨_,rfl,G.o.trans (E.o.mono G.o.size),?_⟩;have:=X.o;rw[xn (by omega),show k=g.length by omega]at this;rw[W.o];exact CT.aW this
def Vu (v:Value)(a:List ByteArray)(s:ByteArray)(w:World)(I:a.length<=maxLen)(G:∀s∈a,s.size<=maxLen)(J:s.size<=maxLen)(h:CT w v a):
  Calls prog 9 #[v,.string s] w λr N=>r=.returned (.bool true)/\zc w N:=by
 have H:=ze h;have E:=ze I;have D:=ze G;unfold maxLen at J;go_enter func9,ntmps9;go_wp2_with fail;refine(GX v a w E.o D.o H.o).mono ?_;rintro r O ⟨rfl,rfl⟩;cases F:Mn a with
 |false =>
  go_wp2
  go_ret;exact⟨rfl,zu _ _⟩
 |true =>
  obtain⟨q,t⟩:=JB F
  by_cases A:1048576<s.size
  ·have M:(1048576:Int)<(s.size:Int):=by omega
   go_wp2
   go_ret;exact⟨rfl,zu _ _⟩
  ·have M:¬(1048576:Int)<(s.size:Int):=by omega
   have u:=ze t;go_wp2_with fail;refine(PF v a O q u.o H.o).mono ?_;rintro r P ⟨rfl,k⟩;have b:=ze k;go_wp2_with fail;refine(Jt v a P (by omega) u.o (H.o.below b.o)).mono ?_;rintro r Q ⟨rfl,l⟩;have c:=ze (b.o.trans (l.mono b.o.size));go_wp2_with fail;refine(U9 s Q).mono ?_;rintro r R ⟨x,rfl,n,K⟩;have B:=ze K;have e:=ze (c.o.trans (n.mono c.o.size));go_wp2_with fail;refine(MK s R (by omega)).mono ?_;rintro r S ⟨y,rfl,g,L⟩;have C:=ze L;have j:=ze (B.o.below g);have f:=ze (e.o.trans (g.mono e.o.size));go_wp2_with fail;refine(Gp x y _ S (by rw[yg];have:=RO (d:=s.data.toList);omega) j.o C.o).mono ?_;rintro r T ⟨rfl,p⟩;have i:=ze (f.o.trans (p.mono f.o.size));unfold AL;generalize Ud (A0 a)=m;generalize (DV s.data.toList).isSome=z;cases Iz (A0 a)
   all_goals cases z
   all_goals go_wp2_with fail
   all_goals go_ret
   all_goals exact⟨by simp,i.o⟩
def G4 (d:Nat):UInt8:=if d<10 then UInt8.ofNat (48+d) else UInt8.ofNat (87+d)
def zgj (b:UInt8):zb:=[G4 (b.toNat/16),G4 (b.toNat%16)]
def AY (l:zb):zb:=(l.map zgj).flatten
def FP (c:UInt8):Prop:=(48<=c.toNat/\c.toNat<=57)\/(97<=c.toNat/\c.toNat<=102)
def nv (c:UInt8):Nat:=if c.toNat<=57 then c.toNat-48 else c.toNat-87
def Jq (a:Nat):zb->Nat
 |[]=>a
 |c::r=>Jq (a*16+nv c) r
def VW (d:Nat)(h:d<16):(G4 d).toNat=if d<10 then 48+d else 87+d:=by
 unfold G4;split<;>rw[GH]<;>omega
def VV (d:Nat)(h:d<16):FP (G4 d):=by
 unfold FP;rw[VW d h];split<;>omega
def PN (d:Nat)(h:d<16):nv (G4 d)=d:=by
 unfold nv;rw[VW d h];split<;>split<;>omega
def zho (c:UInt8)(h:FP c):nv c<16:=by
 unfold FP at h;unfold nv;split<;>omega
def VY (a b:zb)(n:Nat):Jq n (a++b)=Jq (Jq n a) b:=by
 induction a generalizing n with
 |nil=>rfl
 |cons c a d=>exact d _
def zby (n:Nat)(b:UInt8)(r:zb):Jq n (zgj b++r)=Jq (n*256+b.toNat) r:=by
 have a:=b.toNat_lt;show Jq ((n*16+nv (G4 (b.toNat/16)))*16+nv (G4 (b.toNat%16))) r=_;rw[PN _ (by omega),PN _ (by omega)];congr 1;omega
def Ma (b:UInt8)(l:zb):AY (b::l)=zgj b++AY l:=by simp[AY]
def BZ (l:zb):(AY l).length=2*l.length:=by
 induction l with
 |nil=>rfl
 |cons b l a=>rw[Ma,zw,a];simp[zgj];omega
def Np (l:zb):∀c∈AY l,FP c:=by
 induction l with
 |nil=>intro c h;simp[AY]at h
 |cons b l a =>
  intro c h;have d:=b.toNat_lt;rw[Ma]at h;rcases yj.1 h with h|h
  ·rcases(by simpa[zgj]using h:c=G4 (b.toNat/16)\/c=G4 (b.toNat%16))with rfl|rfl
   ·exact VV _ (by omega)
   ·exact VV _ (by omega)
  ·exact a c h
def ZO (l:zb)(h:∀c∈l,FP c)(n k:Nat)(a:n<16^k):Jq n l<16^(k+l.length):=by
 induction l generalizing n k with
 |nil=>exact a
 |cons c l d =>
  have e:=zho c (h c (by simp));have:n*16+nv c<16^(k+1):=by rw[xp];omega
  have:=d (λx b=>h x (by simp[b])) (n*16+nv c) (k+1) this;rw[show k+(c::l).length=k+1+l.length by simp;omega];exact this
def QY (c:zb)(h:c.length=8):O2 (Jq 0 (AY c):Nat)=c:=by
 obtain⟨d,f,g,i,j,k,l,m,rfl⟩:=XC c h;have h0:=d.toNat_lt;have p:=f.toNat_lt;have q:=g.toNat_lt;have r:=i.toNat_lt;have s:=j.toNat_lt;have t:=k.toNat_lt;have u:=l.toNat_lt;have v:=m.toNat_lt;have e:Jq 0 (AY [d,f,g,i,j,k,l,m])=((((((d.toNat*256+f.toNat)*256+g.toNat)*256+i.toNat)*256+j.toNat)*256+k.toNat)*256+l.toNat)*256+m.toNat:=by
  simp only[Ma,zby];show Jq _ []=_;simp only[Jq,NV,xk]
 rw[e];unfold O2;have a:∀(b:UInt8) (x:Int),x=(b.toNat:Int)->UInt8.ofNat x.toNat=b:=by
  intro b x o;subst o;simp
 generalize w:((((((d.toNat*256+f.toNat)*256+g.toNat)*256+i.toNat)*256+j.toNat)*256+k.toNat)*256+l.toNat)*256+m.toNat=n;rw[a d _ (by omega),a f _ (by omega),a g _ (by omega),a i _ (by omega),a j _ (by omega),a k _ (by omega),a l _ (by omega),a m _ (by omega)]
def VX {a b:zb}(c:a.length=8)(d:b.length=8)(h:AY a=AY b):a=b:=by
 rw[<- QY a c,<- QY b d,h]
def zbz (l:zb):∀x∈AY l,x≠10:=by
 intro x a e;subst e;have:=Np l 10 a;unfold FP at this
 revert this
 decide
def zbf (n:Nat):∀x∈DD n,x≠10:=PL n 10 (by unfold Fp;decide)
def Da:zb:=[116,105,108,101,115,10]
def Y1 (n:Nat)(a:zb):zb:=Da++DD n++[10]++AY a++[10]
def JI (n:Nat)(a b:zb):zb:=AY (hash (b++[0]++Y1 n a))
def AR (n:Nat)(a b:zb):zb:=Y1 n a++JI n a b++[10]
def ID (n:Nat)(a b:zb):AR n a b=Da++(DD n++(10::(AY a++(10::(JI n a b++[10]))))):=by
 unfold AR Y1;simp
def vq (t b:zb)(n:Nat)(a:zb):Prop:=n<=9223372036854775807/\a.length=8/\t=AR n a b
def U1 (r:zb):Tb (10::r):=by show ¬Fp 10;unfold Fp;decide
def vq.inj {t c:zb}{n m:Nat}{a b:zb}(h:vq t c n a)(j:vq t c m b):n=m/\a=b:=by
 obtain⟨p,k,e⟩:=h;obtain⟨o,l,f⟩:=j;rw[e,ID,ID]at f;have g:=List.append_cancel_left f;have d:Cs (DD n++(10::(AY a++(10::(JI n a c++[10])))))=Cs (DD m++(10::(AY b++(10::(JI m b c++[10]))))):=by rw[g]
 rw[JJ n p _ (U1 _),JJ m o _ (U1 _)]at d;simp only[xj,EK,IJ]at d;obtain⟨rfl,i,-⟩:=d;refine⟨rfl,VX k l ?_⟩;have:=congrArg (List.take 16) i;rw[vr (by rw[BZ];omega),vr (by rw[BZ];omega),xn (by rw[BZ];omega),xn (by rw[BZ];omega)]at this;exact this
def zgr (a b:zb)(c:UInt8)(h:∀x∈a,x≠c):Lib.index (a++c::b) [c]=a.length:=by
 refine Lib.index_first (by simp) ?_ (λj d=>?_)
 ·unfold Lib.occAt;rw[CE];simp
 ·cases e:Lib.occAt (a++c::b) [c] j with
  |false=>rfl
  |true =>
   have:=Lib.occAt_head rfl e;rw[qh d,zo d]at this;exact absurd (qj this) (h _ (ye d))
def OH (k:Nat)(a b:zb)(c:UInt8)(h:∀x∈a,x≠c):Lib.splitK [c] 0 (k+1) (a++c::b)=a::Lib.splitK [c] 0 k b:=by
 rw[Lib.splitK,zgr a b c h,if_neg (by rw[CY];omega),zz,NU,Qf];congr 2;rw[show a.length+[c].length=(a++[c]).length by simp,show a++c::b=(a++[c])++b by simp,CE]
def Zg (n:Nat)(a b:zb):Lib.splitK [10] 0 3 (AR n a b)=[[116,105,108,101,115],DD n,AY a,JI n a b++[10]]:=by
 rw[ID,show Da=[116,105,108,101,115]++[10] from rfl,qk,show [10]++(DD n++(10::(AY a++(10::(JI n a b++[10])))))=(10:UInt8)::(DD n++(10::(AY a++(10::(JI n a b++[10]))))) from rfl];rw[OH 2 _ _ 10 (by decide),OH 1 _ _ 10 (zbf n),OH 0 _ _ 10 (zbz a)]
 rfl
def zd3 (n:Nat)(a b:zb):3<=(AR n a b).length:=by
 rw[ID];simp[Da]
def zoy:∀c:Fin 256,97<=c.val->c.val<=102->bits BinOp.or IntKind.u8 (c.val:Int) 32=(c.val:Int):=by decide +kernel
def zhu (c:UInt8)(a:97<=c.toNat)(b:c.toNat<=102):bits BinOp.or IntKind.u8 (c.toNat:Int) 32=(c.toNat:Int):=zoy ⟨c.toNat,by have:=c.toNat_lt;omega⟩ a b
def ME (w:World)(s:ByteArray)(a:Nat)(k:Nat)(c:k<s.size):(w.alloc (.cells (bytesRow s a) 5 ((bytesRow s a).size,(bytesRow s a).size+1))).cell? ⟨w.heap.size,k,none⟩=some (bv s[k]):=by
 have b:=c;rw[xe _ _ _ _ _ _ (zf _ _),bytesRow,Dt (by simpa using b),Array.getElem?_map,D9 b]
 rfl
def U4 (l:zb)(C:1<=l.length)(J:l.length<=16)(u:∀c∈l,FP c)(w:World):
  Calls prog 170 #[.string ⟨l.toArray⟩,.int .i64 16,.int .i64 64] w λr G=>r=.returned (.tuple #[.int .u64 (Jq 0 l:Nat),.nilIface])/\zc w G:=by
 have s:=ze u;obtain⟨H,O,f⟩:∃c r,l=c::r:=by
  cases l with
  |nil=>simp at C
  |cons c r=>exact⟨c,r,rfl⟩
 have F:(l==[])=false:=by rw[f];rfl
 have t:l.isEmpty=false:=by rw[f];rfl
 clear f u;have p:=AI (P:=prog) w 9 94 5 ⟨l.toArray⟩ xt underlying94 jc;have z:Hid (∀k (q:k<l.length),(w.alloc (.cells (bytesRow ⟨l.toArray⟩ (grownCap w l.length 0 5)) 5 ((bytesRow ⟨l.toArray⟩ (grownCap w l.length 0 5)).size,(bytesRow ⟨l.toArray⟩ (grownCap w l.length 0 5)).size+1))).cell? ⟨w.heap.size,k,none⟩=some (.int .u8 (l[k].toNat:Int))):=λk q=>by
  rw[ME w ⟨l.toArray⟩ _ k q]
  rfl
 have y:=ze (zi w (.cells (bytesRow ⟨l.toArray⟩ (grownCap w l.length 0 5)) 5 ((bytesRow ⟨l.toArray⟩ (grownCap w l.length 0 5)).size,(bytesRow ⟨l.toArray⟩ (grownCap w l.length 0 5)).size+1)));have E:IntKind.u64.wrap (IntKind.u64.wrap 18446744073709551616-1)=18446744073709551615:=by decide
 go_enter func170,ntmps170;go_wp2_with fail;generalize w.alloc (.cells (bytesRow ⟨l.toArray⟩ (grownCap w l.length 0 5)) 5 ((bytesRow ⟨l.toArray⟩ (grownCap w l.length 0 5)).size,(bytesRow ⟨l.toArray⟩ (grownCap w l.length 0 5)).size+1))=A at *;generalize grownCap w l.length 0 5=I at *;clear p;go_loopw [12,13,101] (λt12 t13 i wr=>∃(k:Nat) (a:Int),k<=l.length/\i=.int .i64 k/\t12=.bool false/\t13=.int .u64 a/\Hid (a=(Jq 0 (l.take k):Nat))/\wr=A.drew) (λ_ _ i _=>l.length-(intOf i).toNat)
 case atStart=>exact⟨0,0,yk _,rfl,rfl,rfl,rfl,rfl⟩
 case round =>
  obtain⟨k,a,q,rfl,rfl,rfl,h,rfl⟩:=hrel
  by_cases g:k<l.length
  ·have L:=z.o k g;have v:=s.o l[k] (ye g);have d:Jq 0 (l.take k)<1152921504606846976:=by
    have:=ZO (l.take k) (λc D=>s.o c (qa D)) 0 0 (by decide);have e:(l.take k).length<=15:=by simp;omega
    have:=zq this (j2 (n:=16) (by decide) (show 0+(l.take k).length<=15 by omega));exact this
   have j:Jq 0 (l.take (k+1))=Jq 0 (l.take k)*16+nv l[k]:=by
    rw[yz g,VY]
    rfl
   have b:=h.out;have M:0<=a:=by omega
   have N:a<1152921504606846976:=by omega
   generalize l[k]=c at *;unfold FP at v;rcases v with ⟨d1,d2⟩|⟨d1,d2⟩
   ·have m:Hid (a*16+((c.toNat:Int)-48)=(Jq 0 (l.take (k+1)):Nat)):=by
     show _=_;rw[j];unfold nv;rw[if_pos d2];omega
    have B:((c.toNat:Int)==95)=false:=by rw[yp];omega
    clear d j b h
    go_wp2
    refine⟨⟨k+1,a*16+((c.toNat:Int)-48),by omega,(by first|rfl|go_num),rfl,(by first|rfl|(congr 1;omega)),m,trivial⟩,by simp[intOf];omega⟩
   ·have m:Hid (a*16+((c.toNat:Int)-97+10)=(Jq 0 (l.take (k+1)):Nat)):=by
     show _=_;rw[j];unfold nv;rw[if_neg (by omega)];omega
    have B:((c.toNat:Int)==95)=false:=by rw[yp];omega
    have K:=zhu c d1 d2;clear d j b h
    go_wp2
    refine⟨⟨k+1,a*16+((c.toNat:Int)-97+10),by omega,(by first|rfl|go_num),rfl,(by first|rfl|(congr 1;omega)),m,trivial⟩,by simp[intOf];omega⟩
  ·have b:=h.out;rw[xn (by omega)]at b;have x:=ze b;clear b h
   go_wp2
   go_ret2
   exact⟨by rw[x.o];rfl,y.o.drew⟩
def Wz (l:zb)(D:l.length<=1000000000)(w:World):
  Calls prog 170 #[.string ⟨l.toArray⟩,.int .i64 16,.int .i64 64] w λr B=>∃v e,r=.returned (.tuple #[.int .u64 v,e])/\0<=v/\v<=18446744073709551615/\(e=.nilIface\/e=.iface 321 (.int .i64 1)\/e=.iface 321 (.int .i64 2))/\zc w B:=by
 cases l with
 |nil =>
  go_enter func170,ntmps170
  go_wp2
  go_ret2
  exact⟨_,_,rfl,by decide,by decide,.inr (.inr rfl),zu _ _⟩
 |cons b d =>
  have p:=AI (P:=prog) w 9 94 5 ⟨(b::d).toArray⟩ xt underlying94 jc;have s:(b::d==[])=false:=rfl;have j:(b::d).isEmpty=false:=rfl;generalize b::d=l at *;have m:Hid (∀k (g:k<l.length),(w.alloc (.cells (bytesRow ⟨l.toArray⟩ (grownCap w l.length 0 5)) 5 ((bytesRow ⟨l.toArray⟩ (grownCap w l.length 0 5)).size,(bytesRow ⟨l.toArray⟩ (grownCap w l.length 0 5)).size+1))).cell? ⟨w.heap.size,k,none⟩=some (.int .u8 (l[k].toNat:Int))):=λk g=>by
   rw[ME w ⟨l.toArray⟩ _ k g]
   rfl
  have f:=ze (zi w (.cells (bytesRow ⟨l.toArray⟩ (grownCap w l.length 0 5)) 5 ((bytesRow ⟨l.toArray⟩ (grownCap w l.length 0 5)).size,(bytesRow ⟨l.toArray⟩ (grownCap w l.length 0 5)).size+1)));have q:IntKind.u64.wrap (IntKind.u64.wrap 18446744073709551616-1)=18446744073709551615:=by decide
  go_enter func170,ntmps170;go_wp2_with fail;generalize w.alloc (.cells (bytesRow ⟨l.toArray⟩ (grownCap w l.length 0 5)) 5 ((bytesRow ⟨l.toArray⟩ (grownCap w l.length 0 5)).size,(bytesRow ⟨l.toArray⟩ (grownCap w l.length 0 5)).size+1))=n at *;generalize grownCap w l.length 0 5=C at *;go_loopw [12,13,101] (λt12 t13 i wr=>∃(k:Nat) (a:Int),k<=l.length/\i=.int .i64 k/\t12=.bool false/\t13=.int .u64 a/\0<=a/\a<=18446744073709551615/\wr=n.drew) (λ_ _ i _=>l.length-(intOf i).toNat)
  case atStart=>exact⟨0,0,yk _,rfl,rfl,rfl,by decide,by decide,rfl⟩
  case round =>
   obtain⟨k,a,g,rfl,rfl,rfl,z,A,rfl⟩:=hrel
   by_cases h:k<l.length
   ·have F:=m.o k h;have E:=(l[k]).toNat_lt;generalize l[k]=c at *;have x:=bits_lo_u8 .or (c.toNat:Int) 32;have y:=bits_hi_u8 .or (c.toNat:Int) 32;have t:=bits_lo_u8 .or 95 32;have u:=bits_hi_u8 .or 95 32
    go_wp2
    all_goals first
     |(go_ret2;exact⟨_,_,rfl,by decide,by decide,.inr (.inr rfl),f.o.drew⟩)
     |(go_ret2;exact⟨_,_,rfl,by decide,by decide,.inr (.inl rfl),f.o.drew⟩)
     |(refine⟨⟨k+1,_,by omega,(by first|rfl|go_num),rfl,rfl,by omega,by omega,trivial⟩,by simp[intOf];omega⟩)
   ·go_wp2
    go_ret2
    exact⟨_,_,rfl,z,A,.inl rfl,f.o.drew⟩
end Go.Proofs.YtfdbeldiomkdiaaGreatDoor
namespace Go.Proofs
open Go.Shelf Tryz
def Tryz.laysC245_ren:Go.Shelf.Ren:=⟨fun | 245=>171 | 279=>208 | 280=>209 | 281=>210 | 282=>211 | 316=>250 | 171=>118 | 205=>251 | 243=>165 | 246=>199 | 283=>237 | 284=>238 | 285=>239 | 286=>240 | 129=>196 | 317=>280 | 318=>281 | 319=>282 | 320=>226 | 337=>270 | 338=>271 | n=>n,fun | 9=>9 | 3=>3 | 75=>100 | 167=>321 | 4=>4 | 168=>323 | 210=>360 | 37=>94 | 0=>0 | 127=>391 | 145=>394 | 143=>392 | 2=>2 | 171=>349 | 53=>169 | 5=>5 | 173=>351 | 212=>387 | 51=>225 | 20=>20 | 213=>388 | 46=>170 | 232=>403 | 233=>404 | 80=>416 | n=>n,fun | 15=>9 | 16=>10 | 17=>11 | 18=>12 | 19=>13 | n=>n⟩
def Tryz.laysC245:Go.Proofs.LaysC.n245 prog laysC245_ren:={
 mixed:=by kernel_rfl
 f129:=kq func196 (by kernel_rfl)
 f171:=kq func118 (by kernel_rfl)
 f205:=kq func251 (by kernel_rfl)
 f243:=kq func165 (by kernel_rfl)
 f245:=kq func171 (by kernel_rfl)
 f246:=kq func199 (by kernel_rfl)
 f279:=kq func208 (by kernel_rfl)
 f280:=kq func209 (by kernel_rfl)
 f281:=kq func210 (by kernel_rfl)
 f282:=kq func211 (by kernel_rfl)
 f283:=kq func237 (by kernel_rfl)
 f284:=kq func238 (by kernel_rfl)
 f285:=kq func239 (by kernel_rfl)
 f286:=kq func240 (by kernel_rfl)
 f316:=kq func250 (by kernel_rfl)
 f317:=kq func280 (by kernel_rfl)
 f318:=kq func281 (by kernel_rfl)
 f319:=kq func282 (by kernel_rfl)
 f320:=kq func226 (by kernel_rfl)
 f337:=kq func270 (by kernel_rfl)
 f338:=kq func271 (by kernel_rfl)
 t0:=underlying0
 a0:=isAgg0
 z0:=sizeOf0
 v0:=zeroValue0
 t2:=underlying2
 a2:=isAgg2
 z2:=sizeOf2
 v2:=zeroValue2
 t3:=underlying3
 a3:=isAgg3
 z3:=sizeOf3
 v3:=zeroValue3
 t4:=underlying4
 a4:=isAgg4
 z4:=sizeOf4
 v4:=zeroValue4
 t5:=underlying5
 a5:=isAgg5
 z5:=sizeOf5
 v5:=zeroValue5
 t9:=underlying9
 a9:=isAgg9
 z9:=sizeOf9
 v9:=zeroValue9
 t20:=underlying20
 a20:=isAgg20
 z20:=sizeOf20
 v20:=zeroValue20
 t37:=underlying94
 a37:=isAgg94
 z37:=sizeOf94
 v37:=zeroValue94
 t46:=underlying170
 a46:=isAgg170
 z46:=sizeOf170
 v46:=zeroValue170
 t51:=underlying225
 a51:=isAgg225
 z51:=sizeOf225
 v51:=zeroValue225
 t53:=underlying169
 a53:=isAgg169
 z53:=sizeOf169
 v53:=zeroValue169
 t75:=underlying100
 a75:=isAgg100
 z75:=sizeOf100
 v75:=zeroValue100
 t127:=underlying391
 a127:=isAgg391
 z127:=sizeOf391
 v127:=zeroValue391
 t143:=underlying392
 a143:=isAgg392
 z143:=sizeOf392
 v143:=zeroValue392
 t145:=underlying394
 a145:=isAgg394
 z145:=sizeOf394
 v145:=zeroValue394
 t167:=underlying321
 a167:=isAgg321
 z167:=sizeOf321
 v167:=zeroValue321
 t168:=underlying323
 a168:=isAgg323
 z168:=sizeOf323
 v168:=zeroValue323
 t171:=underlying349
 a171:=isAgg349
 z171:=sizeOf349
 v171:=zeroValue349
 t173:=underlying351
 a173:=isAgg351
 z173:=sizeOf351
 v173:=zeroValue351
 t210:=underlying360
 a210:=isAgg360
 z210:=sizeOf360
 v210:=zeroValue360
 t212:=underlying387
 a212:=isAgg387
 z212:=sizeOf387
 v212:=zeroValue387
 t213:=underlying388
 a213:=isAgg388
 z213:=sizeOf388
 t232:=underlying403
 a232:=isAgg403
 z232:=sizeOf403
 v232:=zeroValue403
 t233:=underlying404
 a233:=isAgg404
 z233:=sizeOf404
 v233:=zeroValue404
 g15:=by kernel_rfl
 g16:=by kernel_rfl
 g17:=by kernel_rfl
 g18:=by kernel_rfl
 g19:=by kernel_rfl
 t80:=underlying416
 a80:=isAgg416
 z80:=sizeOf416
 v80:=zeroValue416
 i0:=by kernel_rfl
 i2:=by kernel_rfl
 i3:=by kernel_rfl
 i4:=by kernel_rfl
 i5:=by kernel_rfl
 i9:=by kernel_rfl
 i20:=by kernel_rfl
 i37:=by kernel_rfl
 i46:=by kernel_rfl
 i51:=by kernel_rfl
 i53:=by kernel_rfl
 i75:=by kernel_rfl
 i80:=by kernel_rfl
 i127:=by kernel_rfl
 i143:=by kernel_rfl
 i145:=by kernel_rfl
 i167:=by kernel_rfl
 i168:=by kernel_rfl
 i171:=by kernel_rfl
 i173:=by kernel_rfl
 i210:=by kernel_rfl
 i212:=by kernel_rfl
 i232:=by kernel_rfl
 i233:=by kernel_rfl
 m15:=by kernel_rfl
 m16:=by kernel_rfl
 m17:=by kernel_rfl
 m18:=by kernel_rfl
 m19:=by kernel_rfl
 c0:=by kernel_rfl
 c2:=by kernel_rfl
 c3:=by kernel_rfl
 c4:=by kernel_rfl
 c5:=by kernel_rfl
 c9:=by kernel_rfl
 c20:=by kernel_rfl
 c37:=by kernel_rfl
 c46:=by kernel_rfl
 c51:=by kernel_rfl
 c53:=by kernel_rfl
 c75:=by kernel_rfl
 c80:=by kernel_rfl
 c127:=by kernel_rfl
 c143:=by kernel_rfl
 c145:=by kernel_rfl
 c167:=by kernel_rfl
 c168:=by kernel_rfl
 c171:=by kernel_rfl
 c173:=by kernel_rfl
 c210:=by kernel_rfl
 c212:=by kernel_rfl
 c213:=by kernel_rfl
 c232:=by kernel_rfl
 c233:=by kernel_rfl }
end Go.Proofs
namespace Go.Proofs.YtfdbeldiomkdiaaGreatDoor
open Go.RowKit Go.Proofs.Tryz
variable {B B' cap' g o off:Nat}{acc ls:za}{l rr:zb}{u v x:Value}{w w' w1 w2 wr:World}
end Go.Proofs.YtfdbeldiomkdiaaGreatDoor
