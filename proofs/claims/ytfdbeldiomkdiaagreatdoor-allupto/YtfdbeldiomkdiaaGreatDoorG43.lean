import Derived.Test.YtfdbeldiomkdiaaGreatDoorG40
import Derived.Test.YtfdbeldiomkdiaaGreatDoorG42
set_option maxHeartbeats 8000000
set_option maxRecDepth 100000
set_option linter.all false
namespace Go.Proofs.YtfdbeldiomkdiaaGreatDoor
open Go.RowKit Go.Proofs.Tryz
variable {B db pub' wb:Nat}{d d':Dk}{es':za}{w w' w0:World}
def RPs (B:Nat)(b w:World)(h e n:Nat)(f:za)(c:Nat)(a:zb)(d:Dk):Prop:=
 zc b w/\RP B w (λg=>b.heap.size<=g/\g<w.heap.size) h e n f c a d
def RPs.next {n e:Nat}{i:za}{f:Nat}{b:zb}(h:RPs B w0 w wb db n i f b d)(j:B<=w0.heap.size)(c:zl (λg=>w0.heap.size<=g/\g<w.heap.size) aT w w')(k:RP B w' (qv (λg=>w0.heap.size<=g/\g<w.heap.size) w w') wb db e es' pub' b d'):RPs B w0 w' wb db e es' pub' b d':=by
 refine⟨h.1.trans (c.below (λg a=>a.1) h.1.size),k.wide (λg a=>?_) (λg a=>⟨zt j a.1,a.2⟩)⟩;have l:=c.size;have h0:=h.1.size;rcases a with a|a<;>omega
def zit (O:Nat->Prop)(W:World)(a:Nat->Addr)(m:vj W a)(i j n:Nat)(k:za)(q:Nat)(e:zb)(d:Dk)(t:zb)(w:World)(y:zc W w)(A:n<=4200)(D:t.length<=20)(h:RP W.heap.size w O i j n k q e d):
  Calls prog 90 #[.pointer (some ⟨i,0,none⟩),.string ⟨t.toArray⟩] w λr g=>r=.returned (.bool true)/\zl O aT w g/\RP W.heap.size g (qv O w g) i j (n+1) (k++[t]) q e d:=by
 obtain⟨B,v,s,f,z⟩:=h.full;refine(K7 O W a m i j B v _ d s n t w h.own y A (by omega) h.bI k f z).mono ?_;rintro r g ⟨rfl,x,c⟩;refine⟨rfl,x,?_⟩;rcases c with ⟨u|u,-⟩|⟨-,b,p,l,C,o⟩
 ·omega
 ·simp at u
 ·exact⟨.inl h.bI,b,⟨p,l,C,f,o⟩,h.still,h.since.more [t],h.bh.more [t]⟩
def TB (W:World)(n:Nat->Addr)(hE:DW W)(ah:vj W n)(S:RW W)(v:Value)(f:za)(m:Nat)(c:zb)(w:World)(hW:zc W w)(hk:c.length<=1048576)(he:f.length<=100)(ax:∀e∈f,e.length<=20)(h:CT w v (f.map tb)):
  Calls prog 54 #[v,.int .i64 m,qy c] w λr w'=>∃d,r=.returned (.pointer (some ⟨w.heap.size,0,none⟩))/\RPs W.heap.size w w' w.heap.size (w.heap.size+1) 210 f f.length c d:=by
 have F:=ze hE;have s:=ze ah;have G:=ze S;clear S;have q:=ze hW;have aa:=ze ax;have R:=ze (Mj (.slice none 0 0) [] c w (by simp) ⟨none,0,rfl,zk _,.inl rfl⟩);obtain⟨a,am,rfl,U,D⟩:=h;simp only[yg]at U D ⊢;have H:=ze D;unfold qy at R ⊢;go_enter func54,ntmps54;go_wp2_with fail;refine R.o.mono ?_;rintro r w3 ⟨rfl,T,x,aj⟩;have ab:=ze (q.o.trans (T.mono q.o.size));have E:=ze T;have al:=VQ (by omega) x aj;have ag:∀k,(w.heap.size<=k/\k<w3.heap.size)->W.heap.size<=k/\k<w3.heap.size:=λk hk=>⟨zt q.o.size hk.1,hk.2⟩
 have ad:=ze (zjg (λk=>w.heap.size<=k/\k<w3.heap.size) W n F.o s.o G.o w.heap.size (w.heap.size+1) _ _ _ _ [] 0 w3 ag ab.o (by omega) ⟨zk _,zg x⟩ al rfl);have Q:=ze (zg x);go_wp2_with fail;refine ad.o.mono ?_;rintro r w4 ⟨rfl,Y,J,ar,ao,d0,ak,X,V⟩;have ae:Hid (RPs W.heap.size w w4 w.heap.size (w.heap.size+1) 0 [] 0 c d0):=by
  refine⟨E.o.trans (Y.below (λg C=>C.1) E.o.size),(ziu (.inl ⟨zk _,Q.o⟩) J ak X V).wide (λg C=>?_) (λg C=>⟨zt q.o.size C.1,C.2⟩)⟩;have hs:=Y.size;have:=E.o.size;rcases C with C|C<;>omega
 go_wp2
 go_loopw [8,9] (λo i wr=>∃(k O:Nat) (d:Dk),k<=f.length/\o=.bool true/\i=.int .i64 k/\RPs W.heap.size w wr w.heap.size (w.heap.size+1) (2*k) (f.take k) O c d) (λ_ i _=>f.length-(intOf i).toNat)
 case atStart=>exact⟨0,0,d0,yk _,rfl,rfl,ae.o⟩
 case round =>
  obtain⟨k,O,d,ap,rfl,rfl,hr⟩:=hrel;have A:=ze hr;have I:=ze (q.o.trans (hr.1.mono q.o.size))
  by_cases u:k<f.length
  ·obtain⟨b,y,rfl,ai⟩:∃b y,a=some ⟨b,y,none⟩/\∀i (h:i<f.length),w.cell? ⟨b,y+i,none⟩=some (.string ⟨f[i].toArray⟩):=by
    rcases H.o with h|⟨b,y,h1,h2⟩
    ·have h0:f=[]:=by simpa using h
     rw[h0]at u;simp at u
    ·exact⟨b,y,h1,λj hj=>(h2 j hj).trans (by rw[A5];rfl)⟩
   have Z:=ze (ai k u);have B:=ze (aa.o _ (ye u));have P:=ze (yz u);generalize f[k]=t at *
   by_cases hm:k=m
   ·subst hm;go_wp2_with fail;refine(MN _ W n F.o s.o G.o w.heap.size (w.heap.size+1) (2*k) (f.take k) O c d wr I.o (by omega) A.o.2).mono ?_;rintro r w5 ⟨rfl,M,d5,K,-⟩;have l:=ze (A.o.next q.o.size M K);have af:=ze (q.o.trans (l.o.1.mono q.o.size));have y5:=(l.o.1.cell (p:=⟨b,_,none⟩) (yf Z.o)).trans Z.o;go_wp2_with fail;refine(zit _ W n s.o w.heap.size (w.heap.size+1) (2*k+1) (f.take k) _ c d5 t w5 af.o (by omega) B.o l.o.2).mono ?_;rintro r w6 ⟨rfl,N,L⟩;have z:=ze (l.o.next q.o.size N L)
    go_wp2
    go_roundw
    case rel=>exact⟨k+1,_,d5,by omega,rfl,by go_num,by rw[P.o];exact z.o⟩
    case measure=>simp[intOf];omega
   ·have aq:=yp.2 (by omega);have y5:=(A.o.1.cell (p:=⟨b,_,none⟩) (yf Z.o)).trans Z.o;go_wp2_with fail
    all_goals
     refine(zit _ W n s.o w.heap.size (w.heap.size+1) (2*k) (f.take k) O c d t wr I.o (by omega) B.o A.o.2).mono ?_;rintro r w6 ⟨rfl,N,L⟩;have z:=ze (A.o.next q.o.size N L)
     go_wp2
     go_roundw
     case rel=>exact⟨k+1,O,d,by omega,rfl,by go_num,by rw[P.o];exact⟨z.o.1,z.o.2.later (by omega)⟩⟩
     case measure=>simp[intOf];omega
  ·obtain rfl:k=f.length:=by omega
   rw[jb]at A;go_wp2_with fail;refine(MN _ W n F.o s.o G.o w.heap.size (w.heap.size+1) (2*f.length) f O c d wr I.o (by omega) A.o.2).mono ?_;rintro r w5 ⟨rfl,M,d5,K,-⟩;have l:=ze (A.o.next q.o.size M K)
   go_wp2
   go_ret;exact⟨d5,rfl,l.o.1,l.o.2.later (by omega)⟩
variable {N O:Nat->Prop}{T:List Nat}{W w4 w5:World}{c:Cl}{cap nb pb:Nat}{e:TypeId}{ls:za}{v:Value}
structure UY (W w:World)(wb db:Nat)(es:za)(key:zb)(d:Dk):Prop where
 cv:∃lv ev x,KO w wb db lv ev x/\x.key=key
 aG:ym w (λk=>W.heap.size<=k/\k<w.heap.size) db d
 bh:Chp d.fs es es.length key
 apart:D5 d.fs
 data:∀f∈d.fs,f.2.length<=1048576
 bk:d.fs.length<=800000000
 short:∀e∈es,e.length<=20
def UY.of {n:Nat}{b:za}{a:zb}(h:RP W.heap.size w O wb db n b b.length a d)(k:n<=4100):UY W w wb db b a d:=by
 obtain⟨l,m,o,c,e,-,-,-,f,g,i,j,-⟩:=h.facts k;exact⟨⟨l,_,_,c,rfl⟩,e.mono h.own,h.bh,j,i,g,f⟩
def UY.aj {l:za}{g:zb}(h:UY W w wb db l g d)(j:zl O T w w')(n:76∉T)(o:144∉T)(p:125∉T):UY W w' wb db l g d:=by
 obtain⟨⟨s,m,x,r,i⟩,q,a,b,c,e,f⟩:=h;exact⟨⟨s,m,x,j.keep r n,i⟩,(q.stay j o p).mono (λk i=>⟨i.1,zq i.2 j.size⟩),a,b,c,e,f⟩
def UY.cells {c:za}{a:zb}(h:UY W w wb db c a d):w.cell? ⟨wb,0,none⟩=some (BD db)/\w.cell? ⟨wb,1,none⟩=some (qy a):=by
 obtain⟨f,e,x,b,rfl⟩:=h.cv;exact⟨(FK b).1.1,(FK b).2.1.1⟩
def UY.cp {b:za}{a:zb}(h:UY W w wb db b a d)(i:1<=b.length):xr d.fs CA=some (AR b.length (yy b) a)/\(AR b.length (yy b) a).length<=1048576:=by
 rcases h.bh.2 with ⟨-,e⟩|⟨e,-⟩
 ·omega
 ·rw[jb]at e;obtain⟨f,g,c⟩:=SQ e;exact⟨e,c▸h.data f g⟩
abbrev KT (W w a:World):Prop:=zl (λk=>W.heap.size<=k) kcT w a
def kt {a b c:World}(h:KT W a b)(k:KT W b c):KT W a c:=h.trans (k.mono (λ_ h=>.inl h) (λ_ h=>h))
def zoh {g:za}{b:zb}(h:UY W w wb db g b d)(u:1<=g.length):
  Calls prog 103 #[.pointer (some ⟨wb,0,none⟩),.slice none 0 0] w λr n=>∃m,r=.returned (yu m)/\zc w n/\NN n m g b:=by
 have p:=ze (CN _ db wb d w (by have:=h.bk;omega) h.aG h.cells.1);have H:=ze h;clear h;go_enter func103,ntmps103;go_wp2_with fail;refine p.o.mono ?_;rintro r e ⟨l,c,rfl,k,j,a,-⟩;have q:Hid (zc w (e.alloc (.cells #[l,.slice none 0 0,.slice none 0 0] 243))/\NN (e.alloc (.cells #[l,.slice none 0 0,.slice none 0 0] 243)) e.heap.size g b):=
  ⟨a.trans ((zi e _).mono a.size),l,c,zf _ _,j.below (zi _ _),by rw[k.length_eq];have:=H.o.bk;omega,λf j=>(Dy H.o.apart k _).trans (H.o.bh.all f j),(Dy H.o.apart k _).trans (H.o.cp u).1⟩
 obtain⟨s,t,rfl,-,-⟩:=j;clear k a
 go_wp2
 go_loopw [6] (λi wr=>i=.int .i64 0/\wr=e.alloc (.cells #[.slice s c.length t,.slice none 0 0,.slice none 0 0] 243)) (λ_ _=>0)
 case atStart=>exact⟨rfl,rfl⟩
 case round =>
  obtain⟨rfl,rfl⟩:=hrel
  go_wp2
  go_ret;exact⟨_,rfl,q.o⟩
def zcd (w:World):Calls prog 55 #[.slice none 0 0] w λr c=>r=.returned (.slice none 0 0)/\zc w c:=by
 go_enter func55,ntmps55
 go_wp2
 go_loopw [3,4,5] (λt i _ wr=>t=.slice none 0 0/\i=.int .i64 0/\zc w wr) (λ_ _ _ _=>0)
 case atStart=>exact⟨rfl,rfl,zu _ _⟩
 case round =>
  obtain⟨rfl,rfl,a⟩:=hrel;have b:=ze a;clear a
  go_wp2
  go_ret;exact⟨rfl,b.o⟩
def UJ {b:za}{a:List (Nat×Nat)}(h:w.ownsRow B 9 1 v a.length ((a.map λs=>yy (CC b s)).map qy)):w.ownsRow B 9 1 v (a.map λs=>yy (CC b s)).length ((a.map λs=>yy (CC b s)).map qy):=by
 rw[yg];exact h
def zml {b:za}{c:List (Nat×Nat)}:∀p∈A0 ((c.map λs=>yy (CC b s)).map tb),p.length<=8:=λp a=>by
 rw[MC]at a;obtain⟨s,-,rfl⟩:=yi.1 a;exact vx (EX _)
def NP (a:za)(m n:Nat):za:=if 0<m/\m<n then EC a m n else []
def zjc (a:za)(m n:Nat):(NP a m n).length<=65:=by
 unfold NP EC;split
 ·rw[yg];exact Ci 64 m 0 n true
 ·simp
def zo0 {a:za}{d:zb}(h:NN w nb a d)(X:a.length<=100)(V:∀e∈a,e.length<=20)(hk:d.length<=1048576)(hc:(AR a.length (yy a) d).length<=1048576)(m:Nat)(ab:1<=m)(ad:m<=a.length):
  Calls prog 104 #[yu nb,qy d,.int .i64 m,qy (yy (a.take m))] w λr Z=>∃v,r=.returned (.tuple #[.int .i64 0,v,.int .i64 a.length,qy (yy a)])/\zc w Z/\Z.ownsRow w.heap.size 9 1 v (NP a m a.length).length ((NP a m a.length).map qy):=by
 have U:=ze h;have J:=ze V;obtain⟨v1,fs,G,hv,hn,-,F⟩:=h;have q:=ze (AF v1 fs CA w hn hv);obtain⟨b,af,k,c,rfl,aa,e,y1⟩:=TY hv F;have HE:=ze e;have H:vq (AR a.length (yy a) d) d a.length (yy a):=⟨by omega,EX _,rfl⟩;have t:=ze H;have x0:=(zm G 0 _ rfl).1;have x1:=(zm G 1 _ rfl).1;have p:=ze (AF (.slice none 0 0) [] CA w (by simp) ⟨none,0,rfl,zk _,.inl rfl⟩);generalize AR a.length (yy a) d=tx at *;clear G hv F e H V;unfold qy at p q ⊢;unfold yu;go_enter func104,ntmps104;go_wp2_with fail;refine p.o.mono ?_;rintro r w2 ⟨rfl,I⟩;rw[I,show Ed [] CA=-1 from rfl];go_wp2_with fail;refine q.o.mono ?_;rintro r w2 ⟨rfl,I⟩;rw[I,HE.o];clear p q I;go_wp2_with fail;refine(Kx tx d hc (by omega) w).mono ?_;rintro r z ⟨E,⟨n,x,Y,rfl⟩|⟨S,-⟩⟩
 rotate_left
 ·exact absurd t.o (S _ _)
 have hq:=K8.yes (o:=some (n,x)) ⟨rfl,Y⟩ t.o;cases hq;have f:=ze E;clear Y E t;have T:=EX a;have Q:=EX (a.take m)
 by_cases P:m=a.length
 ·subst P;have O:Hid (NP a a.length a.length=[]):=by show _=_;unfold NP;rw[if_neg (by omega)]
  rw[jb]at *;generalize W:yy a=R at *;have HR:=ze W;clear W;go_wp2_with fail;refine zv (Ae results104 _ _ _) rfl ?_;exact⟨_,by rw[HR.o];rfl,f.o,by rw[O.o];exact⟨rfl,.inl ⟨rfl,rfl⟩⟩⟩
 ·have N:Hid (QN (z.alloc (.cells #[.pointer (some ⟨nb,0,none⟩),.int .i64 a.length,.slice none 0 0] 164)) z.heap.size a):=⟨nb,zf _ _,⟨d,(U.o.below f.o).below (zi _ _)⟩,X,J.o⟩;have D:=ze (zoi m 64 0 a.length true _ (by omega) (by omega) (by omega) (by omega) (by omega) (by omega) (LV _) N.o);have O:Hid (NP a m a.length=(AB 64 m 0 a.length true).map λs=>yy (CC a s)):=by show _=_;unfold NP;rw[if_pos (by omega)];rfl
  have i:=ze (LW a (qw X (by decide)) m a.length (by omega) (by omega) (zk _));have C:=ze (Ci 64 m 0 a.length true);have l:Hid (zc w (z.alloc (.cells #[.pointer (some ⟨nb,0,none⟩),.int .i64 a.length,.slice none 0 0] 164))):=f.o.trans ((zi z _).mono f.o.size);rw[jb]at i;unfold EC at i;clear U Q T;go_wp2_with fail;refine D.o.mono ?_;generalize z.alloc (.cells #[.pointer (some ⟨nb,0,none⟩),.int .i64 a.length,.slice none 0 0] 164)=w4 at *;rintro r w5 ⟨x5,rfl,u,j⟩;obtain⟨pa,pc,rfl⟩:=qt j;have A:=ze (l.o.trans (u.mono l.o.size));have z2:w5.cell? ⟨z.heap.size,2,none⟩=some (.slice none 0 0):=by
   obtain⟨ae,G,-⟩:=N.o.below u;exact(zm G 2 _ rfl).1
  have L:=ze (E9 j l.o.size);have g:=ze (Rq 1001 (yy (a.take m)) (yy a) (m:Int) (a.length:Int) (by omega) (.slice pa (AB 64 m 0 a.length true).length pc) (((AB 64 m 0 a.length true).map λs=>yy (CC a s)).map tb) w5 (by rw[yg,yg];have:=C.o;omega) (by rw[yg,yg];have:=C.o;omega) (vx (EX _)) zml (CT.aW (UJ j)));have B:Hid (P8 1001 (m:Int) (a.length:Int) (yy (a.take m)) (yy a) (A0 (((AB 64 m 0 a.length true).map λs=>yy (CC a s)).map tb))=true):=by
   show _=_;rw[MC];exact i.o
  rw[B.o]at g;unfold AL at g;clear u j D i B N;go_wp2_with fail;refine g.o.mono ?_;rintro r w6 ⟨rfl,y⟩;have K:=ze (A.o.trans (y.mono A.o.size));have M:=ze (yx L.o y);clear y g;go_wp2_with fail;refine zv (Ae results104 _ _ _) rfl ?_;exact⟨_,rfl,K.o,by rw[O.o];exact UJ M.o⟩
def Ra {s:Nat}{n:Nat}{d:List Value}(h:w.ownsRow B e s v n d)(f:1<=n):∃g a,v=.slice (some ⟨g,0,none⟩) n a/\n<=a:=by
 rcases h.2 with ⟨rfl,h0⟩|⟨g,a,b,rfl,-,-,c,-⟩
 ·omega
 ·exact⟨g,a,rfl,c⟩
def Xy {a:Option Addr}{m:Nat}(h:La w (.slice a ls.length cap) ls)(o:m<=ls.length):La w (.slice a m cap) (ls.take m):=by
 obtain⟨k,d,e,l,h⟩:=h;cases e;have g:(ls.take m).length=m:=by rw[AM];omega
 refine⟨a,cap,by rw[g],by omega,?_⟩;rcases h with h|⟨b,c,f,j⟩
 ·exact .inl (by rw[h];simp)
 ·exact .inr ⟨b,c,f,λi n=>by rw[j i (by omega),js]⟩
def OK {σ:Type}(b:σ->zb->(zb×Bool)×σ)(a:Nat->Nat->zb->zb->za->Bool)(c:Cl)(m:Nat)(r:zb)(s:σ)(d:c.size=0)(e:0<m):IQ b a c s (some (m,r))=(.inr [],{c with size:=m,root:=r},s):=by
 have h:BR b a c s m r=(.inr [],c.proved,s):=by
  unfold BR;rw[if_neg (by omega),if_neg (by omega),if_pos d]
 unfold IQ;simp only;rw[h]
def V4 {s:za}{o:zb}(q:zc W w)(h:UY W w wb db s o d)(l:zc w w4)(v:De w4 (λk=>k=w.heap.size) w.heap.size db ⟨[],[],0⟩)(i:zc w4 w5)(A:KC W w5 (λk=>W.heap.size<=k/\k<w4.heap.size) pb w.heap.size c N):
  KT W w w5/\CL W w5 (λ_=>False) db pb w.heap.size d c ⟨[],[],0⟩:=by
 have b:=q.size;obtain⟨C,tv,D,p,t,⟨a,m,e,n⟩,u⟩:=v;have j:=zg p;have B:Sh W w4 (λk=>W.heap.size<=k/\k<w4.heap.size) w.heap.size db d ⟨[],[],0⟩:=by
  refine⟨q.trans (l.mono b),λ_ h=>h,(h.aj (.aa (O:=λ_=>False) (T:=[]) l) (by simp) (by simp) (by simp)).aG,⟨C,tv,⟨b,j⟩,p,t,⟨a,m,e,?_⟩,u⟩,⟨?_,λf x=>?_,by simp,by simp,by simp,by simp⟩⟩
  ·rcases n with n|⟨g,r,y,z⟩
   ·exact .inl n
   ·exact .inr ⟨g,r,by subst y;exact⟨b,j⟩,z⟩
  ·have:=h.bk;omega
  ·have:=h.data f x;omega
 exact⟨.aa (l.trans (i.mono l.size)),_,N,B.below i,A,λ_ h=>h.elim⟩
def Xv {tb:Nat}{c:Array Value}(h:w.heap[tb]?=some (.cells c 39 (0,0)))(d:c.size=2)(u v:Value):zl (λk=>k=tb) [39] w ((w.setCell ⟨tb,0,none⟩ u).setCell ⟨tb,1,none⟩ v)/\((w.setCell ⟨tb,0,none⟩ u).setCell ⟨tb,1,none⟩ v).heap[tb]?=some (.cells #[u,v] 39 (0,0)):=by
 refine⟨((zl.refl (λk=>k=tb) [39] w).set (.inl rfl) h (by simp) _).set (.inl rfl) (Aw h 0 _) (by simp) _,?_⟩;have:=Aw (Aw h 0 u) 1 v;rw[this]
 match c,d with
 |⟨[a,b]⟩,_=>rfl
abbrev TF:Obj:=.cells #[.int .i64 0,.string ⟨#[]⟩] 39
def zk0 {fs:Fs}{n:Nt}{x:zb}(h:n.ao=[⟨CA,x,false,0⟩]):(qr fs n J9).1=(x,true):=by
 have e:Pg n J9=some 0:=Wk (by rw[h];simp) (by unfold Gf;rw[h,Og];simp) (by omega);unfold qr;rw[e,h]
 rfl
def zih (W:World)(af:Nat->Addr)(hE:DW W)(aI:vj W af)(aJ:F0 W)(wa da wv dv:Nat)(dA dB:Dk)(a:za)(ev:Value)(m:Nat)(b:zb)(w:World)(hW:zc W w)(hA:UY W w wa da a b dA)(hB:UY W w wv dv (a.take m) b dB)(an:w.ownsRow 0 9 1 ev a.length (a.map qy))(a5:1<=m)(t:m<=a.length)(he:a.length<=100)(hk:b.length<=1048576):
  Calls prog 56 #[yu wa,yu wv,ev,.int .i64 m,.slice none 0 0] w λr w'=>r=.returned (.bool true)/\KT W w w':=by
 have HC:=ze (And.intro hE (And.intro aI aJ));have HW:=ze hW;have I:=ze hA;have HB:=ze hB;have aZ:=ze an;have a6:(a.take m).length=m:=by rw[AM];omega
 obtain⟨c0,c1⟩:=hA.cells;obtain⟨eg,ec,rfl,bf⟩:=Ra an (by omega);have Y:=ze (LJ da w);unfold BD yu at Y;unfold BD at c0;unfold qy at c1;clear hE aI aJ hW hA hB an;unfold yu;go_enter func56,ntmps56;go_wp2_with fail;refine Y.o.mono ?_;rintro r w1 ⟨rfl,H,aH⟩;have X:=ze (zgv W (λk=>W.heap.size<=k/\k<w1.heap.size) w.heap.size b 16 w1 (zt HW.o.size H.size) (λ_ h=>h.2));have d1:=(H.cell (p:=⟨wa,1,none⟩) (yf c1)).trans c1;have H1:=ze (And.intro H aH);clear H aH Y c0;unfold yu qy at X;go_wp2_with fail;refine X.o.mono ?_;rintro r w2 ⟨pb,rfl,aK,aP⟩;obtain⟨t2,aL⟩:=V4 HW.o I.o H1.o.1 H1.o.2 aK aP;have T2:=ze t2;have C2:=ze aL;have e:=ze (HB.o.aj t2 (by decide) (by decide) (by decide));have ar:=ze (CN _ dv wv dB w2 (by have:=e.o.bk;omega) e.o.aG e.o.cells.1);clear aK aP aL t2 X H1 d1 c1;generalize w.heap.size=nb at *;go_wp2_with fail;refine ar.o.mono ?_;rintro r w3 ⟨fv,a4,rfl,hp,hf,ag,-⟩;obtain⟨e1,e2⟩:=e.o.cp (by omega);rw[a6]at e1 e2;have U:=ze (AF fv a4 CA w3 (by rw[hp.length_eq];have:=e.o.bk;omega) hf);obtain⟨b1,o1,k,fc,rfl,bg,aO,y1⟩:=TY hf ((Dy e.o.apart hp _).trans e1);have au:=ze aO;have Z:Hid (vq (AR m (yy (a.take m)) b) b m (yy (a.take m))):=⟨by omega,EX _,rfl⟩;have T:=ze e2;have T3:=ze (T2.out.ah ag);have C3:=ze (C2.out.below ag);clear hp hf ag aO e1 e2 ar e T2 C2;unfold qy at U;generalize be:AR m (yy (a.take m)) b=ck at *;go_wp2_with fail;refine U.o.mono ?_;rintro r w4 ⟨rfl,hw⟩;rw[hw,au.o];clear hw U au;have av:Hid (Lss (w3.alloc (.cells #[qy CA,qy ck,.bool false,.int .i64 0] 155)) (.slice (some ⟨w3.heap.size,0,none⟩) 1 1) [⟨CA,ck,false,0⟩]):=⟨_,_,rfl,.inr ⟨w3.heap.size,0,rfl,λj u hj=>by
  rw[xk,xe _ _ _ _ _ _ (zf w3 (.cells #[qy CA,qy ck,.bool false,.int .i64 0] 155))];simpa[UZ]using hj⟩⟩
 have i:=ze (XZ (C3.out.below (zi w3 (.cells #[qy CA,qy ck,.bool false,.int .i64 0] 155))) av.o (by simp) (by intro l hl;rw[yl]at hl;subst hl;exact⟨T.o,rfl,rfl⟩));have T4:=ze (T3.out.ah (zi w3 (.cells #[qy CA,qy ck,.bool false,.int .i64 0] 155)));clear C3 T3 av;go_wp2_with fail;refine i.o.mono ?_;rintro r w5 ⟨rfl,aU,n5,aQ,ao,aM⟩;have T5:=ze (kt T4.out aU);have E:=ze (zk0 (fs:=dA.fs) aQ);have HU:=ze (Od af HC.o.1 HC.o.2.1 HC.o.2.2 aM (Uf a b 16) (by omega) he (by rw[ao];omega) hk (by rw[E.o];exact T.o) (λnn rr ho=>by rw[E.o]at ho;cases ho.yes Z.o;exact⟨⟨[],by rw[OK _ _ _ _ _ _ rfl (by omega)]⟩,λh=>absurd rfl h⟩));have a0:Hid (((qr dA.fs n5 J9).2).ai=1):=by show _=_;rw[F8,ao];rfl
 clear aU aQ ao aM i T4 y1;unfold yu at HU;go_wp2_with fail;refine HU.o.mono ?_;rintro r w6 ⟨q,x,hq,hu⟩;rw[E.o]at hq;obtain rfl:=hq.yes Z.o;obtain⟨rfl,aS,aV,al⟩:=hu _ _ _ (OK _ _ _ _ _ _ rfl (by omega));obtain⟨c6,am,N⟩:∃c6:Cl,c6={(⟨b,0,yy [],16,[]⟩:Cl)with size:=m,root:=yy (a.take m)}/\CI a c6 1:=⟨_,rfl,t,Ec _,λx hx=>by simp at hx,rfl,⟨λ_=>rfl,λ_=>by simp⟩,by simp⟩;have d:Hid (c6.size=m/\c6.root=yy (a.take m)/\c6.key=b):=by rw[am];exact⟨rfl,rfl,rfl⟩
 rw[<- am]at al;have D:=ze N;have aY:w6.ownsRow w5.heap.size 9 1 x 0 []:=aS;obtain⟨xa,xc,rfl⟩:=qt aY;rw[show GA (IP (Sum.inr []:Sum Er (za))).2=.agg #[.int .i64 0,.string ⟨#[]⟩] from rfl];have T6:=ze (kt T5.out aV);have C6:=ze (al.told TF);have T7:=ze (T6.out.ah (zi w6 TF));have R7:Hid ((w6.alloc TF).heap[w6.heap.size]?=some (.cells #[.int .i64 0,.string ⟨#[]⟩] 39 (0,0))):=zf _ _;have V:=ze T6.out.size;clear hq hu aS aY aV al am N HU E Z T;generalize (qr dA.fs n5 J9).2=n6 at *;go_wp2_with fail;generalize w6.alloc (.cells #[.int .i64 0,.string ⟨#[]⟩] 39)=w7 at *;generalize w6.heap.size=B at *;refine(Dl (.slice (some ⟨eg,0,none⟩) m ec) (a.take m) w7 (by omega) HB.o.short (Xy (Dg (zy aZ.o T7.out (by decide))) t)).mono ?_;rintro r w8 ⟨rfl,ak⟩;have c:=ze (Qr (C6.out.below ak));have S8:Hid (KT W w7 w8):=.aa ak;rw[d.o.1,d.o.2.1]at c;unfold yu qy at c;clear ak C6;generalize a7:yy (a.take m)=bd at *;go_wp2_with fail;refine c.o.mono ?_;rintro r w9 ⟨rfl,aX,aN⟩;have S9:=ze (kt S8.out aX);have q0:=(zm (S9.out.keep R7.out (by decide)) 0 _ rfl).1;have i:=ze (XZ aN (v:=.slice none 0 0) (ls:=[]) ⟨none,0,rfl,.inl ⟨rfl,rfl⟩⟩ (by simp) (by simp));clear aX aN c S8;go_wp2_with fail;refine i.o.mono ?_;rintro r ba ⟨rfl,Q,bi,f,O,L⟩;have az:=ze (kt S9.out Q);have S:=ze (I.o.cp (by omega));have HU:=ze (Od af HC.o.1 HC.o.2.1 HC.o.2.2 L D.o (by omega) he (by rw[O,a0.o];omega) (by rw[d.o.2.2];exact hk) (by rw[Og,Eu _ _ f,S.o.1];exact S.o.2) (Zs (by rw[d.o.2.2];exact I.o.bh) f I.o.short (qw he (by decide)) D.o (by rw[d.o.1];exact t)));have J:=ze f;clear Q f O L i S9 q0;unfold yu at HU;go_wp2_with fail;refine HU.o.mono ?_;rintro r ap ⟨q,x,hq,hu⟩;obtain⟨aE,bj,aF,z,P⟩:=Xw I.o.bh J.o I.o.short (qw he (by decide)) (by omega) D.o (by rw[d.o.1];exact t) d.o.2.2 hq;obtain⟨rfl,g,R,M⟩:=hu _ _ _ aF;rw[d.o.1]at g ⊢;have ax:Hid (aE.size=a.length/\aE.root=yy a):=⟨z,by rw[P.rt,z,jb]⟩;rw[show GA (IP (Sum.inr (if 0<m/\m<a.length then EC a m a.length else []):Sum Er (za))).2=.agg #[.int .i64 0,.string ⟨#[]⟩] from rfl];have HX:Hid (ap.ownsRow ba.heap.size 9 1 x (NP a m a.length).length ((NP a m a.length).map qy)):=g;obtain⟨xb,xd,rfl⟩:=qt g;rw[show(IP (Sum.inr (if 0<m/\m<a.length then EC a m a.length else []):Sum Er (za))).1.length=(NP a m a.length).length from rfl]at *;have ad:=ze (kt az.out R);have F:=ad.out.keep R7.out (by decide);obtain⟨q0,a8⟩:=zm F 0 _ rfl;obtain⟨q1,a9⟩:=zm F 1 _ rfl;have ab:=ze (Xv F rfl (.int .i64 0) (.string ⟨#[]⟩));have aD:Hid (KT W w ((ap.setCell ⟨B,0,none⟩ (.int .i64 0)).setCell ⟨B,1,none⟩ (.string ⟨#[]⟩))):=((kt T7.out ad.out).aA V.o 0 _).aA V.o 1 _;have aq:=ze (M.past ab.o.1 (λk hk=>by subst hk;exact zt HW.o.size V.o) (by decide) (by decide) (by decide) (by decide) (by decide) (by decide));have a3:=ze (zy HX.o ab.o.1 (by decide));clear hq hu g R M aF z P HU az F R7 HX D J;go_wp2_with fail;generalize (ap.setCell ⟨B,0,none⟩ (.int .i64 0)).setCell ⟨B,1,none⟩ (.string ⟨#[]⟩)=bn at *;have c:=ze (Qr aq.out);rw[ax.o.1,ax.o.2]at c;unfold yu qy at c;clear q0 a8 q1 a9 ad aq;refine c.o.mono ?_;rintro r bo ⟨rfl,A,-⟩;have C:=ze (I.o.aj (kt aD.out A) (by decide) (by decide) (by decide));have aB:=ze A;have aw:=ze (zoh C.out (by omega));clear A c;go_wp2_with fail;refine aw.o.mono ?_;rintro r bb ⟨bl,rfl,n,aR⟩;have aC:=ze (aB.out.ah n);have k1:bb.cell? ⟨wa,1,none⟩=some (.string ⟨b.toArray⟩):=(n.cell (p:=⟨wa,1,none⟩) (yf C.out.cells.2)).trans C.out.cells.2;have G:=ze (zo0 aR he I.o.short hk S.o.2 m a5 t);rw[a7]at G;unfold yu qy at G;clear n aR aw aB C;unfold yu;go_wp2_with fail;refine G.o.mono ?_;rintro r bc ⟨bm,rfl,K,y⟩;have ae:=ze (aC.out.ah K);obtain⟨ua,uc,rfl⟩:=qt y;have a1:=ze (zjc a m a.length);have ay:=ze (Gp (.slice xb (NP a m a.length).length xd) (.slice ua (NP a m a.length).length uc) ((NP a m a.length).map tb) bc (by rw[yg];have:=a1.o;omega) (CT.aW (zy a3.out ae.out (by decide))) (CT.aW y));have q0:=(zm (ae.out.keep ab.o.2 (by decide)) 0 _ rfl).1;clear K y G aC k1;generalize yy a=RE at *;go_wp2_with fail;refine ay.o.mono ?_
 rintro r bp ⟨rfl,s⟩;have a2:=ze ((kt aD.out ae.out).ah s);have q2:=(s.cell (p:=⟨B,0,none⟩) (yf q0)).trans q0;clear s ay
 go_wp2
 go_ret;exact⟨by simp,a2.out⟩
def znm (W:World)(V:Nat->Addr)(hE:DW W)(ap:vj W V)(aq:F0 W)(wa da:Nat)(dA:Dk)(a:za)(ev:Value)(i:Nat)(b:zb)(w:World)(hW:zc W w)(hA:UY W w wa da a b dA)(aa:w.ownsRow 0 9 1 ev a.length (a.map qy))(hi:i<a.length)(he:a.length<=100)(hk:b.length<=1048576):
  Calls prog 57 #[yu wa,ev,.int .i64 i,.slice none 0 0] w λr w'=>r=.returned (.bool true)/\KT W w w':=by
 have HC:=ze (And.intro hE (And.intro ap aq));have HW:=ze hW;have A:=ze hA;have aL:=ze aa;obtain⟨c0,c1⟩:=hA.cells;obtain⟨eg,ec,rfl,-⟩:=Ra aa (by omega);have Q:=ze (LJ da w);unfold BD yu at Q;unfold BD at c0;unfold qy at c1;clear hE ap aq hW hA aa;unfold yu;go_enter func57,ntmps57;go_wp2_with fail;refine Q.o.mono ?_;rintro r w1 ⟨rfl,G,an⟩;have P:=ze (zgv W (λk=>W.heap.size<=k/\k<w1.heap.size) w.heap.size b 16 w1 (zt HW.o.size G.size) (λ_ h=>h.2));have d1:=(G.cell (p:=⟨wa,1,none⟩) (yf c1)).trans c1;have H1:=ze (And.intro G an);clear G an Q c0;unfold yu qy at P;go_wp2_with fail;refine P.o.mono ?_;rintro r w2 ⟨pb,rfl,ar,az⟩;obtain⟨t2,au⟩:=V4 HW.o A.o H1.o.1 H1.o.2 ar az;have T2:=ze t2;have B:=ze (A.o.cp (by omega));have HU:=ze (Od V HC.o.1 HC.o.2.1 HC.o.2.2 au (Uf a b 16) (by omega) he (by simp) hk (by rw[Og,Eu _ _ rfl,B.o.1];exact B.o.2) (Zs A.o.bh rfl A.o.short (qw he (by decide)) (Uf a b 16) (yk _)));have HF:Hid (((qr dA.fs ⟨[],[],0⟩ J9).2).ai=1/\((qr dA.fs ⟨[],[],0⟩ J9).2).ao=[]):=⟨F8 _ _ _,by rw[Og,Eu _ _ rfl,B.o.1]⟩;clear ar az au t2 P H1 d1 c1;generalize w.heap.size=nb at *;unfold yu at HU;go_wp2_with fail;refine HU.o.mono ?_;rintro r w3 ⟨q,x,hq,hu⟩;rw[Og,Eu _ _ rfl,B.o.1]at hq;obtain rfl:=hq.yes (show vq _ b a.length (yy a) from ⟨by omega,EX _,rfl⟩);obtain⟨rfl,aD,aE,Y⟩:=hu _ _ _ (OK _ _ _ _ _ _ rfl (by omega));obtain⟨c3,Z,aw⟩:∃c3:Cl,c3={(⟨b,0,yy [],16,[]⟩:Cl)with size:=a.length,root:=yy a}/\CI a c3 1:=⟨_,rfl,zk _,Ec _,λx hx=>by simp at hx,by simp,⟨λ_=>rfl,λ_=>by simp⟩,by simp⟩;have M:Hid (c3.size=a.length):=by rw[Z];rfl
 rw[<- Z]at Y;have aJ:=ze aw;have aH:w3.ownsRow w2.heap.size 9 1 x 0 []:=aD;obtain⟨xa,xc,rfl⟩:=qt aH;rw[show GA (IP (Sum.inr []:Sum Er (za))).2=.agg #[.int .i64 0,.string ⟨#[]⟩] from rfl];have T3:=ze (kt T2.out aE);have C3:=ze (Y.told TF);have T4:=ze (T3.out.ah (zi w3 TF));have R4:Hid ((w3.alloc TF).heap[w3.heap.size]?=some (.cells #[.int .i64 0,.string ⟨#[]⟩] 39 (0,0))):=zf _ _;have ad:=ze T3.out.size;have af:=ze (XZ C3.out (v:=.slice none 0 0) (ls:=[]) ⟨none,0,rfl,.inl ⟨rfl,rfl⟩⟩ (by simp) (by simp));clear hq hu aD aH aE Y Z aw HU C3 T2 T3;generalize (qr dA.fs ⟨[],[],0⟩ J9).2=n3 at *;go_wp2_with fail;generalize w3.alloc (.cells #[.int .i64 0,.string ⟨#[]⟩] 39)=w4 at *;generalize w3.heap.size=z at *;refine af.o.mono ?_;rintro r w5 ⟨rfl,aF,n5,aB,ay,av⟩;have j:=ze (zj6 V HC.o.1 HC.o.2.1 HC.o.2.2 av aJ.o (by omega) he A.o.short (by rw[ay,HF.o.1];omega) aB (by rw[M.o];exact A.o.bh.all) (i:=i) (by rw[M.o];exact hi));rw[M.o]at j;generalize ax:a.getD i []=en at j;have N:=ze ax;have S5:=ze aF;clear ax;clear aF aB ay av af;unfold yu at j;go_wp2_with fail;refine j.o.mono ?_;rintro r w6 ⟨nn,x,rfl,ab,aG,-⟩;have HX:Hid (w6.ownsRow w5.heap.size 9 1 x (Ey a a.length i).length ((Ey a a.length i).map qy)):=ab;obtain⟨xb,xd,rfl⟩:=qt ab;have S6:=ze (kt S5.out aG);have E:=S6.out.keep R4.out (by decide);obtain⟨q0,aN⟩:=zm E 0 _ rfl;obtain⟨q1,aO⟩:=zm E 1 _ rfl;have T:=ze (Xv E rfl (.int .i64 0) (.string ⟨#[]⟩));have T7:Hid (KT W w ((w6.setCell ⟨z,0,none⟩ (.int .i64 0)).setCell ⟨z,1,none⟩ (.string ⟨#[]⟩))):=((kt T4.out S6.out).aA ad.o 0 _).aA ad.o 1 _;have X7:=ze (zy HX.o T.o.1 (by decide));have ag:=ze (zoh (A.o.aj T7.out (by decide) (by decide) (by decide)) (by omega));rw[show GA (0,[])=.agg #[.int .i64 0,.string ⟨#[]⟩] from rfl];clear ab aG j S5 E R4 HX;unfold qy;go_wp2_with fail;refine ag.o.mono ?_;generalize (w6.setCell ⟨z,0,none⟩ (.int .i64 0)).setCell ⟨z,1,none⟩ (.string ⟨#[]⟩)=w7 at *;clear q0 aN q1 aO S6;rintro r w8 ⟨H,rfl,X,aC⟩;have HQ:Hid (QN (w8.alloc (.cells #[.pointer (some ⟨H,0,none⟩),.int .i64 a.length,.slice none 0 0] 164)) w8.heap.size a):=⟨H,zf _ _,⟨b,aC.below (zi _ _)⟩,he,A.o.short⟩;have C:=ze (znn HQ.o i hi);rw[N.o]at C;have L:=ze (X.trans ((zi w8 (.cells #[.pointer (some ⟨H,0,none⟩),.int .i64 a.length,.slice none 0 0] 164)).mono X.size));clear X aC ag;unfold yu at C ⊢;go_wp2_with fail;refine C.o.mono ?_;generalize w8.alloc (.cells #[.pointer (some ⟨H,0,none⟩),.int .i64 a.length,.slice none 0 0] 164)=w9 at *;rintro r aP ⟨rfl,e⟩;have aK:Hid (en.length<=20):=by
  show _<=_;rw[<- N.o,zj,zo hi];exact A.o.short _ (ye hi)
 have S:=ze (zoj i 64 0 a.length aP (by omega) (by omega) (by omega) (by omega) (by omega) (by omega) (LV _) (HQ.o.below e));have f:=ze (L.o.trans (e.mono L.o.size));have K:=ze (HQ.o.below e);have O:=ze (Ot a (qw he (by decide)) a.length i (zk _) hi);rw[jb,N.o]at O;rw[Vc]at S;clear e C HQ;unfold qy;go_wp2_with fail;refine S.o.mono ?_;rintro r aQ ⟨aV,rfl,l,y⟩;obtain⟨pa,pc,rfl⟩:=qt y;have g:=ze (f.o.trans (l.mono f.o.size));have ak:=ze (K.o.below l);have J:=ze (UJ y);clear l y S K;go_wp2_with fail;refine(LM ⟨en.toArray⟩ aQ (qw aK.o (by decide))).mono ?_;rintro r aR ⟨rfl,m⟩;have c:=ze (g.o.trans (m.mono g.o.size));unfold AL;have U:=ze m;clear m;go_wp2_with fail;refine(Dl (.slice (some ⟨eg,0,none⟩) a.length ec) a aR (by omega) A.o.short (Dg (yx (zy aL.o T7.out (by decide)) c.o))).mono ?_;rintro r aS ⟨rfl,n⟩;have I:=ze (c.o.trans (n.mono c.o.size));have F:=ze (U.out.trans (n.mono U.out.size));have R:=ze (C4 64 0 a.length i);have D:=ze (Rt 1001 (AH en) (yy a) (i:Int) (a.length:Int) (by omega) (.slice pa (AD 64 0 a.length i).length pc) (((AD 64 0 a.length i).map λs=>yy (CC a s)).map tb) aS (by rw[yg,yg];have:=R.o;omega) (by rw[yg,yg];have:=R.o;omega) (vx (Jc _)) zml (CT.aW (yx J.o F.out)));have ae:Hid (P9 1001 (AH en) (i:Int) (a.length:Int) (A0 (((AD 64 0 a.length i).map λs=>yy (CC a s)).map tb)) (yy a)=true):=by
  show _=_;rw[MC];exact O.o
 rw[ae.o]at D;unfold AL at D;clear n U O ae;go_wp2_with fail;refine D.o.mono ?_;rintro r aI ⟨rfl,t⟩;have am:=ze (F.out.trans (t.mono F.out.size));have d:=ze (I.o.trans (t.mono I.o.size));have z2:aI.cell? ⟨w8.heap.size,2,none⟩=some (.slice none 0 0):=by
  obtain⟨aU,hg,-⟩:=ak.o.below am.out;exact(zm hg 2 _ rfl).1
 have q0:=(zm ((d.o.block _ (zg T.o.2)).trans T.o.2) 0 _ rfl).1;have al:=ze (Gp (.slice xb (Ey a a.length i).length xd) (.slice pa (AD 64 0 a.length i).length pc) ((Ey a a.length i).map tb) aI (by unfold Ey;rw[yg,yg];have:=R.o;omega) (CT.aW (yx X7.out d.o)) (CT.aW (yx J.o am.out)));clear t D F c g f L;go_wp2_with fail;refine al.o.mono ?_;rintro r aX ⟨rfl,u⟩;have aM:=ze (T7.out.ah (d.o.trans (u.mono d.o.size)));have q2:=(u.cell (p:=⟨z,0,none⟩) (yf q0)).trans q0;clear u al
 go_wp2
 go_ret;exact⟨by simp,aM.out⟩
def Jw (a:za):za:=a.filter λl=>decide (l.length<=20)
def zg5 (W:World)(x:Nat->Addr)(hE:DW W)(ap:vj W x)(ao:RW W)(aq:F0 W)(v:Value)(c:za)(m i:Int)(d:zb)(hm:-9223372036854775808<=m/\m<=9223372036854775807)(hi:-9223372036854775808<=i/\i<=9223372036854775807)(K:d.length<=1048576)(hn:c.length<=maxLen)(hl:∀l∈c,l.length<=maxLen)(h:CT W v (c.map tb)):
  Calls prog 13 #[v,.int .i64 m,qy d,.slice none 0 0,.int .i64 i] W λr w'=>r=.returned (.bool true)/\zc W w':=by
 have q:=ze (And.intro hE (And.intro ap (And.intro ao aq)));have aB:=ze hl;have V:=ze (GX v (c.map tb) W (by rw[yg];exact hn) (λs hs=>by
  obtain⟨l,aH,rfl⟩:=yi.1 hs;exact hl l aH) h)
 obtain⟨a,aL,rfl,ar,B⟩:=h;simp only[yg]at ar B V ⊢;have H:=ze B;clear B hE ap ao aq hl;unfold qy;go_enter func13,ntmps13;go_wp2_with fail;refine V.o.mono ?_;rintro r w1 ⟨rfl,aw⟩;rw[aw];clear aw w1 V
 by_cases h1:Mn (c.map tb)=true/\c.length<=100
 rotate_left
 ·cases hf:Mn (c.map tb)
  case' true=>have h2:¬c.length<=100:=λh=>h1 ⟨hf,h⟩
  all_goals
   clear h1
   go_wp2
   go_ret;exact⟨rfl,zu _ _⟩
 obtain⟨hf,h1⟩:=h1;rw[hf]
 go_wp2
 go_loopw [12,13] (λe k wr=>∃(n:Nat) (A:za),n<=c.length/\k=.int .i64 n/\A=Jw (c.take n)/\A.length<=n/\zc W wr/\wr.ownsRow W.heap.size 9 1 e A.length (A.map qy)) (λ_ k _=>c.length-(intOf k).toNat)
 case atStart=>exact⟨0,[],yk _,rfl,by simp[Jw],zk _,zu _ _,⟨rfl,.inl ⟨rfl,rfl⟩⟩⟩
 case round =>
  obtain⟨n,A,aJ,rfl,hA,aF,hb,L⟩:=hrel;have E:=ze hb;have X:=ze L;have HA:=ze hA;clear hb L hA;obtain⟨ea,ec,J⟩:=qt X.o
  by_cases g:n<c.length
  ·obtain⟨b,D,rfl,ae⟩:∃b D,a=some ⟨b,D,none⟩/\∀i (h:i<c.length),W.cell? ⟨b,D+i,none⟩=some (.string ⟨c[i].toArray⟩):=by
    rcases H.o with h|⟨b,D,h1,h2⟩
    ·have h0:c=[]:=by simpa using h
     rw[h0]at g;simp at g
    ·exact⟨b,D,h1,λj hj=>(h2 j hj).trans (by rw[A5];rfl)⟩
   have y0:=(E.o.cell (p:=⟨b,_,none⟩) (yf (ae n g))).trans (ae n g);have am:Hid (Jw (c.take (n+1))=Jw (c.take n)++Jw [c[n]]):=by
    show _=_;unfold Jw;rw[yz g,GF]
   have aK:=ze (aB.o _ (ye g));clear ae;generalize c[n]=t at *;have az:Hid (A.length<=1000000000):=zt aF (zt aJ (zt h1 (by decide)));subst J
   by_cases ax:t.length<=20
   ·have ab:Hid (Jw [t]=[t]):=by show _=_;simp[Jw,ax]
    go_wp2_with (at_builtin;refine J6 wr rfl _ _ rfl W.heap.size E.o.size (.slice ea A.length ec) A rfl X.o t _ rfl rfl az.o ?_;intro v' w3 z N _;have aC:=ze z;have F:Hid (zc W w3):=E.o.trans (N.below (vg X.o) E.o.size);clear z N)
    go_roundw
    case rel=>exact⟨n+1,A++[t],by omega,by go_num,by rw[am.o,ab.o,HA.o],by simp;omega,F.o,aC.o⟩
    case measure=>simp[intOf];omega
   ·have ab:Hid (Jw [t]=[]):=by show _=_;simp[Jw,ax]
    go_wp2
    go_roundw
    case rel=>exact⟨n+1,A,by omega,by go_num,by rw[am.o,ab.o,AT,HA.o],by omega,E.o,X.o⟩
    case measure=>simp[intOf];omega
  ·obtain rfl:n=c.length:=by omega
   rw[jb]at HA;have ag:Hid (∀e∈A,e.length<=20):=λe J=>by
    rw[HA.o]at J;simpa using (CX.1 J).2
   have f:A.length<=100:=by omega
   clear HA
   by_cases aE:A.length=0
   ·subst J;rw[aE]
    go_wp2
    go_ret;exact⟨rfl,E.o⟩
   clear J;obtain⟨eg,ec,rfl,aO⟩:=Ra X.o (by omega);have u:=ze (N9 m A.length wr hm.1 hm.2 (by omega) (by omega));go_wp2_with fail;refine u.o.mono ?_;rintro r wq ⟨⟨m0,aI,rfl⟩,C⟩;rw[C];clear C wq u;go_wp2_with fail;obtain⟨M,aM,aN,au⟩:∃M:Nat,1<=M/\M<=A.length/\1+(m0:Int)=(M:Int):=⟨m0+1,by omega,by omega,by omega⟩;rw[au];clear au aI;have Y:=ze (TB W x q.o.1 q.o.2.1 q.o.2.2.1 (.slice (some ⟨eg,0,none⟩) A.length ec) A M d wr E.o K f ag.o (CT.aW X.o));unfold qy at Y;refine Y.o.mono ?_;rintro r w2 ⟨d1,rfl,G⟩;have al:=ze G;have R:Hid (zc W w2):=E.o.trans (G.1.mono E.o.size);have ai:=ze (yx X.o G.1);have Z:=ze (TB W x q.o.1 q.o.2.1 q.o.2.2.1 (.slice (some ⟨eg,0,none⟩) M ec) (A.take M) M d w2 R.o K (by rw[AM];omega) (λe J=>ag.o e (qa J)) (Xy (Dg ai.o) (by omega)).to);unfold qy at Z;clear G Y;go_wp2_with fail;refine Z.o.mono ?_;rintro r w3 ⟨d2,rfl,af⟩;have w:=ze af;have F:Hid (zc W w3):=R.o.trans (af.1.mono R.o.size);clear af Z;have ah:=ze (zcd w3);go_wp2_with fail;refine ah.o.mono ?_;rintro r w4 ⟨rfl,y⟩;have S:Hid (zc W w4):=F.o.trans (y.mono F.o.size);have P:Hid (UY W w4 wr.heap.size (wr.heap.size+1) A d d1):=(UY.of al.o.2 (by omega)).aj (O:=λ_=>False) (T:=[]) (.aa (w.o.1.trans (y.mono w.o.1.size))) (by simp) (by simp) (by simp);have an:Hid (UY W w4 w2.heap.size (w2.heap.size+1) (A.take M) d d2):=(UY.of w.o.2 (by omega)).aj (O:=λ_=>False) (T:=[]) (.aa y) (by simp) (by simp) (by simp);have ak:=ze (E9 (yx (yx ai.o w.o.1) y) (yk _));clear y ah al w;have ad:=ze (zih W x q.o.1 q.o.2.1 q.o.2.2.2 wr.heap.size (wr.heap.size+1) w2.heap.size (w2.heap.size+1) d1 d2 A (.slice (some ⟨eg,0,none⟩) A.length ec) M d w4 S.o P.o an.o ak.o (by omega) (by omega) f K);unfold yu at ad;go_wp2_with fail;refine ad.o.mono ?_;rintro r w5 ⟨rfl,I⟩;have U:Hid (zc W w5):=S.o.trans (I.below (λk K=>K) S.o.size);have ay:=ze (P.o.aj I (by decide) (by decide) (by decide));have aD:=ze (zy ak.o I (by decide));clear I ad P an;have u:=ze (N9 i A.length w5 hi.1 hi.2 (by omega) (by omega));go_wp2_with fail;refine u.o.mono ?_;rintro r wq ⟨⟨i0,aG,rfl⟩,C⟩;rw[C];clear C wq u;have Q:=ze (znm W x q.o.1 q.o.2.1 q.o.2.2.2 wr.heap.size (wr.heap.size+1) d1 A (.slice (some ⟨eg,0,none⟩) A.length ec) i0 d w5 U.o ay.o aD.o aG f K);unfold yu at Q;go_wp2_with fail;refine Q.o.mono ?_;rintro r w6 ⟨rfl,av⟩;have aA:Hid (zc W w6):=U.o.trans (av.below (λk K=>K) U.o.size);clear av Q
   go_wp2
   go_ret;exact⟨rfl,aA.o⟩
end Go.Proofs.YtfdbeldiomkdiaaGreatDoor
