import Derived.Test.YtfdbeldiomkdiaaGreatDoorG39
set_option maxHeartbeats 8000000
set_option maxRecDepth 100000
set_option linter.all false
namespace Go.Proofs.YtfdbeldiomkdiaaGreatDoor
open Go.RowKit Go.Proofs.Tryz
variable {nb q qb:Nat}{v v':Value}{w w' w1 w2:World}
def NN (w:World)(d:Nat)(a:za)(c:zb):Prop:=
 ∃v b,w.heap[d]?=some (.cells #[v,.slice none 0 0,.slice none 0 0] 243 (0,0))/\Mr w v b/\b.length<=1000000000/\Bb b a a.length/\xr b CA=some (AR a.length (yy a) c)
def QN (w:World)(d:Nat)(a:za):Prop:=
 ∃c,w.heap[d]?=some (.cells #[.pointer (some ⟨c,0,none⟩),.int .i64 a.length,.slice none 0 0] 164 (0,0))/\(∃b,NN w c a b)/\a.length<=100/\∀e∈a,e.length<=20
def NN.below {b:za}{a:zb}(h:NN w nb b a)(d:zc w w'):NN w' nb b a:=by
 obtain⟨v,e,c,f,g⟩:=h;exact⟨v,e,(d.block nb (vk c)).trans c,f.below d,g⟩
def QN.below {b:za}(h:QN w qb b)(d:zc w w'):QN w' qb b:=by
 obtain⟨g,c,⟨a,e⟩,f⟩:=h;exact⟨g,(d.block qb (vk c)).trans c,⟨a,e.below d⟩,f⟩
def TY {g:Fs}{p d:zb}(h:Mr w v g)(i:xr g p=some d):∃b f k c,v=.slice (some ⟨b,f,none⟩) g.length c/\k<g.length/\Ed g p=k/\w.cell? ⟨b,f+k*2+1,none⟩=some (.string ⟨d.toArray⟩):=by
 cases e:GC g p with
 |none=>rw[(Bm e).1]at i;simp at i
 |some k =>
  obtain⟨j,-,l,-⟩:=Bn e;obtain⟨a,c,rfl,-,-⟩:=id h;obtain⟨b,f,rfl,m⟩:=h.at.2.2 (by omega);refine⟨b,f,k,c,rfl,j,by unfold Ed;rw[e],(m k j).2.trans ?_⟩;rw[i]at l;cases l
  rfl
def zig {i:za}{g:zb}(h:NN w nb i g){p d:zb}(l:(p,d)∈j8 i):
  Calls prog 151 #[yu nb,qy p] w λr x=>r=.returned (.tuple #[qy d,.bool true])/\x=w:=by
 obtain⟨v,s,a,hv,t,j,-⟩:=h;have m:=ze (AF v s p w t hv);obtain⟨b,u,k,c,rfl,z,e,C⟩:=TY hv (j _ (by rw[jb];exact l));have A:=(zm a 0 _ rfl).1;have B:=(zm a 1 _ rfl).1;have n:=ze e;have q:=ze (AF (.slice none 0 0) [] p w (by simp) ⟨none,0,rfl,zk _,.inl rfl⟩);unfold qy at *;unfold yu;clear a j e l hv;go_enter func151,ntmps151;go_wp2_with fail;refine q.o.mono ?_;rintro r y ⟨rfl,f⟩;rw[f,show Ed [] p=-1 from rfl];go_wp2_with fail;refine m.o.mono ?_;rintro r y ⟨rfl,f⟩;rw[f,n.o]
 go_wp2
 go_ret2
 exact⟨rfl,rfl⟩
def zok {b:za}(h:QN w qb b)(l a:Nat)(n:4*a<b.length/4^l):
  Calls prog 236 #[yu qb,.int .i64 l,.int .i64 a,.int .i64 ((b.length/4^l:Nat):Int)] w λr B=>r=.returned (.tuple #[qy (D6 b l a (CD (b.length/4^l) a)),.bool true])/\zc w B:=by
 obtain⟨F,t,⟨A,q⟩,E,-⟩:=h;have C:b.length/4^l<=b.length:=DL _ _;have D:l<=20:=by
  rcases qf 20 l with h|h
  ·have:4^21<=4^l:=j2 (by omega) h;rw[Cy (by omega)]at n;omega
  ·exact h
 have x:=ze q;have m:Hid ((qz l a (CD (b.length/4^l) a),D6 b l a (CD (b.length/4^l) a))∈j8 b):=Cv.2 ⟨l,a,⟨by omega,by omega⟩,by simpa[qx]using n,by simp[Eb,qx]⟩;have y:=RH b l a (CD (b.length/4^l) a);have k:=(zm t 0 _ rfl).1;generalize b.length/4^l=c at *;generalize f:CD c a=d at *;unfold CD at f;have e:Hid (((c:Int)-a*4<=4->(c:Int)-a*4=d)/\(¬(c:Int)-a*4<=4->Value.int .i64 4=.int .i64 (d:Int))):=⟨λh=>by omega,λh=>by rw[show(d:Int)=4 by omega]⟩;generalize D6 b l a d=s at *;have z:d<=4:=by omega
 clear t q f;unfold yu;go_enter func236,ntmps236
 by_cases j:(c:Int)-a*4<=4
 all_goals
  go_wp2_with fail
  first
   |rw[e.o.1 j]
   |rw[e.o.2 j]
  refine(C5 l a d (by omega) w).mono ?_;rintro r G ⟨rfl,g⟩;have I:=(g.cell (p:=⟨qb,0,none⟩) (yf k)).trans k;have v:=ze g;have i:=ze (zig (x.o.below g) m.o);clear g j k;unfold yu qy at i;go_wp2_with fail;refine i.o.mono ?_;rintro r H ⟨rfl,u⟩;rw[u];clear u i m
  go_wp2
  go_ret2
  exact⟨rfl,v.o⟩
def zkf (l:zb)(a n:Nat):(⟨l.toArray⟩:ByteArray).extract a (a+n)=⟨((l.drop a).take n).toArray⟩:=by
 apply Ah;simp only[Ii,List.extract_toArray,FM];rw[Em]
def IV (w:World)(b:Nat)(a:za)(U j:Nat):Prop:=Calls prog 194 #[.pointer (some ⟨b,0,none⟩),.int .i64 U,.int .i64 j] w λr c=>r=.returned (qy (yy (CC a (j*U,U))))/\zc w c
def E5 (w:World)(c:Nat)(b:za)(a n:Nat):Prop:=Calls prog 152 #[.pointer (some ⟨c,0,none⟩),.int .i64 a,.int .i64 n] w λr d=>r=.returned (qy (yy (CC b (a,n))))/\zc w d
def T0 (b:za)(a n:Nat)(h:a+n<=b.length)(c:2<=n):yy (CC b (a,n))=vf (yy (CC b (a,yo n))) (yy (CC b (a+yo n,n-yo n))):=by
 have:=LQ (CC b (a,n)) (by rw[EA b a n h];exact c);rw[EA b a n h,IC b a n _ (by have:=Be n c;omega),IA]at this;exact this
def XB (a b:Nat)(h:a<9223372036854775808):wrap64 ((a:Int)/(b:Int))=((a/b:Nat):Int):=by
 have:a/b<=a:=DL _ _;rw[<- Int.natCast_ediv];generalize a/b=z at this;unfold wrap64;omega
def zmk {a:za}(h:QN w qb a)(l b U j:Nat)(hb:b<2)(J:U=2^b*4^l)(K:(j+1)*U<=a.length)(M:b=1->∀j v,QN v qb a->(j+1)*4^l<=a.length->IV v qb a (4^l) j):IV w qb a U j:=by
 have H:=ze h;obtain⟨nb,L,-,hs,-⟩:=h;have x1:=(zm L 1 _ rfl).1;have C:=ze M;have D:=ze K;have Y:j<100:=by
  have:=Nat.le_mul_of_pos_right (j+1) (show 0<U by rw[J];exact Nat.mul_pos (jp (by omega)) (jp (by omega)));omega
 have X:U<=100:=by
  have:=Nat.le_mul_of_pos_left U (show 0<j+1 by omega);omega
 have R:Hid (∀k,k<l->4*4^k<=4^l):=λk z=>by
  show _<=_;rw[<- Nat.pow_succ'];exact j2 (by omega) z
 have aa:l<4^l:=Nat.lt_pow_self (by omega);have A:Hid ((b=0/\U=4^l)\/b=1/\U=2*4^l):=by
  show _\/_;rcases(by omega:b=0\/b=1)with rfl|rfl
  ·exact .inl ⟨rfl,by omega⟩
  ·exact .inr ⟨rfl,by omega⟩
 have V:4^l<=U:=by rcases A.o with h|h<;>omega
 have W:U<=2*4^l:=by rcases A.o with h|h<;>omega
 generalize q:4^l=I at *;have d:=ze q;unfold IV;clear L M K q J;go_enter func194,ntmps194
 go_wp2
 go_loop [7,8] (λt p=>∃k P:Nat,k<=l/\P=4^k/\t=.int .i64 k/\p=.int .i64 P) (λt _=>l-(intOf t).toNat)
 case atStart=>exact⟨0,1,by omega,rfl,rfl,rfl⟩
 case round =>
  obtain⟨k,P,z,i,rfl,rfl⟩:=hrel;have g:=ze i;have T:1<=P:=by rw[i];exact Nat.one_le_pow _ _ (by omega)
  clear i
  by_cases G:k<l
  ·have S:4*P<=I:=by rw[g.o];exact R.o k G
   go_wp2
   go_round
   case rel=>exact⟨k+1,4*P,by omega,by rw[g.o,xp];omega,by go_num,by go_num⟩
   case measure=>simp[intOf];omega
  ·obtain rfl:k=l:=by omega
   obtain rfl:P=I:=by rw[g.o];exact d.o
   rcases A.o with ⟨rfl,rfl⟩|⟨rfl,rfl⟩
   ·have F:j+1<=a.length/U:=(BM (by omega)).2 D.o;have Z:j%4+1<=CD (a.length/U) (j/4):=by unfold CD;omega
    have y:=ze (zok H.o k (j/4) (by rw[d.o];omega));have ab:=RH a k (j/4) (CD (a.length/U) (j/4));have O:=ze (TD a k j (CD (a.length/U) (j/4)) (by omega));have N:Hid (Ao a (k:Int) j=yy (CC a (j*U,U))):=by
     show _=_;unfold Ao CC;rw[if_neg (by omega),zz,d.o]
    rw[d.o]at y;generalize D6 a (k:Int) (j/4) (CD (a.length/U) (j/4))=s at *;generalize CD (a.length/U) (j/4)=wd at *;unfold yu qy at y;clear F;go_wp2_with fail;rw[XB a.length U (by omega),show(j:Int)/4=((j/4:Nat):Int) by omega];refine y.o.mono ?_;rintro r v ⟨rfl,c⟩;have e:=ze c;clear c y
    go_wp2
    go_ret;refine⟨?_,e.o⟩;show Ending.returned (.string ((⟨s.toArray⟩:ByteArray).extract (8*(j%4)) (8*(j%4)+8)))=_;rw[zkf,O.o,N.o]
    rfl
   ·have x:=ze (C.o rfl);unfold IV at x;have n:Hid ((2*j+1+1)*P<=a.length):=by show _<=_;rw[show 2*j+1+1=(j+1)*2 by omega,Bt];exact D.o
    go_wp2_with fail;refine(x.o (2*j) w H.o (zt (CK _ (by omega)) n.o)).mono ?_;rintro r v ⟨rfl,c⟩;have e:=ze c;have f:=ze (x.o (2*j+1) v (H.o.below c) n.o);clear c x;unfold qy at f ⊢;go_wp2_with fail;refine f.o.mono ?_;rintro r w2 ⟨rfl,u⟩;have m:=ze (e.o.trans (u.mono e.o.size));have Q:Hid (yy (CC a (j*(2*P),2*P))=vf (yy (CC a (2*j*P,P))) (yy (CC a ((2*j+1)*P,P)))):=by
     show _=_;have z:yo (2*P)=P:=by
      rw[<- d.o,Az,<- Nat.pow_succ',Nr]
     rw[T0 a _ _ (by have:=D.o;rw[BW]at this;omega) (by omega),z,show j*(2*P)=2*j*P by rw[<- Bt,EH j 2],BW,Qg,show 2*P-P=P by omega]
    clear u f;go_wp2_with fail;refine(E4 _ _ w2 (vx (EX _)) (vx (EX _))).mono ?_;rintro r w3 ⟨rfl,E⟩;have B:=ze (m.o.trans (E.mono m.o.size));unfold AL
    go_wp2
    go_ret;exact⟨by rw[Q.o];rfl,B.o⟩
def zdg {a:za}(h:QN w qb a)(q j:Nat)(b:(j+1)*2^q<=a.length):IV w qb a (2^q) j:=by
 have c:∀(l j:Nat) (d:World),QN d qb a->(j+1)*4^l<=a.length->IV d qb a (4^l) j:=λl j d h b=>zmk h l 0 _ j (by omega) (by omega) b (by omega);refine zmk h (q/2) (q%2) _ j (by omega) ?_ b (λ_=>c _);rw[Az,<- Qh];congr 1;omega
def zjq {a:Nat}(h:Al a (2^q)):a/2^q*2^q=a:=Nat.div_mul_cancel h.dvd
def WQ {i:za}(n:Nat):∀(a:Nat) (w:World),1<=n->a+n<=i.length->Al a n->QN w qb i->E5 w qb i a n:=by
 induction n using Nat.strongRecOn with
 |_ n J =>
  intro a w P N q h;have S:=h.choose_spec.2.2.1;have H:=ze h;have e:=ze q;have f:=ze J;unfold E5 at f ⊢;clear J q h;go_enter func152,ntmps152
  go_wp2
  go_loop [7] (λt=>∃j k:Nat,k=2^j/\k<=n/\t=.int .i64 k) (λt=>n-(intOf t).toNat)
  case atStart=>exact⟨0,1,rfl,by omega,rfl⟩
  case round =>
   obtain⟨j,k,C,O,rfl⟩:=hrel;have G:1<=k:=by rw[C];exact KW
   have v:=ze C;clear C
   by_cases R:2*k<=n
   ·go_wp2
    go_round
    case rel=>exact⟨j+1,2*k,by rw[v.o,xp];omega,by omega,by go_num⟩
    case measure=>simp[intOf];omega
   by_cases D:k=n
   ·subst D;have x:a/k*k=a:=by have h:=e.o;rw[v.o]at h ⊢;exact zjq h
    have F:a%k=0:=by
     have:=Nat.div_add_mod a k;rw[EH,x]at this;omega
    have A:Hid (IV w qb i k (a/k)):=by
     have:=zdg H.o j (a/k) (by rw[<- v.o,BW,x];omega);rw[<- v.o]at this;exact this
    unfold IV at A;rw[x]at A;clear x;go_wp2_with fail;rw[XB a k (by omega)];refine A.o.mono ?_;rintro r l ⟨rfl,d⟩;have b:=ze d;unfold qy
    go_wp2
    go_ret;exact⟨rfl,b.o⟩
   ·have c:2<=n:=by omega
    obtain⟨U,V,T⟩:=Be n c;have L:=ze (T0 i a n N c);have p:=ze (f.o (yo n) (by omega) a w (by omega) (by omega) (e.o.left c) H.o);have g:Hid (∀l,QN l qb i->E5 l qb i (a+yo n) (n-yo n)):=λl M=>f.o (n-yo n) (by omega) (a+yo n) l (by omega) (by omega) (e.o.right c) M;unfold E5 at g;generalize u:yo n=K at *;have E:=ze (show(n:Int)-(K:Int)=((n-K:Nat):Int)/\(a:Int)+(K:Int)=((a+K:Nat):Int) by omega);have z:=ze u;clear u;go_wp2_with fail;refine(Fk n w c (by omega)).mono ?_;rintro r W ⟨rfl,I⟩;rw[I,z.o];clear I;go_wp2_with fail;refine p.o.mono ?_;rintro r l ⟨rfl,d⟩;have b:=ze d;unfold qy;clear d p;go_wp2_with fail
    try rw[E.o.1,E.o.2]
    refine(g.o l (H.o.below b.o)).mono ?_;rintro r Q ⟨rfl,s⟩;have m:=ze (b.o.trans (s.mono b.o.size));unfold qy;clear s g;go_wp2_with fail;refine(E4 _ _ Q (vx (EX _)) (vx (EX _))).mono ?_;rintro r X ⟨rfl,B⟩;have y:=ze (m.o.trans (B.mono m.o.size));unfold AL
    go_wp2
    go_ret;exact⟨by rw[L.o];rfl,y.o⟩
def Rts (c:za)(a:List (Nat×Nat))(w:World)(r:Ending)(b:World):Prop:=∃x,r=.returned x/\zc w b/\b.ownsRow w.heap.size 9 1 x a.length ((a.map λs=>yy (CC c s)).map qy)
def Xg {b:za}{c:List (Nat×Nat)}{a n:Nat}(d:zc w w1)(h:w1.ownsRow w.heap.size 9 1 v c.length ((c.map λs=>yy (CC b s)).map qy))(e:w2.ownsRow w.heap.size 9 1 v' ((c.map λs=>yy (CC b s))++[yy (CC b (a,n))]).length (((c.map λs=>yy (CC b s))++[yy (CC b (a,n))]).map qy))(f:zl (λg=>v.ownBlock=some g) [9] w1 w2):Rts b (c++[(a,n)]) w (.returned v') w2:=
 ⟨v',rfl,d.trans (f.below (vg h) d.size),by simpa using e⟩
def zoj {e:za}(i:Nat):∀(f a n:Nat) (w:World),f<=64->1<=n->n<=2^f->a+n<=e.length->a<=i->i<a+n->Al a n->QN w qb e ->
  Calls prog 107 #[.pointer (some ⟨qb,0,none⟩),.int .i64 ((i-a:Nat):Int),.int .i64 a,.int .i64 n] w (Rts e (AD f a n i) w):=by
 have one:∀(f a:Nat) (w:World) (I:Int),Calls prog 107 #[.pointer (some ⟨qb,0,none⟩),.int .i64 I,.int .i64 a,.int .i64 1] w (Rts e (AD f a 1 i) w):=λf a w I=>by
  rw[Gk f a 1 i (by omega)];go_enter func107,ntmps107
  go_wp2
  go_ret;exact⟨_,rfl,zu _ _,⟨rfl,.inl ⟨rfl,rfl⟩⟩⟩
 intro f
 induction f with
 |zero =>
  intro a n w _ t P _ _ _ _ _;obtain rfl:n=1:=by omega
  exact one 0 a w _
 |succ f N =>
  intro a n w hf t P hj J Y g h
  by_cases L:n=1
  ·subst L;exact one (f+1) a w _
  have b:2<=n:=by omega
  have hs:=h.choose_spec.2.2.1;obtain⟨Z,k2,T,U,k5,k6⟩:=Bo n f b P;have H:=ze h
  by_cases z:i<a+yo n
  case' pos =>
   have C:=ze (Ez f a n i b z);have d:=ze (N a (yo n) w (by omega) T Z (by omega) J z (g.left b) h);have c:Hid (∀j,QN j qb e->E5 j qb e (a+yo n) (n-yo n)):=λj t=>WQ _ _ j U (by omega) (g.right b) t;unfold E5 at c;generalize M:yy (CC e (a+yo n,n-yo n))=y at c;have A:=ze (C4 f a (yo n) i);generalize AD f a (yo n) i=O at C d A
  case' neg =>
   have C:=ze (D7 f a n i b z);have d:=ze (N (a+yo n) (n-yo n) w (by omega) U k2 (by omega) (by omega) (by omega) (g.right b) h);have c:Hid (∀j,QN j qb e->E5 j qb e a (yo n)):=λj t=>WQ _ _ j T (by omega) (g.left b) t;unfold E5 at c;generalize M:yy (CC e (a,yo n))=y at c;have A:=ze (C4 f (a+yo n) (n-yo n) i);generalize AD f (a+yo n) (n-yo n) i=O at C d A
  all_goals
   have W:=ze M;clear M;have F:=ze (Fk n w b (by omega));generalize yo n=K at *;have B:=ze (show(n:Int)-(K:Int)=((n-K:Nat):Int)/\(a:Int)+(K:Int)=((a+K:Nat):Int) by omega);have D:Hid (¬i<a+K->((i-a:Nat):Int)-(K:Int)=((i-(a+K):Nat):Int)):=λh=>by omega
   have E:=ze z;have v:i-a<K↔i<a+K:=by omega
   have X:i-a<n:=by omega
   clear N g h;generalize i-a=I at *;rw[<- v]at z;clear v;go_enter func107,ntmps107;go_wp2_with fail;refine F.o.mono ?_;rintro r w0 ⟨rfl,S⟩;rw[S];clear S;go_wp2_with fail
   try rw[D.o E.o,B.o.1,B.o.2]
   refine d.o.mono ?_;rintro r j ⟨x,rfl,u,m⟩;obtain⟨xa,xc,rfl⟩:=qt m;have k:=ze u;have G:=ze m;clear u m d;go_wp2_with fail
   try rw[B.o.1,B.o.2]
   refine(c.o j (H.o.below k.o)).mono ?_;rintro r w2 ⟨rfl,l⟩;have p:=ze (k.o.trans (l.mono k.o.size));have q:=ze (yx G.o l);clear l c;unfold qy;go_wp2_with (at_builtin;refine J6 w2 rfl _ _ rfl w.heap.size p.o.size (.slice xa O.length xc) (O.map λs=>yy (CC e s)) rfl (by rw[yg];exact q.o) y _ rfl rfl (by have:=A.o;rw[yg];omega) ?_;intro v' w5 Q R _;have V:=ze (Xg p.o q.o (W.o▸Q) R);clear Q R);go_ret;rw[C.o];exact V.o
def zoi {e:za}(i:Nat):∀(f a n:Nat) (b:Bool) (w:World),f<=64->1<=n->n<=2^f->a+n<=e.length->a<i->i<=a+n->Al a n->QN w qb e ->
  Calls prog 150 #[.pointer (some ⟨qb,0,none⟩),.int .i64 ((i-a:Nat):Int),.int .i64 a,.int .i64 n,.bool b] w (Rts e (AB f i a n b) w):=by
 have one:∀(f a n:Nat) (b:Bool) (w:World),1<=n->a+n<=e.length->Al a n->QN w qb e->Calls prog 150 #[.pointer (some ⟨qb,0,none⟩),.int .i64 (((a+n)-a:Nat):Int),.int .i64 a,.int .i64 n,.bool b] w (Rts e (AB f (a+n) a n b) w):=λf a n b w l G V h=>by
  have hs:=h.choose_spec.2.2.1;have U:=ze (WQ n a w l G V h);unfold E5 at U;rw[Dz f (a+n) a n b rfl,Em];clear h V;cases b
  ·go_enter func150,ntmps150;go_wp2_with fail;refine U.o.mono ?_;rintro r g ⟨rfl,hb⟩;have J:=ze hb;unfold qy
   go_wp2
   go_ret;exact⟨_,rfl,J.o.trans ((zi g _).mono J.o.size),by simp,.inr ⟨g.heap.size,1,#[qy (yy (CC e (a,n)))],rfl,J.o.size,zf _ _,by simp,by unfold maxLen;simp,by simp,by simp⟩⟩
  ·go_enter func150,ntmps150
   go_wp2
   go_ret;exact⟨_,rfl,zu _ _,⟨rfl,.inl ⟨rfl,rfl⟩⟩⟩
 intro f
 induction f with
 |zero =>
  intro a n b w _ l G Q z P c h;obtain rfl:i=a+n:=by omega
  exact one 0 a n b w l Q c h
 |succ f S =>
  intro a n b w hf l G Q z P c h
  by_cases q:i=a+n
  ·subst q;exact one (f+1) a n b w l Q c h
  have j:2<=n:=by omega
  have hs:=h.choose_spec.2.2.1;obtain⟨k1,k2,Z,k4,k5,k6⟩:=Bo n f j G;have H:=ze h
  by_cases C:i<=a+yo n
  case' pos =>
   have F:=ze (Ew f i a n b q C);have k:=ze (S a (yo n) b w (by omega) Z k1 (by omega) z C (c.left j) h);have d:Hid (∀g,QN g qb e->E5 g qb e (a+yo n) (n-yo n)):=λg l=>WQ _ _ g k4 (by omega) (c.right j) l;unfold E5 at d;generalize R:yy (CC e (a+yo n,n-yo n))=y at d;have D:=ze (Ci f i a (yo n) b);generalize AB f i a (yo n) b=T at F k D
  case' neg =>
   have F:=ze (Ex f i a n b q C);have k:=ze (S (a+yo n) (n-yo n) false w (by omega) k4 k2 (by omega) (by omega) (by omega) (c.right j) h);have d:Hid (∀g,QN g qb e->E5 g qb e a (yo n)):=λg l=>WQ _ _ g Z (by omega) (c.left j) l;unfold E5 at d;generalize R:yy (CC e (a,yo n))=y at d;have D:=ze (Ci f i (a+yo n) (n-yo n) false);generalize AB f i (a+yo n) (n-yo n) false=T at F k D
  all_goals
   have HY:=ze R;clear R;have N:=ze (Fk n w j (by omega));generalize yo n=K at *;have E:=ze (show(n:Int)-(K:Int)=((n-K:Nat):Int)/\(a:Int)+(K:Int)=((a+K:Nat):Int) by omega);have L:Hid (¬i<=a+K->((i-a:Nat):Int)-(K:Int)=((i-(a+K):Nat):Int)):=λh=>by omega
   have M:=ze C;have B:i-a<=K↔i<=a+K:=by omega
   have aa:i-a<n:=by omega
   clear S c h;generalize i-a=I at *;rw[<- B]at C;clear B;go_enter func150,ntmps150;go_wp2_with fail;refine N.o.mono ?_;rintro r w0 ⟨rfl,Y⟩;rw[Y];clear Y;go_wp2_with fail
   try rw[L.o M.o,E.o.1,E.o.2]
   refine k.o.mono ?_;rintro r g ⟨x,rfl,A,t⟩;obtain⟨xa,xc,rfl⟩:=qt t;have m:=ze A;have O:=ze t;clear A t k;go_wp2_with fail
   try rw[E.o.1,E.o.2]
   refine(d.o g (H.o.below m.o)).mono ?_;rintro r w2 ⟨rfl,p⟩;have u:=ze (m.o.trans (p.mono m.o.size));have v:=ze (yx O.o p);clear p d;unfold qy;go_wp2_with (at_builtin;refine J6 w2 rfl _ _ rfl w.heap.size u.o.size (.slice xa T.length xc) (T.map λs=>yy (CC e s)) rfl (by rw[yg];exact v.o) y _ rfl rfl (by have:=D.o;rw[yg];omega) ?_;intro v' w5 W X _;have HX:=ze (Xg u.o v.o (HY.o▸W) X);clear W X);go_ret;rw[F.o];exact HX.o
def znn {a:za}(h:QN w qb a)(i:Nat)(hi:i<a.length):
  Calls prog 106 #[yu qb,.int .i64 i] w λr Y=>r=.returned (.tuple #[qy (a.getD i []),.bool true])/\zc w Y:=by
 obtain⟨nb,I,⟨X,N⟩,hs,L⟩:=h;have J:=(zm I 0 _ rfl).1;have x1:=(zm I 1 _ rfl).1;have Q:=ze N;have D:Hid ((qz (-1) ((i/4:Nat):Int) (CD a.length (i/4)),D6 a (-1) (i/4) (CD a.length (i/4)))∈j8 a):=Cv.2 ⟨-1,i/4,⟨by omega,by omega⟩,by simp[qx];omega,by simp[Eb,qx]⟩;have n:4*(i/4)+CD a.length (i/4)<=a.length:=by unfold CD;omega
 have g:((a.drop (4*(i/4))).take (CD a.length (i/4))).length=CD a.length (i/4):=by rw[AM,vi];omega
 have m:∀l∈(a.drop (4*(i/4))).take (CD a.length (i/4)),l.length<=20:=λl U=>L l (jz (qa U));have F:Hid (DV (D6 a (-1) (i/4) (CD a.length (i/4)))=some ((a.drop (4*(i/4))).take (CD a.length (i/4)))):=by
  show _=_;rw[Om a _ _ n];refine TL _ ?_;unfold Iz;rw[g];unfold CD at *;simp only[A3,ja,AW];exact⟨by omega,by omega,m⟩
 have u:∀A:i%4<((a.drop (4*(i/4))).take (CD a.length (i/4))).length,((a.drop (4*(i/4))).take (CD a.length (i/4)))[i%4]=a.getD i []:=λA=>by
  rw[js,Ai,zj,zo (by omega)];simp only[Option.getD];congr 1;omega
 have C:Hid ((D6 a (-1) (i/4) (CD a.length (i/4))).length<=1048576):=by
  show _<=_;rw[Om a _ _ n];exact zt (Ng _ m) (by rw[g];unfold CD;omega)
 generalize D6 a (-1) (i/4) (CD a.length (i/4))=s at *;generalize (a.drop (4*(i/4))).take (CD a.length (i/4))=x at *;generalize v:CD a.length (i/4)=y at *;unfold CD at v;have d:i%4<x.length:=by omega
 have hv:=u d;have k:=ze (C5 (-1) ((i/4:Nat):Int) y (by omega) w);rw[show((i/4:Nat):Int)=(i:Int)/4 by omega]at k D;have q:Hid (((a.length:Int)-(i:Int)/4*4<=4->(a.length:Int)-(i:Int)/4*4=y)/\(¬(a.length:Int)-(i:Int)/4*4<=4->Value.int .i64 4=.int .i64 (y:Int))):=⟨λh=>by omega,λh=>by rw[show(y:Int)=4 by omega]⟩;generalize a.getD i []=e at *;have V:y<=4:=by omega
 clear I N v u m L n;unfold yu;go_enter func106,ntmps106
 by_cases G:(a.length:Int)-(i:Int)/4*4<=4
 all_goals
  go_wp2_with fail
  first
   |rw[q.o.1 G]
   |rw[q.o.2 G]
  refine k.o.mono ?_;rintro r Z ⟨rfl,z⟩;have y0:=(z.cell (p:=⟨qb,0,none⟩) (yf J)).trans J;have K:=ze z;have E:=ze (zig (Q.o.below z) D.o);clear z G J k;unfold yu qy at E;go_wp2_with fail;refine E.o.mono ?_;rintro r w2 ⟨rfl,P⟩;rw[P];clear P E D;go_wp2_with fail;refine(MK ⟨s.toArray⟩ Z C.o).mono ?_;rintro r w3 ⟨x3,rfl,t,c⟩;have B:=ze (K.o.trans (t.mono K.o.size));have O:DV (⟨s.toArray⟩:ByteArray).data.toList=some x:=F.o;rw[O]at c ⊢;obtain⟨R,c3,rfl,H,c⟩:=c;simp only[yg,Option.getD,Option.isSome]at H c ⊢;obtain⟨b3,o3,rfl,A⟩:∃b f,R=some ⟨b,f,none⟩/\∀j (M:j<x.length),w3.cell? ⟨b,f+j,none⟩=some (.string ⟨x[j].toArray⟩):=by
   rcases c with h|⟨b,f,S,T⟩
   ·have h0:x=[]:=by simpa using h
    rw[h0]at d;simp at d
   ·exact⟨b,f,S,λj M=>(T j M).trans (by rw[A5];rfl)⟩
  have W:=A (i%4) d;rw[hv]at W;clear A c t O hv
  go_wp2
  go_ret2
  exact⟨rfl,B.o⟩
end Go.Proofs.YtfdbeldiomkdiaaGreatDoor
namespace Go.Proofs
open Go.Shelf Tryz
def Tryz.cloneLie_ren:Go.Shelf.Ren:=⟨fun | 41=>149 | n=>n,fun | 22=>82 | 23=>155 | 4=>4 | n=>n,fun | n=>n⟩
def Tryz.cloneLie:Go.Proofs.SlLaysE0.n41 prog cloneLie_ren:={
 mixed:=by kernel_rfl
 f41:=⟨f149.name,by decide,kq func149 (by kernel_rfl)⟩
 t4:=underlying4
 a4:=isAgg4
 z4:=sizeOf4
 v4:=zeroValue4
 t22:=underlying82
 a22:=isAgg82
 z22:=sizeOf82
 v22:=zeroValue82 }
end Go.Proofs
namespace Go.Proofs.YtfdbeldiomkdiaaGreatDoor
open Go.RowKit Go.Proofs.Tryz
variable {nb q qb:Nat}{v v':Value}{w w' w1 w2:World}
variable {B:Nat}
def UZ (a:List Ly):List Value:=a.flatMap λl=>[qy l.path,qy l.data,.bool l.aH,.int .i64 l.times]
def zkv (b:List Ly):(UZ b).length=b.length*4:=by
 induction b with
 |nil=>rfl
 |cons a r c =>
  unfold UZ at c ⊢;rw[DO,zw,c];simp only[xf,jq];omega
def zkw (b:List Ly):∀u∈UZ b,u.oneCell'=true:=by
 intro u a;unfold UZ at a;obtain⟨f,-,h⟩:=Bz.1 a;simp only[jl,Cx,N6]at h;rcases h with rfl|rfl|rfl|rfl<;>rfl
def znf:∀(b:List Ly) (j:Nat) (h:j<b.length),(UZ b)[j*4]?=some (qy b[j].path)/\(UZ b)[j*4+1]?=some (qy b[j].data)/\(UZ b)[j*4+2]?=some (.bool b[j].aH)/\(UZ b)[j*4+3]?=some (.int .i64 b[j].times):=by
 intro b
 induction b with
 |nil=>intro j h;simp at h
 |cons a r c =>
  intro j h;have e:UZ (a::r)=qy a.path::qy a.data:: .bool a.aH:: .int .i64 a.times::UZ r:=by simp[UZ]
  cases j with
  |zero=>rw[e];exact⟨rfl,rfl,rfl,rfl⟩
  |succ j =>
   have:=c j (by simpa using h);rw[e,show(j+1)*4=j*4+4 by omega];simpa using this
def Lss (w:World)(v:Value)(e:List Ly):Prop:=∃a d,v=.slice a e.length d/\(e=[]/\a=none\/∃b c,a=some ⟨b,c,none⟩/\∀j u,(UZ e)[j]?=some u->w.cell? ⟨b,c+j,none⟩=some u)
def Lss.below {i:List Ly}(h:Lss w v i)(l:zc w w'):Lss w' v i:=by
 obtain⟨a,c,e,h|⟨b,d,k,g⟩⟩:=h
 ·exact⟨a,c,e,.inl h⟩
 ·exact⟨a,c,e,.inr ⟨b,d,k,λj u f=>by rw[l.cell (p:=⟨b,_,none⟩) (yf (g j u f))];exact g j u f⟩⟩
def zkp:(prog.info? 155).map (λi=>(i.zero,i.size,i.bytes))=some (some (.agg #[.string ⟨#[]⟩,.string ⟨#[]⟩,.bool false,.int .i64 0]),4,48):=by kernel_rfl
def zko:(prog.info? 3).map (λi=>(i.zero,i.size,i.bytes))=some (some (.int .i64 0),1,8):=by kernel_rfl
def Yd (v:Value)(c:List Ly)(w:World)(s:c.length<=1000000000)(h:Lss w v c):
  Calls prog 149 #[v] w λe g=>∃f,e=.returned f/\zc w g/\g.ownsRow w.heap.size 155 4 f c.length (UZ c):=by
 obtain⟨a,d,rfl,⟨rfl,rfl⟩|⟨b,n,rfl,r⟩⟩:=h
 ·refine(AnyE.slices_Clone_nil Tryz.cloneLie 0 d w).mono ?_;rintro e g ⟨rfl,rfl⟩;exact⟨_,rfl,zu _ _,rfl,.inl ⟨rfl,rfl⟩⟩
 ·obtain⟨i,p,j⟩:=zx.1 zkp;obtain⟨k,l,m⟩:i.zero=some (.agg #[.string ⟨#[]⟩,.string ⟨#[]⟩,.bool false,.int .i64 0])/\i.size=4/\i.bytes=48:=by simpa using j
  refine(AnyE.slices_Clone Tryz.cloneLie i (.agg #[.string ⟨#[]⟩,.string ⟨#[]⟩,.bool false,.int .i64 0]) 4 48 p k l m rfl (by omega) sizeOf155 b n c.length d (UZ c) w (zkv c) (by unfold maxLen;omega) (by omega) r (zkw c)).mono ?_;rintro e g ⟨f,rfl,q,-,o⟩;exact⟨f,rfl,o,q⟩
def Wl {a:List Ly}(h:w.ownsRow B 155 4 v a.length (UZ a)):Qd w v a:=by
 rcases h.2 with ⟨rfl,h0⟩|⟨g,d,b,rfl,-,n,s,r,t,q⟩
 ·exact⟨none,0,by rw[h0],.inl h0⟩
 ·refine⟨_,d,rfl,.inr ⟨g,rfl,b,n,λj o=>?_⟩⟩;have c:∀k u,k<a.length*4->(UZ a)[k]?=some u->b[k]?=some u:=λk u p e=>by
   rw[<- q,qi,if_pos p,D4]at e;exact e
  obtain⟨f,i,l,m⟩:=znf a j o;exact⟨c _ _ (by omega) f,c _ _ (by omega) i,c _ _ (by omega) l,c _ _ (by omega) m⟩
def zce (n:Nat):madeCells #[.int .i64 0] n=((List.replicate n (0:Int)).map (Value.int .i64)).toArray:=by
 apply Array.ext
 ·simp[madeCells]
 ·intro i a b;simp[madeCells,Nat.mod_one]
def zky (O:Nat->Prop)(d A:Nat)(n:Nt)(v:Value)(b:List Ly)(w:World)(U:b.length<=1000000000)(N:De w O d A n)(h:Lss w v b):
  Calls prog 102 #[.pointer (some ⟨d,0,none⟩),v] w λr F=>r=.returned (.tuple #[])/\zl O [148] w F/\De F (qv O w F) d A ⟨b,List.replicate b.length 0,n.ai⟩:=by
 obtain⟨lv,tv,Q,R,-,-,-⟩:=N;obtain⟨a,L,e,-⟩:=id h;have t:=ze (Yd v b w U h);have u:=ze Q;have I:=ze R;have S:=run_make_row' (P:=prog) 146 3 (.int .i64 0) 8 underlying146 zko rfl .i64 .i64 b.length (by omega) (by omega);subst e;go_enter func102,ntmps102;go_wp2_with fail;refine t.o.mono ?_;rintro r f ⟨W,rfl,q,H⟩;have p:zl O [] w f:=.aa q;have k:=ze (p.keep I.o (by simp));have x:=ze H;obtain⟨i,j,rfl⟩:∃a c,W=.slice a b.length c:=by
  rcases H.2 with ⟨rfl,h0⟩|⟨g,Z,M,rfl,-⟩
  ·exact⟨none,0,by rw[h0]⟩
  ·exact⟨_,_,rfl⟩
 have V:d≠f.heap.size:=by have:=zg k.o;omega
 obtain⟨X,f1⟩:=zm k.o 1 _ rfl;have l:Hid (∀o,((f.setCell ⟨d,1,none⟩ (.slice i b.length j)).alloc o).heap[d]?=some (.cells #[BD A,.slice i b.length j,tv,.int .i64 n.ai] 148 (0,0))):=λo=>(zl.aa (O:=O) (T:=[]) (zi _ o)).keep (Aw k.o 1 (.slice i b.length j)) (by simp);have f2:∀o,((f.setCell ⟨d,1,none⟩ (.slice i b.length j)).alloc o).frozen? ⟨d,2,none⟩=false:=λo=>(zm (l.o o) 2 _ rfl).2;have Y:∀o,((f.setCell ⟨d,1,none⟩ (.slice i b.length j)).alloc o).cell? ⟨d,2,none⟩=some tv:=λo=>(zm (l.o o) 2 _ rfl).1;have y:=ze q.size;have z:Hid (∀o,zl O [148] w ((f.setCell ⟨d,1,none⟩ (.slice i b.length j)).alloc o)):=λo=>((p.mono (T':=[148]) (λ_ h=>h) (by simp)).set (.inl u.o) k.o (by simp) _).ah (zi _ o);have J:Hid (∀o,((f.setCell ⟨d,1,none⟩ (.slice i b.length j)).alloc o).ownsRow w.heap.size 155 4 (.slice i b.length j) b.length (UZ b)):=λo=>zy (zy x.o ((zl.refl (λ_=>True) [148] f).set (.inl trivial) k.o (by simp) (.slice i b.length j)) (by decide)) (zl.aa (O:=O) (T:=[]) (zi _ o)) (by simp);have K:Hid (∀o,((f.setCell ⟨d,1,none⟩ (.slice i b.length j)).alloc o).heap[f.heap.size]?=some o):=λo=>by
  have:=zf (f.setCell ⟨d,1,none⟩ (.slice i b.length j)) o;simpa[World.setCell]using this
 go_wp2
 go_end0
 have m:=l.o (.cells (madeCells #[.int .i64 0] b.length) 3);have D:=z.o (.cells (madeCells #[.int .i64 0] b.length) 3);have E:=J.o (.cells (madeCells #[.int .i64 0] b.length) 3);have s:=K.o (.cells (madeCells #[.int .i64 0] b.length) 3);generalize (f.setCell ⟨d,1,none⟩ (.slice i b.length j)).alloc (.cells (madeCells #[.int .i64 0] b.length) 3)=G at *;have C:zl (λ_=>True) [148] G (G.setCell ⟨d,2,none⟩ (.slice (some ⟨f.heap.size,0,none⟩) b.length b.length)):=(zl.refl (λ_=>True) [148] G).set (.inl trivial) m (by simp) _;have B:=zg s;refine⟨rfl,D.set (.inl u.o) m (by simp) _,_,_,.inl u.o,Aw m 2 _,Wl (zy E C (by decide)),⟨_,_,by rw[List.length_replicate],.inr ⟨f.heap.size,rfl,.inr ⟨y.o,zq B C.size⟩,?_⟩⟩,by simp⟩;rw[C.keep s (by decide),zce]
variable {A N O O' OP:Nat->Prop}{T:List Nat}{W W0:World}{c c':Cl}{cb db i nm pb pm:Nat}{d:Dk}{n':Nt}
abbrev kcT:List Nat:=Bd::Uh
structure KC (W0 w:World)(O:Nat->Prop)(pb nb:Nat)(c:Cl)(N:Nat->Prop):Prop where
 rest:∃cb pm nm A OP,J3 w pb cb/\Pv W0 w O A OP cb nb pm nm c/\(∀k,A k\/OP k\/k=cb\/k=pb->N k)
 own:∀k,N k->W0.heap.size<=k/\k<w.heap.size/\¬O k
def KC.other {M:Nat->Prop}(h:KC W0 w O pb nb c N)(f:zl M T w w')(g:∀k,N k->¬M k)(n:5∉T):KC W0 w' O pb nb c N:=by
 obtain⟨j,p,o,A,i,l,m,d⟩:=h.rest;refine⟨⟨j,p,o,A,i,f.stay l (g _ (d pb (by simp))),m.other f (λb a=>g b (d b ?_)) n,d⟩,λk e=>⟨(h.own k e).1,zq (h.own k e).2.1 f.size,(h.own k e).2.2⟩⟩;rcases a with a|a|a
 ·exact .inl a
 ·exact .inr (.inl a)
 ·exact .inr (.inr (.inl a))
def KC.grow (h:KC W0 w O pb nb c N)(f:∀k,N k->¬O' k):KC W0 w O' pb nb c N:=by
 obtain⟨i,n,m,A,g,j,l,e⟩:=h.rest;refine⟨⟨i,n,m,A,g,j,l.grow (λb a=>f b (e b ?_)),e⟩,λk d=>⟨(h.own k d).1,(h.own k d).2.1,f k d⟩⟩;rcases a with a|a|a
 ·exact .inl a
 ·exact .inr (.inl a)
 ·exact .inr (.inr (.inl a))
def KC.below (h:KC W0 w O pb nb c N)(a:zc w w'):KC W0 w' O pb nb c N:=
 h.other (M:=λ_=>False) (T:=[]) (.aa a) (λ_ _ h=>h) (by simp)
def zgu {P:(Nat->Prop)->Prop}(a:CR W w w1 O A OP cb nb db pm nm d c' n' P)(j:J3 w pb cb)(b:∀k,A k\/OP k\/k=cb\/k=pb->N k)(f:∀k,N k->W.heap.size<=k/\k<w.heap.size/\¬O k)(o:∀k,O k->k<w.heap.size)(q:W.heap.size<=w.heap.size):
  zl (λk=>O k\/N k) kcT w w1/\Sh W w1 O nb db d n'/\KC W w1 O pb nb c' (qv N w w1):=by
 obtain⟨m,g,n,i,l,-⟩:=a.rest;have r:=a.aj.size;refine⟨a.aj.mono (λk p=>?_) (λ_ h=>h),a.sh,⟨cb,pm,nm,m,g,a.aj.keep j (by decide),l,λk c=>?_⟩,λk c=>?_⟩
 ·rcases p with h|h|h|h
  ·exact .inl h
  ·exact .inr (b k (.inl h))
  ·exact .inr (b k (.inr (.inl h)))
  ·exact .inr (b k (.inr (.inr (.inl h))))
 ·rcases c with h|h|h|h
  ·rcases n.2 k h with h|h
   ·exact .inl (b k (.inl h))
   ·exact .inr ⟨h.1,by omega⟩
  ·rcases i.2 k h with h|h
   ·exact .inl (b k (.inr (.inl h)))
   ·exact .inr ⟨h.1,by omega⟩
  ·exact .inl (b k (.inr (.inr (.inl h))))
  ·exact .inl (b k (.inr (.inr (.inr h))))
 ·rcases c with h|h
  ·have:=f k h;exact⟨this.1,by omega,this.2.2⟩
  ·exact⟨by omega,h.2,λe=>by have:=o k e;omega⟩
def zgv (g:World)(O:Nat->Prop)(m:Nat)(c:zb)(a:Int)(w:World)(j:g.heap.size<=w.heap.size)(n:∀b,O b->b<w.heap.size):
  Calls prog 46 #[yu m,qy c,.int .i64 a] w λr f=>∃d,r=.returned (yu d)/\zc w f/\KC g f O d m ⟨c,0,yy [],a,[]⟩ (λk=>w.heap.size<=k/\k<f.heap.size):=by
 refine(O8 g O m c a w j n).mono ?_;rintro r f ⟨d,p,y,x,A,o,rfl,v,q,s,i,t,u⟩;refine⟨d,rfl,v,⟨p,y,x,A,o,t,u,λk l=>?_⟩,λk l=>⟨by omega,l.2,λe=>by have:=n k e;omega⟩⟩;rcases l with h|h|h|rfl
 ·have:=i k (.inl h);omega
 ·have:=i k (.inr (.inl h));omega
 ·have:=i k (.inr (.inr h));omega
 ·exact⟨q,s⟩
def Yt (h:KC W w O pb nb c N):
  Calls prog 101 #[yu pb] w λr g=>r=.returned (.tuple #[.int .i64 c.size,qy c.root])/\zl N [Bd] w g/\KC W g O pb nb c N:=by
 obtain⟨j,n,m,A,i,a,d,l⟩:=h.rest;refine(NB W O A i j nb n m c pb w d a).mono ?_;rintro r g ⟨rfl,e,p⟩;exact⟨rfl,e.mono (λb o=>l b (.inr (.inr (.inl o)))) (λ_ h=>h),⟨j,n,m,A,i,e.keep a (by decide),d.bF e p,l⟩,λk f=>⟨(h.own k f).1,zq (h.own k f).2.1 e.size,(h.own k f).2.2⟩⟩
def CL (W w:World)(P:Nat->Prop)(b e a:Nat)(d:Dk)(c:Cl)(n:Nt):Prop:=
 ∃O N,Sh W w O a b d n/\KC W w O e a c N/\∀k,P k->¬O k/\¬N k/\k<w.heap.size
def CL.below {P:Nat->Prop}{n:Nt}(h:CL W w P db pb nb d c n)(b:zc w w'):CL W w' P db pb nb d c n:=by
 obtain⟨O,N,f,g,a⟩:=h;exact⟨O,N,f.below b,g.below b,λk e=>⟨(a k e).1,(a k e).2.1,zq (a k e).2.2 b.size⟩⟩
def CL.told {P:Nat->Prop}{n:Nt}(h:CL W w P db pb nb d c n)(o:Obj):CL W (w.alloc o) (λk=>k=w.heap.size) db pb nb d c n:=by
 obtain⟨O,N,a,b,-⟩:=h;refine⟨O,N,a.below (zi _ _),b.below (zi _ _),λk e=>?_⟩;subst e;exact⟨λh=>by have:=(a.own _ h).2;omega,λh=>by have:=(b.own _ h).2.1;omega,by simp⟩
def CL.past {P:Nat->Prop}{n:Nt}(h:CL W w P db pb nb d c n)(e:zl P T w w')(q:∀k,P k->W.heap.size<=k)(i:144∉T)(j:125∉T)(l:148∉T)(m:155∉T)(o:3∉T)(p:5∉T):CL W w' P db pb nb d c n:=by
 obtain⟨O,N,f,g,b⟩:=h;exact⟨O,N,f.past e q i j l m o,g.other e (λk a r=>(b k r).2.1 a) p,λk a=>⟨(b k a).1,(b k a).2.1,zq (b k a).2.2 e.size⟩⟩
def Qr {P:Nat->Prop}{n:Nt}(h:CL W w P db pb nb d c n):
  Calls prog 101 #[yu pb] w λr g=>r=.returned (.tuple #[.int .i64 c.size,qy c.root])/\zl (λk=>W.heap.size<=k) kcT w g/\CL W g P db pb nb d c n:=by
 obtain⟨O,N,i,b,e⟩:=h;refine(Yt b).mono ?_;rintro r g ⟨rfl,f,a⟩;exact⟨rfl,f.mono (λk a=>(b.own k a).1) (by decide),O,N,i.past f (λk a=>(b.own k a).1) (by decide) (by decide) (by decide) (by decide) (by decide),a,λk a=>⟨(e k a).1,(e k a).2.1,zq (e k a).2.2 f.size⟩⟩
def XZ {P:Nat->Prop}{n:Nt}(h:CL W w P db pb nb d c n){ls:List Ly}(hv:Lss w v ls)(A:ls.length<=1)(q:∀l∈ls,l.data.length<=1048576/\l.aH=false/\l.times=0):
  Calls prog 102 #[.pointer (some ⟨nb,0,none⟩),v] w λr s=>r=.returned (.tuple #[])/\zl (λk=>W.heap.size<=k) kcT w s/\∃p,p.ao=ls/\p.ai=n.ai/\CL W s P db pb nb d c p:=by
 obtain⟨O,N,g,o,u⟩:=h;refine(zky O nb db n v ls w (by omega) g.al hv).mono ?_;rintro r z ⟨rfl,j,x⟩;have y:=g.base.size;have m:=j.size;refine⟨rfl,j.mono (λk f=>(g.own k f).1) (by decide),⟨ls,List.replicate ls.length 0,n.ai⟩,rfl,rfl,qv O w z,N,⟨g.base.trans (j.below (λk f=>(g.own k f).1) y),λk f=>?_,(g.aG.stay j (by decide) (by decide)).mono (λ_ h=>.inl h),x,⟨g.st.nf,g.st.fl,λl i=>?_,?_,g.st.fe,λt m=>?_⟩⟩,(o.other j (λk f e=>(o.own k f).2.2 e) (by decide)).grow (λk f e=>?_),λk f=>?_⟩
 ·rcases f with f|f
  ·have:=g.own k f;omega
  ·omega
 ·exact⟨by have:=(q l i).1;omega,(q l i).2⟩
 ·show ls.length<=_;omega
 ·obtain rfl:=(List.mem_replicate.1 m).2;exact⟨Qc _,g.st.fe⟩
 ·have:=o.own k f;rcases e with e|e
  ·exact this.2.2 e
  ·omega
 ·obtain⟨a,b,c⟩:=u k f;exact⟨λe=>by rcases e with e|e<;>first|exact a e|omega,b,by omega⟩
def V3 {P:Nat->Prop}{n:Nt}{Q:(Nat->Prop)->Prop}(i:CR W w w1 O A OP cb nb db pm nm d c' n' Q)(j:J3 w pb cb)(r:∀k,A k\/OP k\/k=cb\/k=pb->N k)(g:∀k,N k->W.heap.size<=k/\k<w.heap.size/\¬O k)(l:Sh W w O nb db d n)(q:∀k,P k->¬O k/\¬N k/\k<w.heap.size):
  zl (λk=>W.heap.size<=k) kcT w w1/\CL W w1 P db pb nb d c' n':=by
 obtain⟨m,o,p⟩:=zgu i j r g (λk f=>(l.own k f).2) l.base.size;refine⟨m.mono (λk f=>?_) (λ_ h=>h),O,_,o,p,λk f=>?_⟩
 ·rcases f with f|f
  ·exact(l.own k f).1
  ·exact(g k f).1
 ·obtain⟨a,b,c⟩:=q k f;exact⟨a,λe=>by rcases e with e|e<;>first|exact b e|omega,zq c m.size⟩
def Od (b:Nat->Addr)(F:DW W)(H:vj W b)(l:F0 W){P:Nat->Prop}{v:za}{n:Nt}{t:Nat}(h:CL W w P db pb nb d c n)(a:CI v c t)(R:t<=9)(Q:v.length<=100)(M:n.ai<=100000)(I:c.key.length<=1048576)(m:(qr d.fs n J9).1.1.length<=1048576)(p:Ve c d n):
  Calls prog 48 #[yu pb] w λr i=>∃q x,K8 c.key (qr d.fs n J9).1 q/\∀o j u,IQ (qr d.fs) EM c (qr d.fs n J9).2 q=(o,j,u)->r=.returned (.tuple #[x,GA (IP o).2])/\i.ownsRow w.heap.size 9 1 x (IP o).1.length ((IP o).1.map AL)/\zl (λk=>W.heap.size<=k) kcT w i/\CL W i P db pb nb d j u:=by
 obtain⟨O,N,z,y,E⟩:=h;obtain⟨D,L,K,A,C,g,s,G⟩:=y.rest;refine(Pp W b O A C D nb db L K d c n pb w F H l s z g (by omega) (by have:=a.le;omega) (by omega) m (by have:=a.len;omega) a.gd.wf p).mono ?_;rintro r i ⟨q,J,f,x,rfl,B⟩;refine⟨q,x,J,λo j u e=>?_⟩;rw[e]at f B ⊢;exact⟨rfl,B,V3 f g G y.own z E⟩
def zj6 (f:Nat->Addr)(J:DW W)(L:vj W f)(o:F0 W){P:Nat->Prop}{b:za}{n:Nt}{t:Nat}(h:CL W w P db pb nb d c n)(g:CI b c t)(T:t<=9)(B:b.length<=100)(v:∀e∈b,e.length<=20)(S:n.ai<=100000)(C:n.ao=[])(a:Bb d.fs b c.size)(z:i<c.size):
  Calls prog 100 #[yu pb,.int .i64 i] w λr l=>∃u x,r=.returned (.tuple #[qy (b.getD i []),.bool u,x,GA (0,[])])/\l.ownsRow w.heap.size 9 1 x (Ey b c.size i).length ((Ey b c.size i).map AL)/\zl (λk=>W.heap.size<=k) kcT w l/\∃m s,CL W l P db pb nb d m s:=by
 obtain⟨O,N,D,y,I⟩:=h;obtain⟨F,R,Q,A,E,j,q,K⟩:=y.rest;obtain⟨m,s,e,-⟩:=zeg a C v (qw B (by decide)) g z;refine(Rm W f O A E F nb db R Q d c n i pb w J L o q D j (by omega) g (by omega) v (qw B (by decide)) a C z e).mono ?_;rintro r l ⟨p,u,x,rfl,-,M⟩;obtain⟨G,H⟩:=V3 p j K y.own D I;exact⟨u,x,rfl,M,G,m,s,H⟩
end Go.Proofs.YtfdbeldiomkdiaaGreatDoor
