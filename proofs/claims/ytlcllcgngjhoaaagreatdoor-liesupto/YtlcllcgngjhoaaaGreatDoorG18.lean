import Derived.Test.YtlcllcgngjhoaaaGreatDoorG17
set_option maxHeartbeats 8000000
set_option maxRecDepth 100000
set_option linter.all false
namespace Go.Proofs.YtlcllcgngjhoaaaGreatDoor
open Go.RowKit Go.Proofs.Tryz
variable {W:World}{nb:Nat}
theorem yd5 {fs:Fs}{L:List Ly}{a:Nat}(E:LkC W nb fs L a)(g:Nat)(hq:W.heap.size≤g)(f:Option Nat)(l j:Nat)(n:2*j+1 < qg (l:Int) a)(c:za)(s:c.length≤999990)(w:World)(A:Below W.heap.size W w)(h:vy w g f nb a c):
  Calls prog 93 #[yx g,.int .i64 ((2*4 ^ l:Nat):Int),.int .i64 j] w fun r N=>r= .returned (qo (jx (zfk (qt (qc fs L)) (zv a (l:Int) (2*j)) (2*j % 4)) (zfk (qt (qc fs L)) (zv a (l:Int) (2*j+1)) ((2*j+1) % 4)))) ∧
   Lkd w N g f nb a (c++zcj (qt (qc fs L)) [(zv a (l:Int) (2*j),2*j % 4)]++zcj (qt (qc fs L)) [(zv a (l:Int) (2*j+1),(2*j+1) % 4)]):=by
 have HC:=zf E;have R:=zf h;have S:=zf A;have Q:=zf n;have J:qg (l:Int) a=a / 4 ^ l:=by unfold qg;simp
 have ai:=E.sz;have h4:2*4 ^ l≤a:=by
  rw [J] at n;have h0:0 < 4 ^ l:=jp (by omega);have:2≤a / 4 ^ l:=by omega
  exact(zbu h0).1 this
 have ah:l < 4 ^ l:=Nat.lt_pow_self (by omega);have ag:2*j+1 < 9223372036854775808:=by
  rw [J] at n;have af:a / 4 ^ l≤a:=zec _ _;omega
 have HU:Hid (∀ k,k < l→4*4 ^ k≤4 ^ l):=fun k q=>ymv (zm _) q;have HP:Hid (∀ k,k≤l→4 ^ k≤4 ^ l):=fun k q=>js (by omega) q;have H:Hid (∀ p k,(zcj (qt (qc fs L)) [(p,k)]).length≤1):=fun p k=>by rw [ziw];split<;>simp
 have O:Hid (∀ p k,k < 4→(zfk (qt (qc fs L)) p k).length≤8):=fun p k q=>yho _ _ _ q;have v:Hid (∀(j:Nat) (n:j < qg (l:Int) a) (f:Option Nat) (c:za) (s:c.length≤1000000) (w:World) (A:Below W.heap.size W w) (h:vy w g f nb a c),Calls prog 93 #[.pointer (some ⟨g,0,none⟩),.int .i64 ((4 ^ l:Nat):Int),.int .i64 j] w fun r N=>r= .returned (qo (zfk (qt (qc fs L)) (zv a (l:Int) j) (j % 4)))∧Lkd w N g f nb a (c++zcj (qt (qc fs L)) [(zv a (l:Int) j,j % 4)])):=fun j n f c s w A h=>zzx E g f l j n c s w A h;clear h A n E J;generalize m:4 ^ l=U at *;have ae:1≤U:=by rw [← m];exact Nat.one_le_pow _ _ (by omega)
 have I:=zf m;clear m;unfold yx qo;go_enter func93,ntmps93;go_wp2_with fail
 go_loop [7,8] (fun t p=>∃ k P:Nat,k≤l∧P=4 ^ k∧t= .int .i64 k∧p= .int .i64 P) (fun t _=>l - (intOf t).toNat)
 case atStart=>exact⟨0,1,by omega,rfl,rfl,rfl⟩
 case round =>
  obtain⟨k,P,q,e,rfl,rfl⟩:=hrel;have i:=zf e;have ab:1≤P:=by rw [e];exact Nat.one_le_pow _ _ (by omega)
  have ad:P≤U:=by rw [e];exact HP.o k q
  clear e
  by_cases K:k < l
  ·have aa:4*P≤U:=by rw [i.o];exact HU.o k K
   go_wp2_with fail
   go_round
   case rel=>exact⟨k+1,4*P,by omega,by rw [i.o,qy];omega,by go_num,by go_num⟩
   case measure=>simp [intOf];omega
  ·obtain rfl:k=l:=by omega
   obtain rfl:P=U:=by rw [i.o];exact I.o
   go_wp2_with fail;refine(v.o (2*j) (by have:=Q.o;omega) f c (by omega) w S.o R.o).mono ?_;rintro r w1 ⟨rfl,C⟩;have u:=zf (C.below R.o S.o hq);obtain⟨t1,M,X,Z⟩:=C;have b:=zf (And.intro t1 (And.intro X Z));clear t1 X Z;unfold qo;go_wp2_with fail;refine(v.o (2*j+1) Q.o M _ (by have:=H.o (zv a (k:Int) (2*j)) (2*j % 4);rw [zy];omega) w1 u.o b.o.2.1).mono ?_;rintro r w2 ⟨rfl,D⟩;have G:=zf (Lkd.next b.o.1 b.o.2.1 b.o.2.2 D);obtain⟨t2,aj,Y,m2⟩:=G.o;have d:=zf (And.intro t2 (And.intro Y m2));have HA:=zf (O.o (zv a (k:Int) (2*j)) (2*j % 4) (by omega));have HB:=zf (O.o (zv a (k:Int) (2*j+1)) ((2*j+1) % 4) (by omega));clear D t2 Y m2 b;unfold qo;generalize T:zfk (qt (qc fs L)) (zv a (k:Int) (2*j)) (2*j % 4)=x at *;generalize V:zfk (qt (qc fs L)) (zv a (k:Int) (2*j+1)) ((2*j+1) % 4)=y at *;have z:=zf (And.intro T V);clear T V;go_wp2_with fail;refine(zgh x y w2 HA.o HB.o).mono ?_;rintro r w3 ⟨rfl,B⟩;have F:=zf B;clear B;unfold txt;go_wp2_with fail;go_ret;exact⟨by rw [z.o.1,z.o.2];rfl,Lkd.next d.o.1 d.o.2.1 d.o.2.2 (d.o.2.1.same F.o)⟩
theorem yd4 {fs:Fs}{L:List Ly}{a:Nat}(k:LkC W nb fs L a)(b:Nat)(z:W.heap.size≤b)(f:Option Nat)(q j:Nat)(c:(j+1)*2 ^ q≤a)(d:za)(n:d.length≤999990)(w:World)(o:Below W.heap.size W w)(h:vy w b f nb a d):
  Calls prog 93 #[yx b,.int .i64 ((2 ^ q:Nat):Int),.int .i64 j] w fun r B=>r= .returned (qo (zbf (zfk (qt (qc fs L))) a 64 (j*2 ^ q) (2 ^ q)))∧Lkd w B b f nb a (d++zcj (qt (qc fs L)) (xr a 64 (j*2 ^ q) (2 ^ q))):=by
 have A:=k.sz;have m:2 ^ q < 2 ^ 63:=by
  have:1*2 ^ q≤(j+1)*2 ^ q:=zd1 _ (by omega);omega
 have s:q < 63:=(zat (by omega:1 < 2)).1 m;have p:∀ l:Nat,qg (l:Int) a=a / 4 ^ l:=fun l=>by unfold qg;simp
 rcases zc9 q with y | y
 ·obtain⟨l,rfl⟩:∃ l,q=2*l:=⟨q / 2,by omega⟩;rw [← zbm] at c ⊢;obtain⟨g,i⟩:=zmj (zfk (qt (qc fs L))) a l j (by omega);rw [g,i];exact zzx k b f l j (by rw [p];exact(zbu (jp (by omega))).2 c) d (by omega) w o h
 ·obtain⟨l,rfl⟩:∃ l,q=2*l+1:=⟨q / 2,by omega⟩;have e:2 ^ (2*l+1)=2*4 ^ l:=by rw [qy,← zbm];omega
  rw [e] at c ⊢;obtain⟨g,i⟩:=z4a (zfk (qt (qc fs L))) a l j (by omega);obtain⟨t,u⟩:=zmj (zfk (qt (qc fs L))) a l (2*j) (by omega);obtain⟨v,x⟩:=zmj (zfk (qt (qc fs L))) a l (2*j+1) (by omega);rw [g,i,t,u,v,x,zka,← xt];refine yd5 k b z f l j ?_ d n w o h;rw [p];have h0:0 < 4 ^ l:=jp (by omega);refine(zbu h0).2 ?_;rw [← zft,show(j+1)*2=2*j+1+1 by omega] at c;exact c
def zeg (fs:Fs)(L:List Ly)(f b c a n:Nat)(d:Option Nat)(e:za)(w:World):Prop :=
 Calls prog 62 #[.pointer (some ⟨c,0,none⟩),.int .i64 a,.int .i64 n] w fun r g=>r= .returned (qo (zbf (zfk (qt (qc fs L))) b 64 a n))∧Lkd w g c d f b (e++zcj (qt (qc fs L)) (xr b 64 a n))
theorem zz1 {fs:Fs}{L:List Ly}{b:Nat}(x:LkC W nb fs L b)(f:Nat)(H:W.heap.size≤f)(p:Option Nat)(a n q:Nat)(e:n=2 ^ q)(g:Al a n)(M:a+n≤b)(l:za)(y:l.length≤999990)(w:World)(A:Below W.heap.size W w)(h:vy w f p nb b l):zeg fs L nb b f a n p l w:=by
 have I:=x.sz;have m:a / n*n=a:=by subst e;exact z6i g
 have G:1≤n:=by rw [e];exact zgw
 have E:Hid (Calls prog 93 #[.pointer (some ⟨f,0,none⟩),.int .i64 (n:Int),.int .i64 ((a / n:Nat):Int)] w fun r J=>r= .returned (qo (zbf (zfk (qt (qc fs L))) b 64 a n))∧Lkd w J f p nb b (l++zcj (qt (qc fs L)) (xr b 64 a n))):=by
  show Calls _ _ _ _ _;have:=yd4 x f H p q (a / n) (by rw [← e,zdg,m];omega) l y w A h;rw [← e,m] at this;exact this
 have B:a % n=0:=by
  have:=Nat.div_add_mod a n;rw [zsm,m] at this;omega
 have u:Hid (∀ k j:Nat,k=2 ^ j→k≤n→k=n∨2*k≤n):=fun k j c d=>by
  subst c e;have F:=(zcr (by omega:1 < 2)).1 d;rcases Nat.eq_or_lt_of_le F with h | h
  ·exact .inl (by rw [h])
  ·exact .inr (by rw [← Nat.pow_succ'];exact js (by omega) h)
 have v:Hid (wrap64 ((a:Int) / (n:Int))=((a / n:Nat):Int)):=by
  show _=_;have:a / n≤a:=zec _ _;rw [← Int.natCast_ediv];generalize a / n=z at this;unfold wrap64;omega
 unfold zeg;clear e g h A x m;go_enter func62,ntmps62;go_wp2_with fail
 go_loop [7] (fun t=>∃ j k:Nat,k=2 ^ j∧k≤n∧t= .int .i64 k) (fun t=>n - (intOf t).toNat)
 case atStart=>exact⟨0,1,rfl,by omega,rfl⟩
 case round =>
  obtain⟨j,k,c,d,rfl⟩:=hrel;have C:1≤k:=by rw [c];exact zgw
  have D:=zf c;rcases u.o k j c d with rfl | K
  ·clear c;go_wp2_with fail;rw [v.o];refine E.o.mono ?_;rintro r N ⟨rfl,i⟩;have s:=zf i;clear i;unfold qo;go_wp2_with fail;go_ret;exact⟨rfl,s.o⟩
  ·clear c;go_wp2_with fail
   go_round
   case rel=>exact⟨j+1,2*k,by rw [D.o,qy];omega,by omega,by go_num⟩
   case measure=>simp [intOf];omega
theorem z5d {fs:Fs}{L:List Ly}{b:Nat}(p:Nat)(hq:W.heap.size≤p)(J:Option Nat)(a n:Nat)(m:2≤n)(I:∀ q,n≠2 ^ q)(hj:a+n≤b)(ad:b < 9223372036854775808)(D:za)(w:World)(S:Below W.heap.size W w)(h:vy w p J nb b D)
 (Q:zeg fs L nb b p a (yo n) J D w) (R:∀ f E,Below W.heap.size W E→vy E p f nb b (D++zcj (qt (qc fs L)) (xr b 64 a (yo n)))→zeg fs L nb b p (a+yo n) (n - yo n) f (D++zcj (qt (qc fs L)) (xr b 64 a (yo n))) E):zeg fs L nb b p a n J D w:=by
 obtain⟨k5,k6,k3⟩:=vz n m;have N:=zf (zq6 (zfk (qt (qc fs L))) b a n m (by omega) (fun l hl=>I (2*l) (by rw [hl,zbm])));have Z:=zf (zu1 (qc fs L) b 64 a (yo n));have HB:=zf (zu1 (qc fs L) b 64 (a+yo n) (n - yo n));have HW:=zf S;have HL:=zf h;have g:=zf Q;have i:=zf R;have H:Hid (∀ k j:Nat,k=2 ^ j→k≠n):=fun k j v e=>I j (by omega);unfold zeg at g i ⊢;generalize B:yo n=K at *;have G:=zf B;have O:(n:Int) - (K:Int)=((n - K:Nat):Int):=by omega
 have P:(a:Int)+(K:Int)=((a+K:Nat):Int):=by omega
 have M:=zf (And.intro O P);clear Q R h S I B O P;go_enter func62,ntmps62;go_wp2_with fail
 go_loop [7] (fun t=>∃ j k:Nat,k=2 ^ j∧k≤n∧t= .int .i64 k) (fun t=>n - (intOf t).toNat)
 case atStart=>exact⟨0,1,rfl,by omega,rfl⟩
 case round =>
  obtain⟨j,k,v,aa,rfl⟩:=hrel;have T:1≤k:=by rw [v];exact zgw
  have ab:=H.o k j v;have HK:=zf v;clear v
  by_cases hc:2*k≤n
  ·go_wp2_with fail
   go_round
   case rel=>exact⟨j+1,2*k,by rw [HK.o,qy];omega,by omega,by go_num⟩
   case measure=>simp [intOf];omega
  ·go_wp2_with fail;refine(zee n w m (by omega)).mono ?_;rintro r w0 ⟨rfl,C⟩;rw [C,G.o];clear C w0;go_wp2_with fail;refine g.o.mono ?_;rintro r E ⟨rfl,z⟩;have s:=zf (z.below HL.o HW.o hq);obtain⟨t1,f,U,X⟩:=z;have c:=zf (And.intro t1 (And.intro U X));clear t1 U X g;unfold qo;go_wp2_with fail
   first
    | rw [M.o.1,M.o.2]
    | skip
   refine(i.o f E s.o c.o.2.1).mono ?_;rintro r w2 ⟨rfl,A⟩;obtain⟨t2,ae,V,Y⟩:=Lkd.next c.o.1 c.o.2.1 c.o.2.2 A;have d:=zf (And.intro t2 (And.intro V Y));clear A t2 V Y c i;unfold qo;generalize hx:zbf (zfk (qt (qc fs L))) b 64 a K=x at *;generalize hy:zbf (zfk (qt (qc fs L))) b 64 (a+K) (n - K)=y at *;go_wp2_with fail;refine(zgh x y w2 Z.o HB.o).mono ?_;rintro r w3 ⟨rfl,u⟩;have F:=zf u;clear u;unfold txt;go_wp2_with fail;go_ret;refine⟨by rw [N.o.1];rfl,?_⟩;rw [N.o.2,zka,← xt];exact Lkd.next d.o.1 d.o.2.1 d.o.2.2 (d.o.2.1.same F.o)
theorem zmm {fs:Fs}{L:List Ly}{b:Nat}(p:LkC W nb fs L b)(j:Nat)(s:W.heap.size≤j):∀(f a n:Nat) (e:Option Nat) (d:za) (w:World),1≤n→n≤2 ^ f→a+n≤b→Al a n→d.length+2*(f+1)≤999990→Below W.heap.size W w→vy w j e nb b d→zeg fs L nb b j a n e d w:=by
 have t:=p.sz;intro f
 induction f with
 | zero =>
  intro a n e d w A v o i B k l;exact zz1 p j s e a n 0 (by omega) i o d (by omega) w k l
 | succ f x =>
  intro a n e d w A v o i B k l
  by_cases r:∃ q,n=2 ^ q
  ·obtain⟨q,g⟩:=r;exact zz1 p j s e a n q g i o d (by omega) w k l
  ·have c:2≤n:=by
    rcases qu n 2 with h | h
    ·exact absurd ⟨0,by omega⟩ r
    ·exact h
   obtain⟨C,D,E,F,G,J⟩:=zaw n f c v;refine z5d j s e a n c (fun q h=>r ⟨q,h⟩) o t d w k l (x a (yo n) e d w E C (by omega) (i.left c) (by omega) k l) fun u H y z=>x (a+yo n) (n - yo n) u _ H F D (by omega) (i.right c) ?_ y z;have I:(zcj (qt (qc fs L)) (xr b 64 a (yo n))).length≤2:=by
    refine zu (zs5 _ _) ?_;have m:=i.left c;obtain⟨q,g⟩:=zpt n;rw [g] at m G ⊢;have:=yat b q (a / 2 ^ q) ((zat (by omega:1 < 2)).1 (by omega))
    rwa [z6i m] at this
   rw [zy];omega
variable {ls ls' ms ms1 ms2:za}{qb:Nat}{w w' w1 w2 w3:World}{x x':Value}
def LkX (w c:World)(f:Nat)(e:Option Nat)(i b:Nat)(h:za)(x:Value)(d:za):Prop :=
 zq (fun g=>g=f∨e=some g) TLk w c∧c.ownsRow w.heap.size 9 1 x d.length (d.map qo) ∧
  ∃ a,vy c f a i b h∧(∀ g,a=some g→e=some g∨w.heap.size≤g)∧∀ g,x.ownBlock=some g→a≠some g
theorem vy.lkx {a:Nat}{b:Option Nat}(h:vy w qb b nb a ms)(c:Below w.heap.size w w'):LkX w w' qb b nb a ms (.slice none 0 0) [] :=
 ⟨.of_below c,⟨rfl,.inl ⟨rfl,rfl⟩⟩,b,h.below c,fun _ h=> .inl h,fun g d=>by simp [Value.ownBlock] at d⟩
theorem LkX.one {a:Nat}{d:Option Nat}(h:Lkd w w1 qb d nb a ms1)(t:zc):LkX w (w1.alloc (.cells #[qo t] 9)) qb d nb a ms1 (.slice (some ⟨w1.heap.size,0,none⟩) 1 1) [t]:=by
 obtain⟨t1,b,c,f⟩:=h;refine⟨t1.alloc _,?_,b,c.below (zk _ _),f,fun g e h=>?_⟩
 ·exact⟨by simp,.inr ⟨w1.heap.size,1,#[qo t],rfl,t1.size,zg _ _,by simp,by unfold maxLen;simp,by simp,by simp⟩⟩
 ·simp only [Value.ownBlock,zr] at e;have:=(c.lt.2 g h).2;omega
theorem LkX.push {a:Nat}{i c:Option Nat}(h0:vy w qb i nb a ms)(t1:zq (fun g=>g=qb∨i=some g) TLk w w1)(q:w1.ownsRow w.heap.size 9 1 x ls.length (ls.map qo))(o:vy w1 qb c nb a ms1)(m:∀ g,c=some g→i=some g∨w.heap.size≤g)(d1:∀ g,x.ownBlock=some g→c≠some g)
 (k:Lkd w1 w2 qb c nb a ms2) (t3:zq (fun g=>x.ownBlock=some g) [9] w2 w3) (r:w3.ownsRow w.heap.size 9 1 x' ls'.length (ls'.map qo)) (p:∀ g,x'.ownBlock=some g→x.ownBlock=some g∨w2.heap.size≤g):LkX w w3 qb i nb a ms2 x' ls':=by
 have t12:=(Lkd.next t1 o m k).1;obtain⟨t2,e,j,n⟩:=k;have f:=fun g b=>q.lt g b;have s:=h0.lt.1;have l:∀ g,e=some g→¬ x.ownBlock=some g:=fun g b d=>by
  rcases n g b with h | h
  ·exact d1 g d h
  ·have:=(f g d).2;omega
 refine⟨t12.trans (t3.mono (fun g b=> .inr ⟨(f g b).1,zx (f g b).2 t2.size⟩) (by simp)),r,e,j.stay t3 (fun d=>by have:=(f _ d).1;omega) l,fun g b=>?_,fun g b d=>?_⟩
 ·rcases n g b with h | h
  ·exact m g h
  ·exact .inr (zu t1.size h)
 ·rcases p g b with h | h
  ·exact l g d h
  ·have:=(j.lt.2 g d).2;omega
theorem zmh (say:Say)(b:Nat)(c:List (Nat×Nat))(a n:Nat):zct say b (c++[(a,n)])=zct say b c++[zbf (zfk (qt say)) b 64 a n]:=by simp [zct]
theorem zmg (say:Say)(b:Nat)(c:List (Nat×Nat))(a n:Nat):zdv say b (c++[(a,n)])=zdv say b c++zcj (qt say) (xr b 64 a n):=by
 unfold zdv;rw [zim,zka];simp
theorem zoz (say:Say)(a:Nat)(f:a < 2 ^ 63):∀ b:List (Nat×Nat),(∀ s∈b,Al s.1 s.2∧1≤s.2∧s.2≤a)→(zdv say a b).length≤130*b.length
 | [],_=>by simp [zdv,zcj]
 | s::b,h=>by
  have j:=zoz say a f b (fun x g=>h x (zc0 _ g));obtain⟨c,d,i⟩:=h s zdo;have e:zdv say a (s::b)=zcj (qt say) (xr a 64 s.1 s.2)++zdv say a b:=by
   unfold zdv;rw [zd9,zka]
  have:=zu (zs5 (qt say) (xr a 64 s.1 s.2)) (yej a 63 s.1 s.2 (by omega) d (by omega) c);rw [e,zy,y9];omega
def zi9 (fs:Fs)(L:List Ly)(g b c f a n i:Nat)(d:Option Nat)(e:za)(w:World):Prop :=
 Calls prog 28 #[.pointer (some ⟨c,0,none⟩),.int .i64 ((i - a:Nat):Int),.int .i64 a,.int .i64 n] w fun r h=>∃ x,r= .returned x∧LkX w h c d g b (e++zdv (qc fs L) b (qz f a n i)) x (zct (qc fs L) b (qz f a n i))
theorem zw9 (fs:Fs)(L:List Ly)(e b g f a i:Nat)(c:Option Nat)(d:za)(w:World)(h:vy w g c e b d):zi9 fs L e b g f a 1 i c d w:=by
 have j:=zf h;unfold zi9;rw [zkl f a 1 i (by omega),show zdv (qc fs L) b []=[] from rfl,show zct (qc fs L) b []=[] from rfl,za3];clear h;go_enter func28,ntmps28;go_wp2_with fail;go_ret;exact⟨_,rfl,j.o.lkx (yf _ _)⟩
theorem z48 {fs:Fs}{L:List Ly}{b:Nat}(t f a n i:Nat)(hq:W.heap.size≤t)(M:Option Nat)(A:za)(w:World)(s:2≤n)(ad:b < 9223372036854775808)(hj:a+n≤b)(aa:a≤i)(X:i < a+yo n)(U:Below W.heap.size W w)(h:vy w t M nb b A)(hf:f≤64)
 (S:zi9 fs L nb b t f a (yo n) i M A w) (T:∀ j u,Below W.heap.size W u→vy u t j nb b (A++zdv (qc fs L) b (qz f a (yo n) i))→zeg fs L nb b t (a+yo n) (n - yo n) j (A++zdv (qc fs L) b (qz f a (yo n) i)) u):zi9 fs L nb b t (f+1) a n i M A w:=by
 obtain⟨k5,k6,k3⟩:=vz n s;have P:Hid (zdv (qc fs L) b (qz (f+1) a n i)=zdv (qc fs L) b (qz f a (yo n) i)++zcj (qt (qc fs L)) (xr b 64 (a+yo n) (n - yo n))∧zct (qc fs L) b (qz (f+1) a n i)=zct (qc fs L) b (qz f a (yo n) i)++[zbf (zfk (qt (qc fs L))) b 64 (a+yo n) (n - yo n)]):=by
  rw [ziy f a n i s X];exact⟨zmg _ _ _ _ _,zmh _ _ _ _ _⟩
 have Z:Hid ((zct (qc fs L) b (qz f a (yo n) i)).length≤1000000000):=by
  show _≤_;unfold zct;rw [yi];have:=zcx f a (yo n) i;omega
 have HW:=zf U;have D:=zf h;have p:=zf S;have q:=zf T;unfold zi9 at p ⊢;unfold zeg at q;generalize x:yo n=K at *;have C:=zf x;have Q:(n:Int) - (K:Int)=((n - K:Nat):Int):=by omega
 have R:(a:Int)+(K:Int)=((a+K:Nat):Int):=by omega
 have O:=zf (And.intro Q R);have ab:i - a < K:=by omega
 clear S T h U x Q R X;generalize i - a=I at *;go_enter func28,ntmps28;go_wp2_with fail;refine(zee n w s (by omega)).mono ?_;rintro r w0 ⟨rfl,z⟩;rw [z,C.o];clear z w0;go_wp2_with fail;refine p.o.mono ?_;rintro r u ⟨x1,rfl,t1,N,j,H,J,d1⟩;have v:Hid (Below W.heap.size W u):=Lkd.below ⟨t1,j,H,J⟩ D.o HW.o hq;have c:=zf (And.intro t1 (And.intro H (And.intro J d1)));obtain⟨xa,xc,rfl⟩:=qr N;have m:=zf N;clear t1 H J d1 p N;go_wp2_with fail
 first
  | rw [O.o.1,O.o.2]
  | skip
 refine(q.o j u v.o c.o.2.1).mono ?_;rintro r Y ⟨rfl,k⟩;have B:=zf k;have E:=zf (zdq m.o k.1 (fun g V G=>by
  have:=(m.o.lt g V).1;have:=D.o.lt.1;rcases G with rfl | G
  ·omega
  ·exact c.o.2.2.2 g V G))
 have F:Hid (w.heap.size≤Y.heap.size):=zu c.o.1.size k.1.size;clear k q;unfold qo;generalize zbf (zfk (qt (qc fs L))) b 64 (a+K) (n - K)=y at *;go_wp2_with (at_builtin;refine zg2 Y rfl _ _ rfl w.heap.size F.o (.slice xa (zct (qc fs L) b (qz f a K i)).length xc) (zct (qc fs L) b (qz f a K i)) rfl E.o y _ rfl rfl Z.o ?_;intro v' w5 e l d;have HX:=zf (LkX.push D.o c.o.1 m.o c.o.2.1 c.o.2.2.1 c.o.2.2.2 B.o l e d);clear e l d);go_ret;refine⟨_,rfl,?_⟩;rw [P.o.1,P.o.2,← xt];exact HX.o
theorem z1p {fs:Fs}{L:List Ly}{b:Nat}(t f a n i:Nat)(hq:W.heap.size≤t)(P:Option Nat)(A:za)(w:World)(s:2≤n)(ad:b < 9223372036854775808)(hj:a+n≤b)(hi:¬ i < a+yo n)(M:i < a+n)(Y:Below W.heap.size W w)(h:vy w t P nb b A)(hf:f≤64)
 (V:zi9 fs L nb b t f (a+yo n) (n - yo n) i P A w) (X:∀ j u,Below W.heap.size W u→vy u t j nb b (A++zdv (qc fs L) b (qz f (a+yo n) (n - yo n) i))→zeg fs L nb b t a (yo n) j (A++zdv (qc fs L) b (qz f (a+yo n) (n - yo n) i)) u):zi9 fs L nb b t (f+1) a n i P A w:=by
 obtain⟨k5,k6,k3⟩:=vz n s;have R:Hid (zdv (qc fs L) b (qz (f+1) a n i)=zdv (qc fs L) b (qz f (a+yo n) (n - yo n) i)++zcj (qt (qc fs L)) (xr b 64 a (yo n))∧zct (qc fs L) b (qz (f+1) a n i)=zct (qc fs L) b (qz f (a+yo n) (n - yo n) i)++[zbf (zfk (qt (qc fs L))) b 64 a (yo n)]):=by
  rw [zht f a n i s hi];exact⟨zmg _ _ _ _ _,zmh _ _ _ _ _⟩
 have HC:Hid ((zct (qc fs L) b (qz f (a+yo n) (n - yo n) i)).length≤1000000000):=by
  show _≤_;unfold zct;rw [yi];have:=zcx f (a+yo n) (n - yo n) i;omega
 have HW:=zf Y;have E:=zf h;have p:=zf V;have q:=zf X;unfold zi9 at p ⊢;unfold zeg at q;generalize x:yo n=K at *;have D:=zf x;have S:(n:Int) - (K:Int)=((n - K:Nat):Int):=by omega
 have T:(a:Int)+(K:Int)=((a+K:Nat):Int):=by omega
 have U:((i - a:Nat):Int) - (K:Int)=((i - (a+K):Nat):Int):=by omega
 have aa:¬ i - a < K:=by omega
 have ab:i - a < 9223372036854775808:=by omega
 have B:=zf (And.intro S (And.intro T U));clear V X h Y x S T U hi M;generalize i - a=I at *;generalize i - (a+K)=J at *;go_enter func28,ntmps28;go_wp2_with fail;refine(zee n w s (by omega)).mono ?_;rintro r w0 ⟨rfl,z⟩;rw [z,D.o];clear z w0;go_wp2_with fail;rw [B.o.1,B.o.2.1,B.o.2.2];refine p.o.mono ?_;rintro r u ⟨x1,rfl,t1,Q,j,N,O,d1⟩;have v:Hid (Below W.heap.size W u):=Lkd.below ⟨t1,j,N,O⟩ E.o HW.o hq;have c:=zf (And.intro t1 (And.intro N (And.intro O d1)));obtain⟨xa,xc,rfl⟩:=qr Q;have m:=zf Q;clear t1 N O d1 p Q;go_wp2_with fail;refine(q.o j u v.o c.o.2.1).mono ?_;rintro r w2 ⟨rfl,k⟩;have C:=zf k;have F:=zf (zdq m.o k.1 (fun g Z H=>by
  have:=(m.o.lt g Z).1;have:=E.o.lt.1;rcases H with rfl | H
  ·omega
  ·exact c.o.2.2.2 g Z H))
 have G:Hid (w.heap.size≤w2.heap.size):=zu c.o.1.size k.1.size;clear k q;unfold qo;generalize zbf (zfk (qt (qc fs L))) b 64 a K=y at *;go_wp2_with (at_builtin;refine zg2 w2 rfl _ _ rfl w.heap.size G.o (.slice xa (zct (qc fs L) b (qz f (a+K) (n - K) i)).length xc) (zct (qc fs L) b (qz f (a+K) (n - K) i)) rfl F.o y _ rfl rfl HC.o ?_;intro v' w5 e l d;have HX:=zf (LkX.push E.o c.o.1 m.o c.o.2.1 c.o.2.2.1 c.o.2.2.2 C.o l e d);clear e l d);go_ret;refine⟨_,rfl,?_⟩;rw [R.o.1,R.o.2,← xt];exact HX.o
theorem z8z {fs:Fs}{L:List Ly}{b:Nat}(y:LkC W nb fs L b)(j:Nat)(r:W.heap.size≤j):∀(f a n i:Nat) (g:Option Nat) (d:za) (w:World),f≤64→1≤n→n≤2 ^ f→a+n≤b→a≤i→i < a+n→Al a n→d.length+130*(f+1)≤999990→Below W.heap.size W w→vy w j g nb b d→zi9 fs L nb b j f a n i g d w:=by
 have o:=y.sz;intro f
 induction f with
 | zero =>
  intro a n i g d w _ M G v x H l N q m;obtain rfl:n=1:=by omega
  exact zw9 fs L nb b j 0 a i g d w m
 | succ f I =>
  intro a n i g d w Q M G v x H l N q m
  by_cases A:n=1
  ·subst A;exact zw9 fs L nb b j (f+1) a i g d w m
  have c:2≤n:=by omega
  obtain⟨J,K,C,D,R,S⟩:=zaw n f c G;have k:∀ h e,e≤2 ^ f→1≤e→h+e≤b→Al h e→(d++zdv (qc fs L) b (qz f h e i)).length+2*(63+1)≤999990:=fun h e E T U O=>by
   have:=zoz (qc fs L) b o (qz f h e i) (fun s B=>⟨zwz f h e i E O s B,by have:=zg5 f h e i E s B;omega,by have:=zg5 f h e i E s B;omega⟩);have P:=zcx f h e i;rw [zy];omega
  by_cases z:i < a+yo n
  ·exact z48 j f a n i r g d w c o v x z q m (by omega) (I a (yo n) i g d w (by omega) C J (by omega) x z (l.left c) (by omega) q m) fun p F t u=>zmm y j r 63 (a+yo n) (n - yo n) p _ F D (by omega) (by omega) (l.right c) (k a (yo n) J C (by omega) (l.left c)) t u
  ·exact z1p j f a n i r g d w c o v z H q m (by omega) (I (a+yo n) (n - yo n) i g d w (by omega) D K (by omega) (by omega) (by omega) (l.right c) (by omega) q m) fun p F t u=>zmm y j r 63 a (yo n) p _ F C (by omega) (by omega) (l.left c) (k (a+yo n) (n - yo n) K D (by omega) (l.right c)) t u
def zgj (fs:Fs)(L:List Ly)(g b c f a n i:Nat)(whole:Bool)(d:Option Nat)(e:za)(w:World):Prop :=
 Calls prog 56 #[.pointer (some ⟨c,0,none⟩),.int .i64 ((i - a:Nat):Int),.int .i64 a,.int .i64 n,.bool whole] w fun r h=>∃ x,r= .returned x∧LkX w h c d g b (e++zdv (qc fs L) b (qk f i a n whole)) x (zct (qc fs L) b (qk f i a n whole))
theorem z1o (fs:Fs)(L:List Ly)(e b g f a n:Nat)(c:Option Nat)(d:za)(w:World)(h:vy w g c e b d):zgj fs L e b g f a n (a+n) true c d w:=by
 have i:=zf h;unfold zgj;rw [zef f (a+n) a n true rfl,if_pos rfl,show zdv (qc fs L) b []=[] from rfl,show zct (qc fs L) b []=[] from rfl,za3,zc1];clear h;go_enter func56,ntmps56;go_wp2_with fail;go_ret;exact⟨_,rfl,i.o.lkx (yf _ _)⟩
theorem z8y (fs:Fs)(L:List Ly)(i b j f a n:Nat)(e:Option Nat)(g:za)(w:World)(h:zeg fs L i b j a n e g w):zgj fs L i b j f a n (a+n) false e g w:=by
 have c:=zf h;unfold zeg at c;unfold zgj;rw [zef f (a+n) a n false rfl,if_neg (by simp),show [(a,n)]=[]++[(a,n)] from rfl,zmg,zmh,show zdv (qc fs L) b []=[] from rfl,show zct (qc fs L) b []=[] from rfl,zal,zal,zc1];clear h;go_enter func56,ntmps56;go_wp2_with fail;refine c.o.mono ?_;rintro r m ⟨rfl,d⟩;have k:=zf d;clear d c;unfold qo;generalize l:zbf (zfk (qt (qc fs L))) b 64 a n=y at *;go_wp2_with fail;go_ret;exact⟨_,rfl,by rw [l];exact LkX.one k.o y⟩
theorem z47 {fs:Fs}{L:List Ly}{b:Nat}(s f a n i:Nat)(whole:Bool)(hq:W.heap.size≤s)(M:Option Nat)(A:za)(w:World)(x:2≤n)(ae:b < 9223372036854775808)(hj:a+n≤b)(aa:a < i)(X:i≤a+yo n)(U:Below W.heap.size W w)(h:vy w s M nb b A)(hf:f≤64)
 (S:zgj fs L nb b s f a (yo n) i whole M A w) (T:∀ j t,Below W.heap.size W t→vy t s j nb b (A++zdv (qc fs L) b (qk f i a (yo n) whole))→zeg fs L nb b s (a+yo n) (n - yo n) j (A++zdv (qc fs L) b (qk f i a (yo n) whole)) t):zgj fs L nb b s (f+1) a n i whole M A w:=by
 obtain⟨k5,k6,k3⟩:=vz n x;have P:Hid (zdv (qc fs L) b (qk (f+1) i a n whole)=zdv (qc fs L) b (qk f i a (yo n) whole)++zcj (qt (qc fs L)) (xr b 64 (a+yo n) (n - yo n))∧zct (qc fs L) b (qk (f+1) i a n whole)=zct (qc fs L) b (qk f i a (yo n) whole)++[zbf (zfk (qt (qc fs L))) b 64 (a+yo n) (n - yo n)]):=by
  rw [zge f i a n whole (by omega) X];exact⟨zmg _ _ _ _ _,zmh _ _ _ _ _⟩
 have Z:Hid ((zct (qc fs L) b (qk f i a (yo n) whole)).length≤1000000000):=by
  show _≤_;unfold zct;rw [yi];have:=zdd f i a (yo n) whole;omega
 have HW:=zf U;have D:=zf h;have p:=zf S;have q:=zf T;unfold zgj at p ⊢;unfold zeg at q;generalize v:yo n=K at *;have C:=zf v;have Q:(n:Int) - (K:Int)=((n - K:Nat):Int):=by omega
 have R:(a:Int)+(K:Int)=((a+K:Nat):Int):=by omega
 have O:=zf (And.intro Q R);have ab:i - a≤K:=by omega
 have ad:¬ i - a=n:=by omega
 clear S T h U v Q R X;generalize i - a=I at *;go_enter func56,ntmps56;go_wp2_with fail;refine(zee n w x (by omega)).mono ?_;rintro r w0 ⟨rfl,z⟩;rw [z,C.o];clear z w0;go_wp2_with fail;refine p.o.mono ?_;rintro r t ⟨x1,rfl,t1,N,j,H,J,d1⟩;have u:Hid (Below W.heap.size W t):=Lkd.below ⟨t1,j,H,J⟩ D.o HW.o hq;have c:=zf (And.intro t1 (And.intro H (And.intro J d1)));obtain⟨xa,xc,rfl⟩:=qr N;have m:=zf N;clear t1 H J d1 p N;go_wp2_with fail
 first
  | rw [O.o.1,O.o.2]
  | skip
 refine(q.o j t u.o c.o.2.1).mono ?_;rintro r Y ⟨rfl,k⟩;have B:=zf k;have E:=zf (zdq m.o k.1 (fun g V G=>by
  have:=(m.o.lt g V).1;have:=D.o.lt.1;rcases G with rfl | G
  ·omega
  ·exact c.o.2.2.2 g V G))
 have F:Hid (w.heap.size≤Y.heap.size):=zu c.o.1.size k.1.size;clear k q;unfold qo;generalize zbf (zfk (qt (qc fs L))) b 64 (a+K) (n - K)=y at *;go_wp2_with (at_builtin;refine zg2 Y rfl _ _ rfl w.heap.size F.o (.slice xa (zct (qc fs L) b (qk f i a K whole)).length xc) (zct (qc fs L) b (qk f i a K whole)) rfl E.o y _ rfl rfl Z.o ?_;intro v' w5 e l d;have HX:=zf (LkX.push D.o c.o.1 m.o c.o.2.1 c.o.2.2.1 c.o.2.2.2 B.o l e d);clear e l d);go_ret;refine⟨_,rfl,?_⟩;rw [P.o.1,P.o.2,← xt];exact HX.o
theorem z1n {fs:Fs}{L:List Ly}{b:Nat}(s f a n i:Nat)(whole:Bool)(hq:W.heap.size≤s)(P:Option Nat)(A:za)(w:World)(x:2≤n)(ae:b < 9223372036854775808)(hj:a+n≤b)(hi:¬ i≤a+yo n)(M:i < a+n)(Y:Below W.heap.size W w)(h:vy w s P nb b A)(hf:f≤64)
 (V:zgj fs L nb b s f (a+yo n) (n - yo n) i false P A w) (X:∀ j t,Below W.heap.size W t→vy t s j nb b (A++zdv (qc fs L) b (qk f i (a+yo n) (n - yo n) false))→zeg fs L nb b s a (yo n) j (A++zdv (qc fs L) b (qk f i (a+yo n) (n - yo n) false)) t):zgj fs L nb b s (f+1) a n i whole P A w:=by
 obtain⟨k5,k6,k3⟩:=vz n x;have R:Hid (zdv (qc fs L) b (qk (f+1) i a n whole)=zdv (qc fs L) b (qk f i (a+yo n) (n - yo n) false)++zcj (qt (qc fs L)) (xr b 64 a (yo n))∧zct (qc fs L) b (qk (f+1) i a n whole)=zct (qc fs L) b (qk f i (a+yo n) (n - yo n) false)++[zbf (zfk (qt (qc fs L))) b 64 a (yo n)]):=by
  rw [zgf f i a n whole (by omega) hi];exact⟨zmg _ _ _ _ _,zmh _ _ _ _ _⟩
 have HC:Hid ((zct (qc fs L) b (qk f i (a+yo n) (n - yo n) false)).length≤1000000000):=by
  show _≤_;unfold zct;rw [yi];have:=zdd f i (a+yo n) (n - yo n) false;omega
 have HW:=zf Y;have E:=zf h;have p:=zf V;have q:=zf X;unfold zgj at p ⊢;unfold zeg at q;generalize v:yo n=K at *;have D:=zf v;have S:(n:Int) - (K:Int)=((n - K:Nat):Int):=by omega
 have T:(a:Int)+(K:Int)=((a+K:Nat):Int):=by omega
 have U:((i - a:Nat):Int) - (K:Int)=((i - (a+K):Nat):Int):=by omega
 have aa:¬ i - a≤K:=by omega
 have ad:¬ i - a=n:=by omega
 have ab:i - a < 9223372036854775808:=by omega
 have B:=zf (And.intro S (And.intro T U));clear V X h Y v S T U hi M;generalize i - a=I at *;generalize i - (a+K)=J at *;go_enter func56,ntmps56;go_wp2_with fail;refine(zee n w x (by omega)).mono ?_;rintro r w0 ⟨rfl,z⟩;rw [z,D.o];clear z w0;go_wp2_with fail;rw [B.o.1,B.o.2.1,B.o.2.2];refine p.o.mono ?_;rintro r t ⟨x1,rfl,t1,Q,j,N,O,d1⟩;have u:Hid (Below W.heap.size W t):=Lkd.below ⟨t1,j,N,O⟩ E.o HW.o hq;have c:=zf (And.intro t1 (And.intro N (And.intro O d1)));obtain⟨xa,xc,rfl⟩:=qr Q;have m:=zf Q;clear t1 N O d1 p Q;go_wp2_with fail;refine(q.o j t u.o c.o.2.1).mono ?_;rintro r w2 ⟨rfl,k⟩;have C:=zf k;have F:=zf (zdq m.o k.1 (fun g Z H=>by
  have:=(m.o.lt g Z).1;have:=E.o.lt.1;rcases H with rfl | H
  ·omega
  ·exact c.o.2.2.2 g Z H))
 have G:Hid (w.heap.size≤w2.heap.size):=zu c.o.1.size k.1.size;clear k q;unfold qo;generalize zbf (zfk (qt (qc fs L))) b 64 a K=y at *;go_wp2_with (at_builtin;refine zg2 w2 rfl _ _ rfl w.heap.size G.o (.slice xa (zct (qc fs L) b (qk f i (a+K) (n - K) false)).length xc) (zct (qc fs L) b (qk f i (a+K) (n - K) false)) rfl F.o y _ rfl rfl HC.o ?_;intro v' w5 e l d;have HX:=zf (LkX.push E.o c.o.1 m.o c.o.2.1 c.o.2.2.1 c.o.2.2.2 C.o l e d);clear e l d);go_ret;refine⟨_,rfl,?_⟩;rw [R.o.1,R.o.2,← xt];exact HX.o
theorem z8x {fs:Fs}{L:List Ly}{b:Nat}(z:LkC W nb fs L b)(h:Nat)(x:W.heap.size≤h):∀(f a n i:Nat) (whole:Bool) (e:Option Nat) (c:za) (w:World),f≤64→1≤n→n≤2 ^ f→a+n≤b→a < i→i≤a+n→Al a n→c.length+130*(f+2)≤999990→Below W.heap.size W w→vy w h e nb b c→zgj fs L nb b h f a n i whole e c w:=by
 have r:=z.sz;have o:∀(f a n:Nat) (whole:Bool) (e:Option Nat) (c:za) (w:World),1≤n→a+n≤b→Al a n→c.length+130≤999990→Below W.heap.size W w→vy w h e nb b c→zgj fs L nb b h f a n (a+n) whole e c w:=fun f a n whole e c w v q k N m l=>by
  cases whole with
  | true=>exact z1o fs L nb b h f a n e c w l
  | false=>exact z8y fs L nb b h f a n e c w (zmm z h x 63 a n e c w v (by omega) q k (by omega) m l)
 intro f
 induction f with
 | zero =>
  intro a n i whole e c w _ v M q y S k N m l;obtain rfl:i=a+n:=by omega
  exact o 0 a n whole e c w v q k (by omega) m l
 | succ f O =>
  intro a n i whole e c w V v M q y S k N m l
  by_cases D:i=a+n
  ·subst D;exact o (f+1) a n whole e c w v q k (by omega) m l
  have d:2≤n:=by omega
  obtain⟨P,Q,F,G,X,Y⟩:=zaw n f d M;have p:∀ j g u,g≤2 ^ f→1≤g→j+g≤b→j < i→i≤j+g→Al j g→(c++zdv (qc fs L) b (qk f i j g u)).length+2*(63+1)≤999990:=fun j g u H R Z I J T=>by
   have:=zoz (qc fs L) b r (qk f i j g u) (fun s E=>⟨zwx f i j g u H I J T s E,by have:=zg4 f i j g u H R I J s E;omega,by have:=zg4 f i j g u H R I J s E;omega⟩);have U:=zdd f i j g u;rw [zy];omega
  by_cases A:i≤a+yo n
  ·exact z47 h f a n i whole x e c w d r q y A m l (by omega) (O a (yo n) i whole e c w (by omega) F P (by omega) y A (k.left d) (by omega) m l) fun t K B C=>zmm z h x 63 (a+yo n) (n - yo n) t _ K G (by omega) (by omega) (k.right d) (p a (yo n) whole P F (by omega) y A (k.left d)) B C
  ·exact z1n h f a n i whole x e c w d r q A (by omega) m l (by omega) (O (a+yo n) (n - yo n) i false e c w (by omega) G Q (by omega) (by omega) (by omega) (k.right d) (by omega) m l) fun t K B C=>zmm z h x 63 a (yo n) t _ K F (by omega) (by omega) (k.left d) (p (a+yo n) (n - yo n) false Q G (by omega) (by omega) (by omega) (k.right d)) B C
end Go.Proofs.YtlcllcgngjhoaaaGreatDoor
