import Derived.Test.YtlcllcgngjhoaaaGreatDoorG39
set_option maxHeartbeats 8000000
set_option maxRecDepth 100000
set_option linter.all false
namespace Go.Proofs.YtlcllcgngjhoaaaGreatDoor
open Go.RowKit Go.Proofs.Tryz
theorem yig (a:Nat→Addr)(w:World)(u:zbz w a):
  Calls prog 50 #[.iface 364 (.pointer (some (a 0)))] w fun e y=>e= .returned (told 1)∧Below w.heap.size w y:=by
 obtain⟨h0,f,g,h,k,p,l,b,c⟩:=u;have m:=zf b;have n:=zf c;clear b c p;have z:∀ o,(w.alloc o).cell? ⟨1,0,none⟩=some (.iface 364 (.pointer (some (a 0)))):=fun o=>by rw [yp _ _ ⟨_,0,none⟩ (yg h0)];exact h0
 have A:∀ o,(w.alloc o).cell? ⟨2,0,none⟩=some (.iface 364 (.pointer (some (a 1)))):=fun o=>by rw [yp _ _ ⟨_,0,none⟩ (yg f)];exact f
 have B:∀ o,(w.alloc o).cell? ⟨0,0,none⟩=some (.iface 364 (.pointer (some (a 2)))):=fun o=>by rw [yp _ _ ⟨_,0,none⟩ (yg g)];exact g
 have C:∀ o,(w.alloc o).cell? ⟨3,0,none⟩=some (.iface 364 (.pointer (some (a 3)))):=fun o=>by rw [yp _ _ ⟨_,0,none⟩ (yg h)];exact h
 have D:∀ o,(w.alloc o).cell? ⟨4,0,none⟩=some (.iface 364 (.pointer (some (a 4)))):=fun o=>by rw [yp _ _ ⟨_,0,none⟩ (yg k)];exact k
 have E:∀ o,(w.alloc o).cell? ⟨5,0,none⟩=some (.iface 364 (.pointer (some (a 6)))):=fun o=>by rw [yp _ _ ⟨_,0,none⟩ (yg l)];exact l
 clear h0 f g h k l;have t:=zkh (.pointer (some (a 0)));have x:∀ W,(binOp .eql 102 (.iface 364 (.pointer (some (a 0)))) (.iface 364 (.pointer (some (a 0))))).run prog W= .ok (.bool true) W:=fun W=>by
  obtain⟨i,q,d⟩:=zz.1 zj8;obtain⟨j,r,s⟩:=zz.1 zkf;exact zch W (a 0) underlying102 underlying364 q d r
 go_enter func50,ntmps50;go_wp2_with fail;refine zd8 2 ?_;rw [xo];go_wp2_with fail;rw [xo];go_wp2_with fail;refine z8 (v:=told 1) (zbs results50 _ _ w.heap.size 52 _ (0,0) _ rfl (zj (zj (zg _ _))) underlying52 rfl (by kernel_rfl)) rfl ⟨rfl,?_⟩;exact((zk _ _).trans ((zk _ _).mono (by simp))).trans ((zk _ _).mono (by simp;omega))
theorem yih (a:Nat→Addr)(w:World)(F:zbz w a):
  Calls prog 50 #[.iface 364 (.pointer (some (a 2)))] w fun e H=>e= .returned (told 3)∧Below w.heap.size w H:=by
 obtain⟨h0,r,s,t,u,y,x,h,k⟩:=F;have g:=zf h;have b:=zf k;clear h k y;have I:∀ o,(w.alloc o).cell? ⟨1,0,none⟩=some (.iface 364 (.pointer (some (a 0)))):=fun o=>by rw [yp _ _ ⟨_,0,none⟩ (yg h0)];exact h0
 have J:∀ o,(w.alloc o).cell? ⟨2,0,none⟩=some (.iface 364 (.pointer (some (a 1)))):=fun o=>by rw [yp _ _ ⟨_,0,none⟩ (yg r)];exact r
 have K:∀ o,(w.alloc o).cell? ⟨0,0,none⟩=some (.iface 364 (.pointer (some (a 2)))):=fun o=>by rw [yp _ _ ⟨_,0,none⟩ (yg s)];exact s
 have L:∀ o,(w.alloc o).cell? ⟨3,0,none⟩=some (.iface 364 (.pointer (some (a 3)))):=fun o=>by rw [yp _ _ ⟨_,0,none⟩ (yg t)];exact t
 have M:∀ o,(w.alloc o).cell? ⟨4,0,none⟩=some (.iface 364 (.pointer (some (a 4)))):=fun o=>by rw [yp _ _ ⟨_,0,none⟩ (yg u)];exact u
 have N:∀ o,(w.alloc o).cell? ⟨5,0,none⟩=some (.iface 364 (.pointer (some (a 6)))):=fun o=>by rw [yp _ _ ⟨_,0,none⟩ (yg x)];exact x
 clear h0 r s t u x;have E:=zkh (.pointer (some (a 2)));have z:∀ c d f,(binOp .eql 102 (.iface 364 (.pointer (some (a 2)))) (.iface 364 (.pointer (some (a 0))))).run prog (((w.alloc c).alloc d).alloc f)= .ok (.bool false) (((w.alloc c).alloc d).alloc f):=fun c d f=>by
  obtain⟨m,t0,p⟩:=b.o 0 (by decide);obtain⟨n,t1,q⟩:=b.o 2 (by decide);exact zbl (g.o 2 0 (by decide) (by decide) (by decide)) ⟨n,t1,zj (zj (zj q))⟩ ⟨m,t0,zj (zj (zj p))⟩
 have A:∀ c d f,(binOp .eql 102 (.iface 364 (.pointer (some (a 2)))) (.iface 364 (.pointer (some (a 1))))).run prog (((w.alloc c).alloc d).alloc f)= .ok (.bool false) (((w.alloc c).alloc d).alloc f):=fun c d f=>by
  obtain⟨m,t0,p⟩:=b.o 1 (by decide);obtain⟨n,t1,q⟩:=b.o 2 (by decide);exact zbl (g.o 2 1 (by decide) (by decide) (by decide)) ⟨n,t1,zj (zj (zj q))⟩ ⟨m,t0,zj (zj (zj p))⟩
 have G:∀ W,(binOp .eql 102 (.iface 364 (.pointer (some (a 2)))) (.iface 364 (.pointer (some (a 2))))).run prog W= .ok (.bool true) W:=fun W=>by
  obtain⟨i,B,l⟩:=zz.1 zj8;obtain⟨j,C,D⟩:=zz.1 zkf;exact zch W (a 2) underlying102 underlying364 B l C
 go_enter func50,ntmps50;go_wp2_with fail;refine zd8 4 ?_;rw [xo];go_wp2_with fail;rw [xo];go_wp2_with fail;rw [xo];go_wp2_with fail;rw [xo];go_wp2_with fail;refine z8 (v:=told 3) (zbs results50 _ _ w.heap.size 52 _ (0,0) _ rfl (zj (zj (zg _ _))) underlying52 rfl (by kernel_rfl)) rfl ⟨rfl,?_⟩;exact((zk _ _).trans ((zk _ _).mono (by simp))).trans ((zk _ _).mono (by simp;omega))
theorem yij (a:Nat→Addr)(w:World)(H:zbz w a):
  Calls prog 50 #[.iface 364 (.pointer (some (a 4)))] w fun e J=>e= .returned (told 5)∧Below w.heap.size w J:=by
 obtain⟨h0,r,s,t,u,y,x,n,p⟩:=H;have g:=zf n;have b:=zf p;clear n p y;have K:∀ o,(w.alloc o).cell? ⟨1,0,none⟩=some (.iface 364 (.pointer (some (a 0)))):=fun o=>by rw [yp _ _ ⟨_,0,none⟩ (yg h0)];exact h0
 have L:∀ o,(w.alloc o).cell? ⟨2,0,none⟩=some (.iface 364 (.pointer (some (a 1)))):=fun o=>by rw [yp _ _ ⟨_,0,none⟩ (yg r)];exact r
 have M:∀ o,(w.alloc o).cell? ⟨0,0,none⟩=some (.iface 364 (.pointer (some (a 2)))):=fun o=>by rw [yp _ _ ⟨_,0,none⟩ (yg s)];exact s
 have N:∀ o,(w.alloc o).cell? ⟨3,0,none⟩=some (.iface 364 (.pointer (some (a 3)))):=fun o=>by rw [yp _ _ ⟨_,0,none⟩ (yg t)];exact t
 have O:∀ o,(w.alloc o).cell? ⟨4,0,none⟩=some (.iface 364 (.pointer (some (a 4)))):=fun o=>by rw [yp _ _ ⟨_,0,none⟩ (yg u)];exact u
 have P:∀ o,(w.alloc o).cell? ⟨5,0,none⟩=some (.iface 364 (.pointer (some (a 6)))):=fun o=>by rw [yp _ _ ⟨_,0,none⟩ (yg x)];exact x
 clear h0 r s t u x;have G:=zkh (.pointer (some (a 4)));have z:∀ c d f,(binOp .eql 102 (.iface 364 (.pointer (some (a 4)))) (.iface 364 (.pointer (some (a 0))))).run prog (((w.alloc c).alloc d).alloc f)= .ok (.bool false) (((w.alloc c).alloc d).alloc f):=fun c d f=>by
  obtain⟨h,t0,l⟩:=b.o 0 (by decide);obtain⟨k,t1,m⟩:=b.o 4 (by decide);exact zbl (g.o 4 0 (by decide) (by decide) (by decide)) ⟨k,t1,zj (zj (zj m))⟩ ⟨h,t0,zj (zj (zj l))⟩
 have A:∀ c d f,(binOp .eql 102 (.iface 364 (.pointer (some (a 4)))) (.iface 364 (.pointer (some (a 1))))).run prog (((w.alloc c).alloc d).alloc f)= .ok (.bool false) (((w.alloc c).alloc d).alloc f):=fun c d f=>by
  obtain⟨h,t0,l⟩:=b.o 1 (by decide);obtain⟨k,t1,m⟩:=b.o 4 (by decide);exact zbl (g.o 4 1 (by decide) (by decide) (by decide)) ⟨k,t1,zj (zj (zj m))⟩ ⟨h,t0,zj (zj (zj l))⟩
 have B:∀ c d f,(binOp .eql 102 (.iface 364 (.pointer (some (a 4)))) (.iface 364 (.pointer (some (a 2))))).run prog (((w.alloc c).alloc d).alloc f)= .ok (.bool false) (((w.alloc c).alloc d).alloc f):=fun c d f=>by
  obtain⟨h,t0,l⟩:=b.o 2 (by decide);obtain⟨k,t1,m⟩:=b.o 4 (by decide);exact zbl (g.o 4 2 (by decide) (by decide) (by decide)) ⟨k,t1,zj (zj (zj m))⟩ ⟨h,t0,zj (zj (zj l))⟩
 have C:∀ c d f,(binOp .eql 102 (.iface 364 (.pointer (some (a 4)))) (.iface 364 (.pointer (some (a 3))))).run prog (((w.alloc c).alloc d).alloc f)= .ok (.bool false) (((w.alloc c).alloc d).alloc f):=fun c d f=>by
  obtain⟨h,t0,l⟩:=b.o 3 (by decide);obtain⟨k,t1,m⟩:=b.o 4 (by decide);exact zbl (g.o 4 3 (by decide) (by decide) (by decide)) ⟨k,t1,zj (zj (zj m))⟩ ⟨h,t0,zj (zj (zj l))⟩
 have I:∀ W,(binOp .eql 102 (.iface 364 (.pointer (some (a 4)))) (.iface 364 (.pointer (some (a 4))))).run prog W= .ok (.bool true) W:=fun W=>by
  obtain⟨i,D,q⟩:=zz.1 zj8;obtain⟨j,E,F⟩:=zz.1 zkf;exact zch W (a 4) underlying102 underlying364 D q E
 go_enter func50,ntmps50;go_wp2_with fail;refine zd8 6 ?_;rw [xo];go_wp2_with fail;rw [xo];go_wp2_with fail;rw [xo];go_wp2_with fail;rw [xo];go_wp2_with fail;rw [xo];go_wp2_with fail;rw [xo];go_wp2_with fail;refine z8 (v:=told 5) (zbs results50 _ _ w.heap.size 52 _ (0,0) _ rfl (zj (zj (zg _ _))) underlying52 rfl (by kernel_rfl)) rfl ⟨rfl,?_⟩;exact((zk _ _).trans ((zk _ _).mono (by simp))).trans ((zk _ _).mono (by simp;omega))
theorem yik (a:Nat→Addr)(w:World)(I:zbz w a):
  Calls prog 50 #[.iface 364 (.pointer (some (a 6)))] w fun e K=>e= .returned (told 7)∧Below w.heap.size w K:=by
 obtain⟨h0,r,s,t,u,y,x,n,p⟩:=I;have g:=zf n;have b:=zf p;clear n p y;have L:∀ o,(w.alloc o).cell? ⟨1,0,none⟩=some (.iface 364 (.pointer (some (a 0)))):=fun o=>by rw [yp _ _ ⟨_,0,none⟩ (yg h0)];exact h0
 have M:∀ o,(w.alloc o).cell? ⟨2,0,none⟩=some (.iface 364 (.pointer (some (a 1)))):=fun o=>by rw [yp _ _ ⟨_,0,none⟩ (yg r)];exact r
 have N:∀ o,(w.alloc o).cell? ⟨0,0,none⟩=some (.iface 364 (.pointer (some (a 2)))):=fun o=>by rw [yp _ _ ⟨_,0,none⟩ (yg s)];exact s
 have O:∀ o,(w.alloc o).cell? ⟨3,0,none⟩=some (.iface 364 (.pointer (some (a 3)))):=fun o=>by rw [yp _ _ ⟨_,0,none⟩ (yg t)];exact t
 have P:∀ o,(w.alloc o).cell? ⟨4,0,none⟩=some (.iface 364 (.pointer (some (a 4)))):=fun o=>by rw [yp _ _ ⟨_,0,none⟩ (yg u)];exact u
 have Q:∀ o,(w.alloc o).cell? ⟨5,0,none⟩=some (.iface 364 (.pointer (some (a 6)))):=fun o=>by rw [yp _ _ ⟨_,0,none⟩ (yg x)];exact x
 clear h0 r s t u x;have H:=zkh (.pointer (some (a 6)));have z:∀ c d f,(binOp .eql 102 (.iface 364 (.pointer (some (a 6)))) (.iface 364 (.pointer (some (a 0))))).run prog (((w.alloc c).alloc d).alloc f)= .ok (.bool false) (((w.alloc c).alloc d).alloc f):=fun c d f=>by
  obtain⟨h,t0,l⟩:=b.o 0 (by decide);obtain⟨k,t1,m⟩:=b.o 6 (by decide);exact zbl (g.o 6 0 (by decide) (by decide) (by decide)) ⟨k,t1,zj (zj (zj m))⟩ ⟨h,t0,zj (zj (zj l))⟩
 have A:∀ c d f,(binOp .eql 102 (.iface 364 (.pointer (some (a 6)))) (.iface 364 (.pointer (some (a 1))))).run prog (((w.alloc c).alloc d).alloc f)= .ok (.bool false) (((w.alloc c).alloc d).alloc f):=fun c d f=>by
  obtain⟨h,t0,l⟩:=b.o 1 (by decide);obtain⟨k,t1,m⟩:=b.o 6 (by decide);exact zbl (g.o 6 1 (by decide) (by decide) (by decide)) ⟨k,t1,zj (zj (zj m))⟩ ⟨h,t0,zj (zj (zj l))⟩
 have B:∀ c d f,(binOp .eql 102 (.iface 364 (.pointer (some (a 6)))) (.iface 364 (.pointer (some (a 2))))).run prog (((w.alloc c).alloc d).alloc f)= .ok (.bool false) (((w.alloc c).alloc d).alloc f):=fun c d f=>by
  obtain⟨h,t0,l⟩:=b.o 2 (by decide);obtain⟨k,t1,m⟩:=b.o 6 (by decide);exact zbl (g.o 6 2 (by decide) (by decide) (by decide)) ⟨k,t1,zj (zj (zj m))⟩ ⟨h,t0,zj (zj (zj l))⟩
 have C:∀ c d f,(binOp .eql 102 (.iface 364 (.pointer (some (a 6)))) (.iface 364 (.pointer (some (a 3))))).run prog (((w.alloc c).alloc d).alloc f)= .ok (.bool false) (((w.alloc c).alloc d).alloc f):=fun c d f=>by
  obtain⟨h,t0,l⟩:=b.o 3 (by decide);obtain⟨k,t1,m⟩:=b.o 6 (by decide);exact zbl (g.o 6 3 (by decide) (by decide) (by decide)) ⟨k,t1,zj (zj (zj m))⟩ ⟨h,t0,zj (zj (zj l))⟩
 have D:∀ c d f,(binOp .eql 102 (.iface 364 (.pointer (some (a 6)))) (.iface 364 (.pointer (some (a 4))))).run prog (((w.alloc c).alloc d).alloc f)= .ok (.bool false) (((w.alloc c).alloc d).alloc f):=fun c d f=>by
  obtain⟨h,t0,l⟩:=b.o 4 (by decide);obtain⟨k,t1,m⟩:=b.o 6 (by decide);exact zbl (g.o 6 4 (by decide) (by decide) (by decide)) ⟨k,t1,zj (zj (zj m))⟩ ⟨h,t0,zj (zj (zj l))⟩
 have J:∀ W,(binOp .eql 102 (.iface 364 (.pointer (some (a 6)))) (.iface 364 (.pointer (some (a 6))))).run prog W= .ok (.bool true) W:=fun W=>by
  obtain⟨i,E,q⟩:=zz.1 zj8;obtain⟨j,F,G⟩:=zz.1 zkf;exact zch W (a 6) underlying102 underlying364 E q F
 go_enter func50,ntmps50;go_wp2_with fail;refine zd8 8 ?_;rw [xo];go_wp2_with fail;rw [xo];go_wp2_with fail;rw [xo];go_wp2_with fail;rw [xo];go_wp2_with fail;rw [xo];go_wp2_with fail;rw [xo];go_wp2_with fail;rw [xo];go_wp2_with fail;rw [xo];go_wp2_with fail;refine z8 (v:=told 7) (zbs results50 _ _ w.heap.size 52 _ (0,0) _ rfl (zj (zj (zg _ _))) underlying52 rfl (by kernel_rfl)) rfl ⟨rfl,?_⟩;exact((zk _ _).trans ((zk _ _).mono (by simp))).trans ((zk _ _).mono (by simp;omega))
variable {B db i j lb:Nat}{O:Nat→Prop}{T:List Nat}{W a w w':World}{d:Dk}{u v:Value}
def zmx (w:World)(b a:Nat):Prop:=w.heap[b]?=some (.cells #[.pointer (some ⟨a,0,none⟩)] 137 (0,0))
theorem yw.later (h:yw w (jz O a w) db d)(b:Below w.heap.size w w'):yw w' (jz O a w') db d:=(h.stay (O1:=fun _=>False) (T:=[]) (.of_below b) (by simp) (by simp)).mono (fun _ h=>jz.more b.size _ h)
theorem za9.later {l:Lg}(h:za9 w (jz O a w) db lb l)(b:Below w.heap.size w w'):za9 w' (jz O a w') db lb l:=(h.stay (O1:=fun _=>False) (T:=[]) (.of_below b) (by simp) (by simp) (by simp)).mono (fun _ h=>jz.more b.size _ h)
theorem zdw {P:Program}{fn:Func}{p u:Tmp}{ty:TypeId}(h:fn.results=#[.tmp u,.cell p ty])(tmps:Array Value)(w:World)(g:Nat)(t:TypeId)(cs:Array Value)(fr:Nat×Nat)(d:TypeDesc)
  (hp:tmps.getD p undef= .pointer (some ⟨g,0,none⟩)) (hg:w.heap[g]?=some (.cells cs t fr))
  (hu:P.underlying ty=some d) (hd:(match d with | .struct _ | .array _ _=>true | _=>false)=true) (hi:(P.info? ty).map (·.size)=some cs.size) (x:Value) (hx:tmps.getD u undef=x) :
  (results fn tmps).run P w= .ok (.tuple #[x,.agg cs]) w:=by
 have a:=zdi (P:=P) w g t ty cs fr d hg hu hd hi;simp only [zau] at hp hx;simp [results,h,hp,hx,asAddr,a]
def zkz (B:Nat)(w:World):Prop:=w.heap[B]?=some (.cells #[.int .i64 0,.string ⟨#[]⟩] 52 (0,0))
theorem zkz.below (h:zkz B w)(a:Below w.heap.size w w'):zkz B w':=by
 unfold zkz at *;rw [a.block _ (zi h)];exact h
theorem zkz.turn (h:zkz B w)(b:zq O T w w')(a:52∉T):zkz B w':=b.keep h a
theorem zle (h:zq O T w W):zq O T w ((W.setCell ⟨w.heap.size,i,none⟩ u).setCell ⟨w.heap.size,j,none⟩ v):=(h.setNew (zm _) _ _).setNew (zm _) _ _
theorem yw.sets2 (h:yw W (jz O w W) db d)(a:zkz B W):yw ((W.setCell ⟨B,i,none⟩ u).setCell ⟨B,j,none⟩ v) (jz O w ((W.setCell ⟨B,i,none⟩ u).setCell ⟨B,j,none⟩ v)) db d:=by
 have t1:zq (fun _=>True) [52] W (W.setCell ⟨B,i,none⟩ u):=(zq.refl _ _ _).set (.inl trivial) a (by simp) u;have t2:zq (fun _=>True) [52] (W.setCell ⟨B,i,none⟩ u) ((W.setCell ⟨B,i,none⟩ u).setCell ⟨B,j,none⟩ v):=(zq.refl _ _ _).set (.inl trivial) (zav a i u) (by simp) v;exact((h.stay t1 (by decide) (by decide)).stay t2 (by decide) (by decide)).mono (fun k b=>zlt k (zlt k b))
theorem za9.sets2 {l:Lg}(h:za9 W (jz O w W) db lb l)(a:zkz B W):za9 ((W.setCell ⟨B,i,none⟩ u).setCell ⟨B,j,none⟩ v) (jz O w ((W.setCell ⟨B,i,none⟩ u).setCell ⟨B,j,none⟩ v)) db lb l:=by
 have t1:zq (fun _=>True) [52] W (W.setCell ⟨B,i,none⟩ u):=(zq.refl _ _ _).set (.inl trivial) a (by simp) u;have t2:zq (fun _=>True) [52] (W.setCell ⟨B,i,none⟩ u) ((W.setCell ⟨B,i,none⟩ u).setCell ⟨B,j,none⟩ v):=(zq.refl _ _ _).set (.inl trivial) (zav a i u) (by simp) v;exact((h.stay t1 (by decide) (by decide) (by decide)).stay t2 (by decide) (by decide) (by decide)).mono (fun k b=>zlt k (zlt k b))
theorem yds (O:Nat→Prop)(b d a:Nat)(l:Lg)(w:World)(c:zmx w d a)(h:za9 w O b a l):
  Calls prog 36 #[.pointer (some ⟨d,0,none⟩)] w fun r f=>r= .returned (.int .i64 (l.es.length:Int))∧f=w:=by
 obtain⟨g,f0⟩:=zw c 0 _ rfl;have e:=zf h;clear h c;go_enter func36,ntmps36;go_wp2_with fail;refine(yjr O b a l w e.o).mono ?_;rintro r i ⟨rfl,rfl⟩;go_wp2_with fail;go_ret;exact⟨rfl,rfl⟩
variable {B' cap g:Nat}{C:Array Value}{e:TypeId}{w3:World}{xs xs':List Value}
def zn8 (w:World)(c g:Nat):Prop:=∃(a:Value) (n:Nat) (b:List Value),w.cell? ⟨c,2,none⟩=some a∧w.ownsRow 0 114 1 a n b∧∀ x∈b,x.ownBlock≠some g
theorem zzn {n q:Nat}(h:w.ownsRow B e 1 v n xs)(f:w.ownsRow B' e 1 v q xs'):xs=xs':=by
 obtain⟨r,h⟩:=h;obtain⟨s,f⟩:=f;rcases h with ⟨rfl,rfl⟩ | ⟨g,j,k,rfl,-,o,-,-,-,p⟩
 ·rcases f with ⟨-,rfl⟩ | ⟨m,c,d,b,-⟩
  ·rw [zdy (l:=xs) (by omega),zdy (l:=xs') (by omega)]
  ·simp at b
 ·rcases f with ⟨b,-⟩ | ⟨m,c,d,b,-,a,-,-,-,i⟩
  ·simp at b
  ·simp only [zbw,zr,zhb,zl9] at b;obtain⟨rfl,rfl,rfl⟩:=b;rw [o] at a;simp only [zr,vw,zl9] at a;rw [← p,← i,a]
theorem zn8.fresh {l:Lg}(h:za9 w O db lb l)(g:Nat)(s:w.heap.size≤g):zn8 w lb g:=by
 obtain⟨i,-,k,⟨q,d,o⟩,-⟩:=h;refine⟨i,l.es.length,q,(zw k 2 _ rfl).1,d,fun x n e=>?_⟩;obtain⟨j,c,rfl⟩:=vo n;have b:j < l.es.length:=by rw [d.1] at c;omega
 obtain⟨y,a,p⟩:=o j b;rw [zt c] at a;simp only [zr] at a;obtain⟨r,f,m,-,t,-⟩:=p.form;rw [a,m] at e;simp only [Value.ownBlock,zr] at e;omega
theorem zn8.below (h:zn8 w lb g)(a:Below w.heap.size w w'):zn8 w' lb g:=by
 obtain⟨c,n,f,b,d,e⟩:=h;exact⟨c,n,f,by rw [a.cell (p:=⟨lb,2,none⟩) (yg b)];exact b,ym d a,e⟩
theorem za9.clear {l:Lg}{f:Nat×Nat}(h:za9 w O db lb l)(H:zn8 w lb g)(I:w.heap[g]?=some (.cells C 5 f))(E:∀ k,k≠g→w'.heap[k]?=w.heap[k]?):za9 w' O db lb l:=by
 obtain⟨B,a,D,⟨M,y,L⟩,v⟩:=h;obtain⟨G,P,N,i,z,A⟩:=H;rw [(zw D 2 B rfl).1] at i;simp only [zr] at i;subst i;obtain rfl:=zzn y z;have n:∀(k:Nat) (c:Array Value) (t:TypeId) (x:Nat×Nat),w.heap[k]?=some (Obj.cells c t x)→t≠5→w'.heap[k]?=some (Obj.cells c t x):=fun k c t x e K=>by
  rw [E k (fun q=>?_)]
  ·exact e
  ·subst q;rw [I] at e;simp only [zr,vw] at e;exact K e.2.1.symm
 refine⟨B,a,n _ _ _ _ D (by decide),⟨M,⟨y.1,?_⟩,fun j J=>?_⟩,v⟩
 ·rcases y.2 with h | ⟨p,b,d,o,s,u,r⟩
  ·exact .inl h
  ·exact .inr ⟨p,b,d,o,s,n _ _ _ _ u (by decide),r⟩
 ·obtain⟨x,e,m⟩:=L j J;refine⟨x,e,⟨m.1.1,?_⟩,m.2⟩;have F:=A x (List.mem_of_getElem? e);rcases m.1.2 with h | ⟨p,b,d,o,s,u,r⟩
  ·exact .inl h
  ·refine .inr ⟨p,b,d,o,s,?_,r⟩;rw [E p (fun q=>?_)]
   ·exact u
   ·rw [o,q] at F;exact F rfl
theorem yhl {n:Nat}{a:Option Addr}{l:Lg}(i:w.ownsRow 0 114 1 (.slice a n cap) n xs)(b:w.heap[lb]?=some (.cells (zk3 db (.slice a n cap) l) 196 (0,0)))(c:w.grownBy w3 (Value.slice a n cap).ownBlock):w3.heap[lb]?=some (.cells (zk3 db (.slice a n cap) l) 196 (0,0)):=by
 rw [c.block lb (zi b) (fun e=>?_)]
 ·exact b
 ·rcases i.2 with ⟨h,-⟩ | ⟨g,j,d,h,-,f,-⟩
  ·simp at h;rw [h.1] at e;simp [Value.ownBlock] at e
  ·simp at h;rw [h.1] at e;simp only [Value.ownBlock,zr] at e;subst e;rw [f] at b;simp at b
theorem z6n (O:Nat→Prop)(W:World)(I:Nat→Addr)(Y:zbz W I)(V n:Nat)(l:Lg)(v:Value)(x:zc)(w:World)(hW:Below W.heap.size W w)(he:l.es.length≤1000000)(h:za9 w O V n l)(hx:Bq w v x)(aR:x.length≤9223372036854775807):
  Calls prog 74 #[.pointer (some ⟨n,0,none⟩),v] w fun r N=>zq O lT w N ∧
   ((20 < x.length∧r= .returned (.tuple #[.int .i64 0,zd2 I 0])∧Below w.heap.size w N)∨(x.length≤20∧l.live=false∧r= .returned (.tuple #[.int .i64 0,zd2 I 6])∧Below w.heap.size w N) ∨
    (x.length≤20∧l.live=true∧r= .returned (.tuple #[.int .i64 (l.es.length:Int),.nilIface])∧za9 N (jz O w N) V n { l with es:=l.es++[x] }∧∀ g,g < w.heap.size→zn8 w n g→zn8 N n g)):=by
 have HS:=zf (zdt Y hW);have G:=zf h;have HX:=zf hx;obtain⟨g,ax,C,fr,rfl,aK,hg,hc⟩:=hx;have Q:=zf (And.intro hg hc);clear Y hW h hg hc
 by_cases az:20 < x.length
 ·have h0:=HS.o.entry;go_enter func74,ntmps74;go_wp2_with fail
  go_region
  all_goals go_wp2_with fail
  all_goals go_ret2
  all_goals exact⟨(zq.refl _ _ _).drew,.inl ⟨az,rfl,(yf _ _).drew⟩⟩
 ·have aI:¬(20:Int) < (x.length:Int):=by omega
  cases t:l.live with
  | false =>
   have h6:=HS.o.failed;go_enter func74,ntmps74;go_wp2_with fail;refine(zm4 O V n l w G.o).mono ?_;rintro r f ⟨rfl,rfl⟩;rw [t];go_wp2_with fail
   go_region
   all_goals go_wp2_with fail
   all_goals go_ret2
   all_goals exact⟨(zq.refl _ _ _).drew,.inr (.inl ⟨by omega,by first | rfl | trivial,rfl,(yf _ _).drew⟩)⟩
  | true =>
   obtain⟨a,c,hb,ae,af,hO⟩:=lok G.o;obtain⟨-,-,⟨c2,f2⟩,-⟩:=zwa hb;go_enter func74,ntmps74;go_wp2_with fail;refine(zm4 O V n l w G.o).mono ?_;rintro r f ⟨rfl,rfl⟩;rw [t];have au:=zf t;clear t;obtain⟨i,hi,ag⟩:=zz.1 zy0;obtain⟨al,am,an⟩:i.zero=some (.slice none 0 0)∧i.size=1∧i.bytes=24:=by simpa using ag
   clear ag;have HI:=zf hi;have HZ:=zf (And.intro al (And.intro am an));clear hi al am an;have HB:=zf hb;have aN:=zf ae;have HG:=zf af;have av:=zf hO;have ai:=zi hb;obtain⟨xs,aj,ak⟩:=ae;have S:=zf aj;have aw:=zf ak;have aq:Hid (∀ j u,(x.map bv)[j]?=some u→f.drew.cell? ((⟨g,0,none⟩:Addr).add j)=some u):=fun j u M=>by
    have ah:j < x.length:=by simpa using (xy.1 M).1
    rw [zcc,xk];show f.cell? ⟨g,j,none⟩=_;rw [yq _ _ _ _ _ _ Q.o.1,Q.o.2 j ah];simpa [ah] using M
   clear hb af hO aj ak;go_wp2_with fail
   go_region_law (first
    | (go_simp;go_at_call 100;(refine(zmb ⟨g,0,none⟩ x.length ax x f.drew rfl (by omega) (by exact aq.o)).mono ?_;rintro r q ⟨y,rfl,L,ab⟩;obtain⟨X,U,ny,rfl⟩:=zo8 L;have m:Below f.heap.size f q:=(yf _ f).drew.trans ab;have m2:q.cell? ⟨n,2,none⟩=some (.slice a l.es.length c):=(by rw [m.cell (p:=⟨n,2,none⟩) ai];exact c2);have aS:∀ o,(q.alloc o).cell? ⟨n,2,none⟩=some (.slice a l.es.length c):=(fun o=>by rw [yp _ _ ⟨_,2,none⟩ (yg m2)];exact m2);have R:=zf L;have ap:=zf m;have H:Hid (∀ o,(q.alloc o).ownsRow 0 114 1 (.slice a l.es.length c) l.es.length xs):=(fun o=>ym (ym S.o m) (zk q o));have ar:Hid (∀ o P,(q.alloc o).grownBy P (Value.slice a l.es.length c).ownBlock→P.heap[n]?=some (.cells (zk3 V (.slice a l.es.length c) l) 196 (0,0))):=(fun o P aF=>yhl (H.o o) (zj (by rw [m.block _ ai];exact HB.o)) aF);clear L ab m))
    | (refine vu _ (by rfl) _ _ _ (by rfl) 0 114 i (.slice none 0 0) 1 24 underlying194 HI.o HZ.o.1 HZ.o.2.1 HZ.o.2.2 rfl (by omega) (.slice a l.es.length c) l.es.length xs (by rfl) (H.o _) ⟨q.heap.size,0,none⟩ 1 1 [.slice (some ⟨X,0,none⟩) ny U] (by rfl) rfl (xj (zg _ _)) (by simp [Value.oneCell']) (by omega) (by unfold maxLen;omega) (by omega) (by omega) (q.heap.size+1) (by simp) ?_;intro g3 A P E d aa aL;have J:=ar.o _ P d;obtain⟨-,-,⟨k3,z3⟩,-⟩:=zwa J;have T:=zf E;have k:=zf d;have ao:=zf aa;have s:=zf J;clear E d aa J))
   all_goals
    have k6:=(zw (zav s.o 2 (.slice (some ⟨g3,0,none⟩) (l.es.length+1) A)) 2 _ rfl).1;go_wp2_with fail
    go_ret2
    have ad:=ap.o;have Z:zq O lT f (q.alloc (.cells #[.slice (some ⟨X,0,none⟩) ny U] 114)):=(zq.of_below ad).alloc _;have aA:zq O [] f (q.alloc (.cells #[.slice (some ⟨X,0,none⟩) ny U] 114)):=(zq.of_below ad).alloc _;have aM:f.heap.size≤(q.alloc (.cells #[.slice (some ⟨X,0,none⟩) ny U] 114)).heap.size:=Z.size;have D:=z7n (l:=l) (es:=l.es) (b:=[x]) (ys:=[.slice (some ⟨X,0,none⟩) ny U]) (hv:=0) (B:=f.drew.heap.size) Z (.inl av.o) (fun g' aE=> .inl (HG.o g' aE)) (H.o _)
     (fun j M=>by
      obtain⟨z,e,F⟩:=aw.o j M;exact⟨z,e,zo F.1 aA (by decide),F.2⟩)
     (fun j M=>by
      obtain rfl:j=0:=by simpa using M
      exact⟨_,rfl,R.o.below (zk _ _)⟩)
     (yv _) rfl T.o ⟨k.o.os,k.o.tape,k.o.output,k.o.size,k.o.block⟩ (by have h:=ao.o;simpa using h) s.o
    refine⟨D.1,.inr (.inr ⟨by omega,by first | rfl | trivial,congrArg (fun z=>Ending.returned (.tuple #[.int .i64 z,.nilIface])) (by simp),by have h9:=D.2.1;rw [au.o] at h9;exact h9,fun gf aQ aD=>?_⟩)⟩;obtain⟨aP,n2,aU,K,aG,aH⟩:=aD;rw [(zw HB.o 2 _ rfl).1] at K;simp only [zr] at K;subst K;obtain rfl:=zzn S.o aG;refine⟨_,_,_,(zw (zav s.o 2 (.slice (some ⟨g3,0,none⟩) (l.es.length+1) A)) 2 _ rfl).1,zo T.o ((zq.refl (fun _=>True) [196] P).set (.inl trivial) s.o (by simp) _) (by decide),fun z F=>?_⟩;rcases yt.1 F with F | F
    ·exact aH z F
    ·obtain rfl:z=_:=by simpa using F
     obtain⟨ay,aO,aC,aB,-,-⟩:=R.o.form;simp only [zbw,zr,zhb,zl9] at aC;have aJ:f.heap.size≤ay:=aB;intro e9;simp only [Value.ownBlock,zr] at e9;omega
theorem ztt (j:B≤g)(h:Below B a w)(o:Nat)(b:List Value):Below B a (w.setCells g o b):=by
 obtain⟨d,e,f,i⟩:=zg8 g b o w;exact⟨d.trans h.os,e.trans h.tape,f.trans h.output,by rw [i];exact h.size,fun k c=>by rw [zd5 _ _ _ _ _ (by omega)];exact h.block k c⟩
theorem z9m (h:zq O T a w)(j:a.heap.size≤g)(o:Nat)(b:List Value):zq O T a (w.setCells g o b):=by
 obtain⟨d,e,f,i⟩:=zg8 g b o w;exact⟨d.trans h.os,e.trans h.tape,f.trans h.output,by rw [i];exact h.size,fun k c=>by rw [zd5 _ _ _ _ _ (by omega)];exact h.block k c⟩
def zu9 (g n:Nat)(w:World):Prop:=∃ C a,w.heap[g]?=some (.cells C 5 a)∧n≤C.size∧n≤a.1
theorem z3n (b:World)(s:zc)(a:Nat):zu9 b.heap.size s.length (b.alloc (.cells (bytesRow ⟨s.toArray⟩ a) 5 ((bytesRow ⟨s.toArray⟩ a).size,(bytesRow ⟨s.toArray⟩ a).size+1))):=⟨_,_,zg _ _,by simp [bytesRow,ByteArray.size],by simp [bytesRow,ByteArray.size]⟩
theorem zu9.there {n:Nat}(h:zu9 g n w):w.there g 0 n:=by
 obtain⟨C,d,a,b,c⟩:=h;exact z1q a b (.inl c)
theorem zu9.turn {n:Nat}(h:zu9 g n w)(f:zq O T w w')(e:5∉T):zu9 g n w':=by
 obtain⟨C,a,b,c,d⟩:=h;exact⟨C,a,f.keep b e,c,d⟩
theorem z4g (O:Nat→Prop)(W:World)(j:Nat→Addr)(L:zbz W j)(K:∀ k,O k→W.heap.size≤k)(A V n:Nat)(l:Lg)(s:zc)(w:World)(hW:Below W.heap.size W w)(he:l.es.length≤1000000)(ao:s.length≤9223372036854775807)(hp:zmx w V n)(hL:za9 w O A n l):
  Calls prog 44 #[.pointer (some ⟨V,0,none⟩),.string ⟨s.toArray⟩] w fun r Z=>zq O lT w Z ∧
   ((20 < s.length∧r= .returned (.tuple #[.int .i64 0,told 1])∧Below w.heap.size w Z)∨(s.length≤20∧l.live=false∧r= .returned (.tuple #[.int .i64 0,told 7])∧Below w.heap.size w Z) ∨
    (s.length≤20∧l.live=true∧r= .returned (.tuple #[.int .i64 (l.es.length:Int),told 0])∧za9 Z (jz O w Z) A n { l with es:=l.es++[s] })):=by
 have R:V < w.heap.size:=zi hp;have ah:Hid (w.cell? ⟨V,0,none⟩=some (.pointer (some ⟨n,0,none⟩))):=(zw hp 0 _ rfl).1;have HL:=zf hL;have J:=zf hW;have HO:=zf K;have HS:=zf L;clear hL hW K L hp;have an:=zcm (P:=prog) (w.alloc (.cells #[.int .i64 0,.string ⟨#[]⟩] 52)) 9 114 5 ⟨s.toArray⟩ qw underlying114 jt;have z:(⟨s.toArray⟩:ByteArray).size≤grownCap (w.alloc (.cells #[.int .i64 0,.string ⟨#[]⟩] 52)) (⟨s.toArray⟩:ByteArray).size 0 5:=zgs _ _ _ _;have U:(⟨s.toArray⟩:ByteArray).size=s.length:=by simp [ByteArray.size]
 rw [U] at z;have HQ:=zf (zjb (w.alloc (.cells #[.int .i64 0,.string ⟨#[]⟩] 52)) s (grownCap (w.alloc (.cells #[.int .i64 0,.string ⟨#[]⟩] 52)) s.length 0 5) z);clear U;have am:∀ t u,((w.alloc t).alloc u).cell? ⟨V,0,none⟩=some (.pointer (some ⟨n,0,none⟩)):=fun t u=>by
  rw [yp _ _ ⟨_,0,none⟩ (by simp;omega),yp _ _ ⟨_,0,none⟩ R];exact ah.o
 have M:∀ t u,Below w.heap.size w ((w.alloc t).alloc u):=fun t u=>(zk w t).trans ((zk _ u).mono (by simp));have B:=zf M;have F:=zf (z3n (w.alloc (.cells #[.int .i64 0,.string ⟨#[]⟩] 52)) s (grownCap (w.alloc (.cells #[.int .i64 0,.string ⟨#[]⟩] 52)) s.length 0 5));have G:Hid (∀ o,zkz w.heap.size ((w.alloc (.cells #[.int .i64 0,.string ⟨#[]⟩] 52)).alloc o)):=fun o=>zj (zg _ _);have H:Hid (∀ t u,((w.alloc t).alloc u).heap.size=w.heap.size+2):=fun t u=>by simp
 have e1:(w.alloc (.cells #[.int .i64 0,.string ⟨#[]⟩] 52)).heap.size=w.heap.size+1:=by simp
 rw [e1] at HQ F;clear M e1;go_enter func44,ntmps44;go_wp2_with fail;have ai:=zf (G.o (.cells (bytesRow ⟨s.toArray⟩ (grownCap (w.alloc (.cells #[.int .i64 0,.string ⟨#[]⟩] 52)) s.length 0 5)) 5 ((bytesRow ⟨s.toArray⟩ (grownCap (w.alloc (.cells #[.int .i64 0,.string ⟨#[]⟩] 52)) s.length 0 5)).size,(bytesRow ⟨s.toArray⟩ (grownCap (w.alloc (.cells #[.int .i64 0,.string ⟨#[]⟩] 52)) s.length 0 5)).size+1)));have f:=zf (B.o (.cells #[.int .i64 0,.string ⟨#[]⟩] 52) (.cells (bytesRow ⟨s.toArray⟩ (grownCap (w.alloc (.cells #[.int .i64 0,.string ⟨#[]⟩] 52)) s.length 0 5)) 5 ((bytesRow ⟨s.toArray⟩ (grownCap (w.alloc (.cells #[.int .i64 0,.string ⟨#[]⟩] 52)) s.length 0 5)).size,(bytesRow ⟨s.toArray⟩ (grownCap (w.alloc (.cells #[.int .i64 0,.string ⟨#[]⟩] 52)) s.length 0 5)).size+1)));have al:=zf (H.o (.cells #[.int .i64 0,.string ⟨#[]⟩] 52) (.cells (bytesRow ⟨s.toArray⟩ (grownCap (w.alloc (.cells #[.int .i64 0,.string ⟨#[]⟩] 52)) s.length 0 5)) 5 ((bytesRow ⟨s.toArray⟩ (grownCap (w.alloc (.cells #[.int .i64 0,.string ⟨#[]⟩] 52)) s.length 0 5)).size,(bytesRow ⟨s.toArray⟩ (grownCap (w.alloc (.cells #[.int .i64 0,.string ⟨#[]⟩] 52)) s.length 0 5)).size+1)));clear G B H am an z;generalize ((w.alloc (.cells #[.int .i64 0,.string ⟨#[]⟩] 52)).alloc (.cells (bytesRow ⟨s.toArray⟩ (grownCap (w.alloc (.cells #[.int .i64 0,.string ⟨#[]⟩] 52)) s.length 0 5)) 5 ((bytesRow ⟨s.toArray⟩ (grownCap (w.alloc (.cells #[.int .i64 0,.string ⟨#[]⟩] 52)) s.length 0 5)).size,(bytesRow ⟨s.toArray⟩ (grownCap (w.alloc (.cells #[.int .i64 0,.string ⟨#[]⟩] 52)) s.length 0 5)).size+1)))=X at *;generalize grownCap (w.alloc (.cells #[.int .i64 0,.string ⟨#[]⟩] 52)) s.length 0 5=cp at *;have HX:Hid (zq O lT w X):= .of_below f.o;have ag:Hid (za9 X O A n l):=HL.o.stay (O1:=fun _=>False) (T:=[]) (.of_below f.o) (by simp) (by simp) (by simp);have ae:Hid (zn8 X n (w.heap.size+1)):=(zn8.fresh HL.o (w.heap.size+1) (by omega)).below f.o;have ab:Hid (Below W.heap.size W X):=J.o.trans (f.o.mono J.o.size);refine(z6n O W j HS.o A n l _ s X.drew ab.o.drew he (by exact ag.o) (by exact HQ.o) ao).mono ?_;rintro r c ⟨q,S⟩;have I:Hid (zq O lT w c):=HX.o.trans ((q.undrew).mono (fun _ h=> .inl h) (fun _ h=>h));have aj:Hid (zkz w.heap.size c):=ai.o.turn q.undrew (by decide);have E:Hid (zu9 (w.heap.size+1) s.length c):=F.o.turn q.undrew (by decide);have aa:Hid (Below W.heap.size W c):=J.o.trans (I.o.below HO.o J.o.size);have ad:Hid (∀ k,jz O X.drew c k→jz O w c k):=fun k Q=>by
  rcases Q with h | h
  ·exact .inl h
  ·exact .inr ⟨zu f.o.size h.1,h.2⟩
 clear q;have ap:=fun ty=>z2u (P:=prog) c 114 5 ty (.int .u8 0) underlying114 z6b rfl rfl (w.heap.size+1) s.length cp E.o.there;have i:Hid (zq O lT w (c.setCells (w.heap.size+1) 0 (List.replicate s.length (.int .u8 0)))):=z9m I.o (by omega) _ _;have y:Hid (zkz w.heap.size (c.setCells (w.heap.size+1) 0 (List.replicate s.length (.int .u8 0)))):=by
  show zkz _ _;unfold zkz;rw [zd5 _ _ _ _ _ (by omega)];exact aj.o
 have x:Hid (Below W.heap.size W (c.setCells (w.heap.size+1) 0 (List.replicate s.length (.int .u8 0)))):=ztt (zu J.o.size (by omega)) aa.o _ _;have ak:Hid ((c.setCells (w.heap.size+1) 0 (List.replicate s.length (.int .u8 0))).heap.size=c.heap.size):=(zg8 (w.heap.size+1) (List.replicate s.length (.int .u8 0)) 0 c).2.2.2;have D:Hid (Below X.heap.size X c→Below w.heap.size w (c.setCells (w.heap.size+1) 0 (List.replicate s.length (.int .u8 0)))):=fun h=>ztt (by omega) (f.o.trans (h.mono f.o.size)) _ _;have af:Hid (∀ l',za9 c (jz O X.drew c) A n l'→zn8 c n (w.heap.size+1)→za9 (c.setCells (w.heap.size+1) 0 (List.replicate s.length (.int .u8 0))) (jz O w (c.setCells (w.heap.size+1) 0 (List.replicate s.length (.int .u8 0)))) A n l'):=fun l' h hf=>by
  obtain⟨C,fr,hg,-,-⟩:=E.o;refine(h.clear hf hg (fun k Q=>zd5 _ _ _ _ _ Q)).mono (fun k Q=>?_);rcases ad.o k Q with h | h
  ·exact .inl h
  ·exact .inr ⟨h.1,by rw [ak.o];exact h.2⟩
 generalize c.setCells (w.heap.size+1) 0 (List.replicate s.length (.int .u8 0))=Y at *;rcases S with ⟨e,rfl,g⟩ | ⟨e,m,rfl,g⟩ | ⟨e,m,rfl,hl,N⟩
 ·have p:=zf (And.intro e (D.o ⟨g.os,g.tape,g.output,g.size,g.block⟩));clear e g;unfold zd2;go_wp2_with fail;refine(yig j Y (zdt HS.o x.o)).mono ?_;rintro r w4 ⟨rfl,b⟩;have d:=zf b;have a:=zf (y.o.below b);obtain⟨c0,z0⟩:=zw a.o 0 _ rfl;obtain⟨c1,z1⟩:=zw a.o 1 _ rfl;clear b;unfold told;go_wp2_with fail;exact z8 (v:= .tuple #[.int .i64 0,.agg #[.int .i64 1,.string ⟨([]:zc).toArray⟩]]) (zdw results44 _ _ w.heap.size 52 _ (0,0) _ rfl (zg9 a.o _ _ rfl) underlying52 rfl (by kernel_rfl) _ rfl) rfl ⟨zle (i.o.then_below d.o),.inl ⟨p.o.1,rfl,zoi (p.o.2.trans (d.o.mono i.o.size))⟩⟩
 ·have p:=zf (And.intro e (And.intro m (D.o ⟨g.os,g.tape,g.output,g.size,g.block⟩)));clear e g m;unfold zd2;go_wp2_with fail;refine(yik j Y (zdt HS.o x.o)).mono ?_;rintro r w4 ⟨rfl,b⟩;have d:=zf b;have a:=zf (y.o.below b);obtain⟨c0,z0⟩:=zw a.o 0 _ rfl;obtain⟨c1,z1⟩:=zw a.o 1 _ rfl;clear b;unfold told;go_wp2_with fail;exact z8 (v:= .tuple #[.int .i64 0,.agg #[.int .i64 7,.string ⟨([]:zc).toArray⟩]]) (zdw results44 _ _ w.heap.size 52 _ (0,0) _ rfl (zg9 a.o _ _ rfl) underlying52 rfl (by kernel_rfl) _ rfl) rfl ⟨zle (i.o.then_below d.o),.inr (.inl ⟨p.o.1,p.o.2.1,rfl,zoi (p.o.2.2.trans (d.o.mono i.o.size))⟩)⟩
 ·have p:=zf (And.intro e (And.intro m (af.o _ hl (N _ (by have:=al.o;show _ < X.heap.size;omega) ae.o))));clear e m hl N;go_wp2_with fail;refine(z09 j Y (zdt HS.o x.o)).mono ?_;rintro r w4 ⟨rfl,b⟩;have d:=zf b;have a:=zf (y.o.below b);obtain⟨c0,z0⟩:=zw a.o 0 _ rfl;obtain⟨c1,z1⟩:=zw a.o 1 _ rfl;clear b;unfold told;go_wp2_with fail;exact z8 (v:= .tuple #[.int .i64 (l.es.length:Int),.agg #[.int .i64 0,.string ⟨([]:zc).toArray⟩]]) (zdw results44 _ _ w.heap.size 52 _ (0,0) _ rfl (zg9 a.o _ _ rfl) underlying52 rfl (by kernel_rfl) _ rfl) rfl ⟨zle (i.o.then_below d.o),.inr (.inr ⟨p.o.1,p.o.2.1,rfl,(p.o.2.2.later d.o).sets2 a.o⟩)⟩
end Go.Proofs.YtlcllcgngjhoaaaGreatDoor
