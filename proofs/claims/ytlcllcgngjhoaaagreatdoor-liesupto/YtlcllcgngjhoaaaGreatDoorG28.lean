import Derived.Test.YtlcllcgngjhoaaaGreatDoorG27
import Derived.Test.YtlcllcgngjhoaaaGreatDoorG22
import Derived.Stop.Asserts
set_option maxHeartbeats 8000000
set_option maxRecDepth 100000
set_option linter.all false
namespace Go.Proofs.YtlcllcgngjhoaaaGreatDoor
open Go.RowKit Go.Proofs.Tryz
def zch:=@run_eql_iface_ptr_same
variable {v:Value}{w w':World}
section
attribute [local go_sem ↓] jy jn j4 jo ji jh j3 jm
theorem zrb.all {o:Option Fl}{r:Ending}(h:zrb w' o r):∃ a,FOk a∧r= .returned (.tuple #[.agg (vf a).toArray,.bool o.isSome])∧∀ f,o=some f→zdj w' a f:=by
 rcases h with ⟨a,f,rfl,b,d,rfl⟩ | ⟨rfl,a,b,rfl⟩
 ·exact⟨a,b,rfl,fun c e=>by rw [← jd e];exact d⟩
 ·exact⟨a,b,rfl,fun c e=>by simp at e⟩
theorem zrb.mk {o:Option Fl}{a:List Px}(b:FOk a)(c:∀ f,o=some f→zdj w' a f):zrb w' o (.returned (.tuple #[.agg (vf a).toArray,.bool o.isSome])):=by
 cases o with
 | none=>exact .inr ⟨rfl,a,b,rfl⟩
 | some f=>exact .inl ⟨a,f,rfl,b,c f rfl,rfl⟩
theorem zn2.below {x:Option (zc)}(h:zn2 w v x)(a:Below w.heap.size w w'):zn2 w' v x:=by
 rcases h with ⟨d,rfl,b⟩ | ⟨rfl,rfl⟩
 ·exact .inl ⟨d,rfl,b.below a⟩
 ·exact .inr ⟨rfl,rfl⟩
theorem ydq (l y:Int)(n:Nat)(E:0 < n)(J:n≤4)(v:Value)(x:Option (zc))(w:World)(h:zn2 w v x):
  Calls prog 237 #[plV (l,y,n),v] w fun r G=>Below w.heap.size w G∧zrb G (zfl l n (x.getD [])) r:=by
 unfold plV;simp only;have k:Hid (Below w.heap.size w ((w.alloc (.cells #[.int .i64 l,.int .i64 y,.int .i64 n] 150)).alloc (.cells za6 xg))∧yu ((w.alloc (.cells #[.int .i64 l,.int .i64 y,.int .i64 n] 150)).alloc (.cells za6 xg)) (w.heap.size+1) Fx.no):=by
  refine⟨xu _ _ _,?_⟩;have:=zg (w.alloc (.cells #[.int .i64 l,.int .i64 y,.int .i64 n] 150)) (.cells za6 xg);rw [show(w.alloc (.cells #[.int .i64 l,.int .i64 y,.int .i64 n] 150)).heap.size=w.heap.size+1 by simp] at this;exact this
 have H:=zf h;clear h
 by_cases z:l=-1
 ·subst z;have p:=zf (z4u n v x _ (H.o.below k.o.1));go_enter func237,ntmps237;go_wp2_with fail;refine p.o.mono ?_;rintro r d ⟨c,s⟩;obtain⟨j,i,rfl,t⟩:=s.all;have g:Below w.heap.size w d:=k.o.1.trans (c.mono k.o.1.size);have a:yu d (w.heap.size+1) Fx.no:=(c.block _ (zi k.o.2)).trans k.o.2;have F:(zi4 (.pointer (some ⟨w.heap.size+1,0,none⟩)) (.agg (vf j).toArray)).run prog d= .ok () (d.setCells (w.heap.size+1) 0 (vf j)):=zax (vp a Fx.no_ok) i.len (zcl i.2);have D:=zf (zap a Fx.no_ok i);have A:=zf (xn g (vk w.heap.size) (vf j) 0);have m:Hid (zq (fun b=>b=w.heap.size+1) [xg] d (d.setCells (w.heap.size+1) 0 (vf j))):=zf ((zq.refl (fun b=>b=w.heap.size+1) [xg] d).setCells (.inl rfl) a (by simp) _ _);have B:=zf t;have q:=zf i;clear s t i g a c p;generalize u:zfl (-1) n (x.getD [])=o at *;have C:=zf u;clear u;go_wp2_with fail;exact z8 (v:= .tuple #[.agg (vf j).toArray,.bool o.isSome]) (qa results237 _ _ (w.heap.size+1) xg _ (0,0) _ rfl D.o underlying154 rfl (by rw [zcs,xf,q.o.len]) _ rfl) rfl ⟨A.o,by rw [C.o];exact zrb.mk q.o (fun f e=>(B.o f e).turn m.o (by decide))⟩
 ·have I:(l==-1)=false:=by simp [z]
  have p:=zf (z1f n E J l z v x _ (H.o.below k.o.1));clear z;go_enter func237,ntmps237;go_wp2_with fail;refine p.o.mono ?_;rintro r d ⟨c,s⟩;obtain⟨j,i,rfl,t⟩:=s.all;have g:Below w.heap.size w d:=k.o.1.trans (c.mono k.o.1.size);have a:yu d (w.heap.size+1) Fx.no:=(c.block _ (zi k.o.2)).trans k.o.2;have F:(zi4 (.pointer (some ⟨w.heap.size+1,0,none⟩)) (.agg (vf j).toArray)).run prog d= .ok () (d.setCells (w.heap.size+1) 0 (vf j)):=zax (vp a Fx.no_ok) i.len (zcl i.2);have D:=zf (zap a Fx.no_ok i);have A:=zf (xn g (vk w.heap.size) (vf j) 0);have m:Hid (zq (fun b=>b=w.heap.size+1) [xg] d (d.setCells (w.heap.size+1) 0 (vf j))):=zf ((zq.refl (fun b=>b=w.heap.size+1) [xg] d).setCells (.inl rfl) a (by simp) _ _);have B:=zf t;have q:=zf i;clear s t i g a c p;generalize u:zfl l n (x.getD [])=o at *;have C:=zf u;clear u;go_wp2_with fail;exact z8 (v:= .tuple #[.agg (vf j).toArray,.bool o.isSome]) (qa results237 _ _ (w.heap.size+1) xg _ (0,0) _ rfl D.o underlying154 rfl (by rw [zcs,xf,q.o.len]) _ rfl) rfl ⟨A.o,by rw [C.o];exact zrb.mk q.o (fun f e=>(B.o f e).turn m.o (by decide))⟩
end
theorem zbz.below {b:Nat→Addr}(h:zbz w b)(f:Below w.heap.size w w'):zbz w' b:=by
 have c:∀ {a:Addr} {v:Value},w.cell? a=some v→w'.cell? a=some v:=fun {a v} e=>by rw [f.cell (p:=a) (yg e)];exact e
 refine⟨c h.entry,c h.range,c h.check,c h.old,c h.proof,c h.tile,c h.failed,h.apart,fun i j=>?_⟩;obtain⟨g,t,e⟩:=h.block i j;refine⟨g,t,?_⟩;rw [f.block _ ?_]
 ·exact e
 ·rcases qu (b i).block w.heap.size with d | d
  ·exact d
  ·simp [zbg d] at e
def told (n:Int):Value:= .agg #[.int .i64 n,.string ⟨#[]⟩]
theorem z09 (a:Nat→Addr)(w:World)(k:zbz w a):
  Calls prog 50 #[.nilIface] w fun e l=>e= .returned (told 0)∧Below w.heap.size w l:=by
 obtain⟨h0,b,c,d,f,j,g,h,i⟩:=k;clear h i j;have m:∀ o,(w.alloc o).cell? ⟨1,0,none⟩=some (.iface 364 (.pointer (some (a 0)))):=fun o=>by rw [yp _ _ ⟨_,0,none⟩ (yg h0)];exact h0
 have n:∀ o,(w.alloc o).cell? ⟨2,0,none⟩=some (.iface 364 (.pointer (some (a 1)))):=fun o=>by rw [yp _ _ ⟨_,0,none⟩ (yg b)];exact b
 have p:∀ o,(w.alloc o).cell? ⟨0,0,none⟩=some (.iface 364 (.pointer (some (a 2)))):=fun o=>by rw [yp _ _ ⟨_,0,none⟩ (yg c)];exact c
 have q:∀ o,(w.alloc o).cell? ⟨3,0,none⟩=some (.iface 364 (.pointer (some (a 3)))):=fun o=>by rw [yp _ _ ⟨_,0,none⟩ (yg d)];exact d
 have r:∀ o,(w.alloc o).cell? ⟨4,0,none⟩=some (.iface 364 (.pointer (some (a 4)))):=fun o=>by rw [yp _ _ ⟨_,0,none⟩ (yg f)];exact f
 have s:∀ o,(w.alloc o).cell? ⟨5,0,none⟩=some (.iface 364 (.pointer (some (a 6)))):=fun o=>by rw [yp _ _ ⟨_,0,none⟩ (yg g)];exact g
 clear h0 b c d f g;go_enter func50,ntmps50;go_wp2_with fail;refine z8 (v:=told 0) (zbs results50 _ _ w.heap.size 52 _ (0,0) _ rfl (zj (zj (zg _ _))) underlying52 rfl (by kernel_rfl)) rfl ⟨rfl,?_⟩;exact((zk _ _).trans ((zk _ _).mono (by simp))).trans ((zk _ _).mono (by simp;omega))
theorem zkh (v:Value)(W:World):(Instr.typeAssert (.iface 364 v) 102 177 true).run prog W= .ok (.tuple #[.pointer none,.bool false]) W:=by kernel_rfl
theorem yif (a:Nat→Addr)(w:World)(E:zbz w a):
  Calls prog 50 #[.iface 364 (.pointer (some (a 1)))] w fun e G=>e= .returned (told 2)∧Below w.heap.size w G:=by
 obtain⟨h0,h,k,l,m,y,n,c,b⟩:=E;have f:=zf (c 1 0 (by decide) (by decide) (by decide));have g:=zf (And.intro (b 0 (by decide)) (b 1 (by decide)));clear c b y;have H:∀ o,(w.alloc o).cell? ⟨1,0,none⟩=some (.iface 364 (.pointer (some (a 0)))):=fun o=>by rw [yp _ _ ⟨_,0,none⟩ (yg h0)];exact h0
 have I:∀ o,(w.alloc o).cell? ⟨2,0,none⟩=some (.iface 364 (.pointer (some (a 1)))):=fun o=>by rw [yp _ _ ⟨_,0,none⟩ (yg h)];exact h
 have J:∀ o,(w.alloc o).cell? ⟨0,0,none⟩=some (.iface 364 (.pointer (some (a 2)))):=fun o=>by rw [yp _ _ ⟨_,0,none⟩ (yg k)];exact k
 have K:∀ o,(w.alloc o).cell? ⟨3,0,none⟩=some (.iface 364 (.pointer (some (a 3)))):=fun o=>by rw [yp _ _ ⟨_,0,none⟩ (yg l)];exact l
 have L:∀ o,(w.alloc o).cell? ⟨4,0,none⟩=some (.iface 364 (.pointer (some (a 4)))):=fun o=>by rw [yp _ _ ⟨_,0,none⟩ (yg m)];exact m
 have M:∀ o,(w.alloc o).cell? ⟨5,0,none⟩=some (.iface 364 (.pointer (some (a 6)))):=fun o=>by rw [yp _ _ ⟨_,0,none⟩ (yg n)];exact n
 clear h0 h k l m n;have D:=zkh (.pointer (some (a 1)));have z:∀ p q r,(binOp .eql 102 (.iface 364 (.pointer (some (a 1)))) (.iface 364 (.pointer (some (a 0))))).run prog (((w.alloc p).alloc q).alloc r)= .ok (.bool false) (((w.alloc p).alloc q).alloc r):=fun p q r=>by
  obtain⟨⟨s,t0,u⟩,⟨t,t1,x⟩⟩:=g.o;exact zbl f.o ⟨t,t1,zj (zj (zj x))⟩ ⟨s,t0,zj (zj (zj u))⟩
 have F:∀ W,(binOp .eql 102 (.iface 364 (.pointer (some (a 1)))) (.iface 364 (.pointer (some (a 1))))).run prog W= .ok (.bool true) W:=fun W=>by
  obtain⟨i,A,d⟩:=zz.1 zj8;obtain⟨j,B,C⟩:=zz.1 zkf;exact zch W (a 1) underlying102 underlying364 A d B
 go_enter func50,ntmps50;go_wp2_with fail;refine zd8 3 ?_;rw [xo];go_wp2_with fail;rw [xo];go_wp2_with fail;rw [xo];go_wp2_with fail;refine z8 (v:=told 2) (zbs results50 _ _ w.heap.size 52 _ (0,0) _ rfl (zj (zj (zg _ _))) underlying52 rfl (by kernel_rfl)) rfl ⟨rfl,?_⟩;exact((zk _ _).trans ((zk _ _).mono (by simp))).trans ((zk _ _).mono (by simp;omega))
variable {O:Nat→Prop}{P:Obj}{T:List Nat}{W5 a:World}{b db nb:Nat}{n':Nt}
section
attribute [local go_sem ↓] jy jn j4 jo ji jh j3 jm
structure NOk (d:Dk)(n:Nt):Prop where
 nf:d.fs.length≤1000000000
 fl:∀ f∈d.fs,f.2.length≤1000000000
 ly:∀ l∈n.lies,l.data.length≤1000000000
 ll:n.lies.length≤1000000000
 fe:0≤n.fetches∧n.fetches < 4611686018427387904
 td:∀ t∈n.told,0≤t∧t < 4611686018427387904
def yn5 (a:Nat→Addr)(s:Nat)(p:zc)(c:World)(o:Option Fl)(r:Ending):Prop :=
 (∃ b f,o=some f∧FOk b∧zdj c b f∧r= .returned (.tuple #[.agg (vf b).toArray,.nilIface])) ∨
 (o=none∧∃ g,s≤g∧c.heap[g]?=some (.cells #[qo p,zd2 a 5] 179 (0,0))∧r= .returned (.tuple #[.agg (vf Fx.no).toArray,za7 g]))
theorem zq.setCellsNew (h:zq O T a w)(i:a.heap.size≤b)(c:List Value)(o:Nat):zq O T a (w.setCells b o c):=by
 obtain⟨e,f,g⟩:=zl4 (w:=w) (b:=b) c o;exact⟨e.trans h.os,f.trans h.tape,g.trans h.output,by rw [zdu];exact h.size,fun k d=>by
  rw [zar c o (by omega)];exact h.block k d⟩
theorem zz4 (f:zq O nT w W5)(e:zdn W5 O nb db n')(d:yu W5 (w.heap.size+1) Fx.no):
  zq O nT w ((W5.alloc P).drew.setCells (w.heap.size+1) 0 (vf Fx.no))∧zdn ((W5.alloc P).drew.setCells (w.heap.size+1) 0 (vf Fx.no)) O nb db n'∧yu ((W5.alloc P).drew.setCells (w.heap.size+1) 0 (vf Fx.no)) (w.heap.size+1) Fx.no∧((W5.alloc P).drew.setCells (w.heap.size+1) 0 (vf Fx.no)).heap[W5.heap.size]?=some P:=by
 have a:yu (W5.alloc P).drew (w.heap.size+1) Fx.no:=zj (o:=P) d;have g:=zi d;have c:=(zq.refl (fun b=>b=w.heap.size+1) [xg] (W5.alloc P).drew).setCells (.inl rfl) a (by simp) (vf Fx.no) 0;refine⟨(f.alloc P).drew.setCellsNew (vk _) _ _,(e.below (zk _ _).drew).turn c (by decide) (by decide) (by decide),zap a Fx.no_ok Fx.no_ok,?_⟩;rw [zar _ _ (by omega)];exact zg W5 P
theorem zz5 (e:zq O nT w W5)(d:zdn W5 O nb db n')(f:yu W5 (w.heap.size+1) Fx.no):
  zq O nT w ((W5.drew.setCells (w.heap.size+1) 0 (vf Fx.no)).alloc P)∧zdn ((W5.drew.setCells (w.heap.size+1) 0 (vf Fx.no)).alloc P) O nb db n'∧yu ((W5.drew.setCells (w.heap.size+1) 0 (vf Fx.no)).alloc P) (w.heap.size+1) Fx.no∧((W5.drew.setCells (w.heap.size+1) 0 (vf Fx.no)).alloc P).heap[(W5.drew.setCells (w.heap.size+1) 0 (vf Fx.no)).heap.size]?=some P:=by
 have a:yu W5.drew (w.heap.size+1) Fx.no:=f;have c:=(zq.refl (fun b=>b=w.heap.size+1) [xg] W5.drew).setCells (.inl rfl) a (by simp) (vf Fx.no) 0;refine⟨(e.drew.setCellsNew (vk _) _ _).alloc P,((d.below (yf _ _).drew).turn c (by decide) (by decide) (by decide)).below (zk _ _),zj (zap a Fx.no_ok Fx.no_ok),zg _ _⟩
theorem zv3 (z:World)(m:Nat→Addr)(O:Nat→Prop)(nb db cb:Nat)(n:Nt)(d:Dk)(l j:Int)(k:Nat)(aK:0 < k)(hk:k≤4)(aJ:j≤9223372036854775807)(w:World)(hW:Below z.heap.size z w)(hE:Env z)(hS:zbz z m)
 (hO:∀ b,O b→z.heap.size≤b) (ar:NOk d n) (hD:yw w O db d) (hN:zdn w O nb db n) (hc:w.cell? ⟨cb,2,none⟩=some (zwm nb)) :
  Calls prog 222 #[yx cb,plV (l,j,k)] w fun r w'=>zq O nT w w'∧zdn w' O nb db (j7 (yz d.fs) n (l,j,k)).2∧yn5 m w.heap.size (qq l j k) w' (j7 (yz d.fs) n (l,j,k)).1 r:=by
 have i:Hid (j7 (yz d.fs) n (l,j,(k:Int))=(if (yz d.fs n (qq l j k)).1.2 then zfl l k (yz d.fs n (qq l j k)).1.1 else none,(yz d.fs n (qq l j k)).2)):=rfl;unfold plV;simp only;have S:Hid (Below w.heap.size w ((w.alloc (.cells #[.int .i64 l,.int .i64 j,.int .i64 k] 150)).alloc (.cells za6 xg))∧((w.alloc (.cells #[.int .i64 l,.int .i64 j,.int .i64 k] 150)).alloc (.cells za6 xg)).heap[w.heap.size]?=some (.cells #[.int .i64 l,.int .i64 j,.int .i64 k] 150 (0,0))∧yu ((w.alloc (.cells #[.int .i64 l,.int .i64 j,.int .i64 k] 150)).alloc (.cells za6 xg)) (w.heap.size+1) Fx.no):=by
  refine⟨xu _ _ _,zj (zg _ _),?_⟩;have:=zg (w.alloc (.cells #[.int .i64 l,.int .i64 j,.int .i64 k] 150)) (.cells za6 xg);rw [show(w.alloc (.cells #[.int .i64 l,.int .i64 j,.int .i64 k] 150)).heap.size=w.heap.size+1 by simp] at this;exact this
 have Y:=zf hW;have HE:=zf hE;have HS:=zf hS;have HO:=zf hO;have u:=zf ar;have HD:=zf hD;have HN:=zf hN;have HC:=zf hc;clear hW hE hS hO ar hD hN hc;unfold yx;go_enter func222,ntmps222;go_wp2_with fail;generalize (w.alloc (.cells #[.int .i64 l,.int .i64 j,.int .i64 k] 150)).alloc (.cells za6 xg)=W1 at *;have al:Below z.heap.size z W1:=Y.o.trans (S.o.1.mono Y.o.size);refine(zwk l j k aJ W1 (HE.o.below al)).mono ?_;rintro r w1 ⟨rfl,Q⟩;have A:Below w.heap.size w w1:=S.o.1.trans (Q.mono S.o.1.size);have ax:=zf A;have ad:Hid (w1.heap[w.heap.size]?=some (.cells #[.int .i64 l,.int .i64 j,.int .i64 k] 150 (0,0))∧yu w1 (w.heap.size+1) Fx.no):=⟨(Q.block _ (zi S.o.2.1)).trans S.o.2.1,(Q.block _ (zi S.o.2.2)).trans S.o.2.2⟩;have HF:=zf (zvo O nb db cb n d (qq l j k) w1 u.o.nf u.o.fl u.o.ly u.o.ll u.o.fe u.o.td (HD.o.stay (O1:=fun _=>False) (T:=[]) (.of_below A) (by simp) (by simp)) (HN.o.below A) (by rw [A.cell (p:=⟨cb,2,none⟩) (yg HC.o)];exact HC.o));have ag:=zf (Y.o.trans (A.mono Y.o.size));clear A Q al S;unfold yx qo at HF;generalize aj:qq l j k=pn at *;have E:=zf aj;clear aj;generalize aG:yz d.fs n pn=N at *;clear aG;obtain⟨⟨aF,ok⟩,n'⟩:=N;simp only at *;go_wp2_with fail;refine HF.o.mono ?_;rintro r U ⟨v,x,rfl,J,ai,ap,av⟩;have R:U.heap[w.heap.size]?=some (.cells #[.int .i64 l,.int .i64 j,.int .i64 k] 150 (0,0)):=J.keep ad.o.1 (by decide);have an:yu U (w.heap.size+1) Fx.no:=J.keep ad.o.2 (by decide);have p0:U.cell? ⟨w.heap.size,0,none⟩=some (.int .i64 l):=(zw R 0 _ rfl).1;have p1:U.cell? ⟨w.heap.size,1,none⟩=some (.int .i64 j):=(zw R 1 _ rfl).1;have p2:U.cell? ⟨w.heap.size,2,none⟩=some (.int .i64 k):=(zw R 2 _ rfl).1;have F:=zf (ydq l j k aK hk v x U ap);have ae:Hid (zq O nT w U):=zf ((zq.of_below ax.o).trans (J.mono (fun _ h=> .inl h) (fun _ h=>h)));have V:Hid (Below z.heap.size z U):=zf (ag.o.trans (J.below HO.o ag.o.size));have ab:=zf ai;have L:=zf an;rw [av] at F;unfold plV at F;simp only at F;clear J ai ap av R an HF;go_wp2_with fail;refine F.o.mono ?_;rintro r g ⟨B,am⟩;obtain⟨C,K,rfl,aw⟩:=am.all;generalize aH:zfl l k aF=o at *;have ak:zq O nT w g:=ae.o.then_below B;have aM:w.heap.size+1 < g.heap.size:=zx (zi L.o) B.size;have ao:yu g (w.heap.size+1) Fx.no:=(B.block _ (zi L.o)).trans L.o;have W:yu (g.alloc (.cells za6 xg)) g.heap.size Fx.no:=zg _ _;have aN:(zi4 (.pointer (some ⟨g.heap.size,0,none⟩)) (.agg (vf C).toArray)).run prog (g.alloc (.cells za6 xg))= .ok () ((g.alloc (.cells za6 xg)).setCells g.heap.size 0 (vf C)):=zax (vp W Fx.no_ok) K.len (zcl K.2);have aa:=zf (zap W Fx.no_ok K);have Z:Hid (Below g.heap.size g ((g.alloc (.cells za6 xg)).setCells g.heap.size 0 (vf C))):=xn (zk _ _) (zm _) _ _;have aB:=zf ak;have ay:Hid (yu g (w.heap.size+1) Fx.no):=ao;have y:=zf K;have aE:=zf aw;have ah:Hid (Below z.heap.size z g):=V.o.trans (B.mono V.o.size);have az:=zf (ab.o.below B);clear am aw K ak ao W B aH F ae V ab L;have HG:Hid (∀ c,Below g.heap.size g c→zq O nT w c∧zdn c O nb db n'∧yu c (w.heap.size+1) Fx.no∧c.cell? ⟨6,0,none⟩=some (zd2 m 5)∧∀ f,o=some f→zdj c C f):=by
  intro c hb;refine⟨aB.o.then_below hb,az.o.below hb,(hb.block _ aM).trans ay.o,?_,fun f e=>(aE.o f e).below hb⟩;have aI:=ah.o.trans (hb.mono ah.o.size);exact(HS.o.below aI).tile
 have s:=zf (HG.o _ Z.o);have aq:((g.alloc (.cells za6 xg)).setCells g.heap.size 0 (vf C)).cell? ⟨6,0,none⟩=some (.iface 364 (.pointer (some (m 5)))):=s.o.2.2.2.1;have au:g.heap.size < ((g.alloc (.cells za6 xg)).setCells g.heap.size 0 (vf C)).heap.size:=zi aa.o;have M:Hid (w.heap.size≤((g.alloc (.cells za6 xg)).setCells g.heap.size 0 (vf C)).heap.size):=by show _≤_;omega
 clear HG Z au
 by_cases X:ok=true∧o.isSome=true
 ·obtain⟨rfl,ho⟩:=X;obtain⟨f,rfl⟩:=zjh.1 ho;have aP:=ze0 (j6 aa.o) y.o.len;have aO:=zax (vp s.o.2.2.1 Fx.no_ok) y.o.len (zcl y.o.2);have aD:=zf (zap s.o.2.2.1 Fx.no_ok y.o);have aC:=zf (s.o.1.setCellsNew (vk w.heap.size) (vf C) 0);have af:=zf ((zq.refl (fun b=>b=w.heap.size+1) [xg] _).setCells (.inl rfl) s.o.2.2.1 (by simp) (vf C) 0);clear ho;go_wp2_with fail;refine z8 (v:= .tuple #[.agg (vf C).toArray,.nilIface]) (qa results222 _ _ (w.heap.size+1) xg _ (0,0) _ rfl aD.o underlying154 rfl (by rw [zcs,xf,y.o.len]) _ rfl) rfl ⟨aC.o,?_,?_⟩
  ·rw [i.o];exact s.o.2.1.turn af.o (by decide) (by decide) (by decide)
  ·rw [i.o,E.o];exact .inl ⟨C,f,rfl,y.o,(s.o.2.2.2.2 f rfl).turn af.o (by decide),rfl⟩
 ·have aL:(if ok then o else none)=none:=by
   cases ok with
   | false=>rfl
   | true=>cases o with
    | none=>rfl
    | some f=>exact absurd ⟨rfl,rfl⟩ X
  have G:=fun w0=>zsq w0;rw [z08] at G;have aA:=zf aL;rw [aA.o] at i;cases ok with
  | false =>
   go_wp2_with fail;generalize (g.alloc (.cells za6 xg)).setCells g.heap.size 0 (vf C)=c at *;have q:yu c (w.heap.size+1) Fx.no:=s.o.2.2.1;have H:(zi4 (.pointer (some ⟨w.heap.size+1,0,none⟩)) (.agg (vf Fx.no).toArray)).run prog c.drew= .ok () (c.drew.setCells (w.heap.size+1) 0 (vf Fx.no)):=zax (w:=c.drew) (vp q Fx.no_ok) Fx.no_ok.len (zcl Fx.no_ok.2);have I:∀ o,(zi4 (.pointer (some ⟨w.heap.size+1,0,none⟩)) (.agg (vf Fx.no).toArray)).run prog (c.alloc o).drew= .ok () ((c.alloc o).drew.setCells (w.heap.size+1) 0 (vf Fx.no)):=fun o=>zax (w:=(c.alloc o).drew) (vp (w:=(c.alloc o).drew) (xs:=Fx.no) (zj q) Fx.no_ok) Fx.no_ok.len (zcl Fx.no_ok.2);have t:(c.drew.setCells (w.heap.size+1) 0 (vf Fx.no)).cell? ⟨6,0,none⟩=some (.iface 364 (.pointer (some (m 5)))):=by
    have h1:(6:Nat) < z.heap.size:=yg HS.o.tile;have h2:=Y.o.size;have h3:(6:Nat)≠w.heap.size+1:=by omega
    rw [zb7 (w:=c) (zar (w:=c.drew) (vf Fx.no) 0 h3)];exact aq
   have D:=zf q;clear q
   go_region
   ·have a:=zf (zz4 (P:=(.cells #[.string ⟨pn.toArray⟩,.iface 364 (.pointer (some (m 5)))] 179)) s.o.1 s.o.2.1 D.o);clear H I t G;go_wp2_with fail;refine z8 (v:= .tuple #[.agg (vf Fx.no).toArray,za7 (c.heap.size)]) (qa results222 _ _ (w.heap.size+1) xg _ (0,0) _ rfl a.o.2.2.1 underlying154 rfl (by rw [zcs,xf,Fx.no_ok.len]) _ rfl) rfl ⟨a.o.1,by rw [i.o];exact a.o.2.1,?_⟩;rw [i.o,E.o];exact .inr ⟨rfl,_,M.o,a.o.2.2.2,rfl⟩
   ·have a:=zf (zz5 (P:=(.cells #[.string ⟨pn.toArray⟩,.iface 364 (.pointer (some (m 5)))] 179)) s.o.1 s.o.2.1 D.o);clear H I t G;go_wp2_with fail;refine z8 (v:= .tuple #[.agg (vf Fx.no).toArray,za7 ((c.drew.setCells (w.heap.size+1) 0 (vf Fx.no)).heap.size)]) (qa results222 _ _ (w.heap.size+1) xg _ (0,0) _ rfl a.o.2.2.1 underlying154 rfl (by rw [zcs,xf,Fx.no_ok.len]) _ rfl) rfl ⟨a.o.1,by rw [i.o];exact a.o.2.1,?_⟩;rw [i.o,E.o];exact .inr ⟨rfl,_,by rw [zdu];exact M.o,a.o.2.2.2,rfl⟩
  | true =>
   cases o with
   | some f=>exact absurd ⟨rfl,rfl⟩ X
   | none =>
    go_wp2_with fail;generalize (g.alloc (.cells za6 xg)).setCells g.heap.size 0 (vf C)=c at *;have q:yu c (w.heap.size+1) Fx.no:=s.o.2.2.1;have H:(zi4 (.pointer (some ⟨w.heap.size+1,0,none⟩)) (.agg (vf Fx.no).toArray)).run prog c.drew= .ok () (c.drew.setCells (w.heap.size+1) 0 (vf Fx.no)):=zax (w:=c.drew) (vp q Fx.no_ok) Fx.no_ok.len (zcl Fx.no_ok.2);have I:∀ o,(zi4 (.pointer (some ⟨w.heap.size+1,0,none⟩)) (.agg (vf Fx.no).toArray)).run prog (c.alloc o).drew= .ok () ((c.alloc o).drew.setCells (w.heap.size+1) 0 (vf Fx.no)):=fun o=>zax (w:=(c.alloc o).drew) (vp (w:=(c.alloc o).drew) (xs:=Fx.no) (zj q) Fx.no_ok) Fx.no_ok.len (zcl Fx.no_ok.2);have t:(c.drew.setCells (w.heap.size+1) 0 (vf Fx.no)).cell? ⟨6,0,none⟩=some (.iface 364 (.pointer (some (m 5)))):=by
     have h1:(6:Nat) < z.heap.size:=yg HS.o.tile;have h2:=Y.o.size;have h3:(6:Nat)≠w.heap.size+1:=by omega
     rw [zb7 (w:=c) (zar (w:=c.drew) (vf Fx.no) 0 h3)];exact aq
    have D:=zf q;clear q
    go_region
    ·have a:=zf (zz4 (P:=(.cells #[.string ⟨pn.toArray⟩,.iface 364 (.pointer (some (m 5)))] 179)) s.o.1 s.o.2.1 D.o);clear H I t G;go_wp2_with fail;refine z8 (v:= .tuple #[.agg (vf Fx.no).toArray,za7 (c.heap.size)]) (qa results222 _ _ (w.heap.size+1) xg _ (0,0) _ rfl a.o.2.2.1 underlying154 rfl (by rw [zcs,xf,Fx.no_ok.len]) _ rfl) rfl ⟨a.o.1,by rw [i.o];exact a.o.2.1,?_⟩;rw [i.o,E.o];exact .inr ⟨rfl,_,M.o,a.o.2.2.2,rfl⟩
    ·have a:=zf (zz5 (P:=(.cells #[.string ⟨pn.toArray⟩,.iface 364 (.pointer (some (m 5)))] 179)) s.o.1 s.o.2.1 D.o);clear H I t G;go_wp2_with fail;refine z8 (v:= .tuple #[.agg (vf Fx.no).toArray,za7 ((c.drew.setCells (w.heap.size+1) 0 (vf Fx.no)).heap.size)]) (qa results222 _ _ (w.heap.size+1) xg _ (0,0) _ rfl a.o.2.2.1 underlying154 rfl (by rw [zcs,xf,Fx.no_ok.len]) _ rfl) rfl ⟨a.o.1,by rw [i.o];exact a.o.2.1,?_⟩;rw [i.o,E.o];exact .inr ⟨rfl,_,by rw [zdu];exact M.o,a.o.2.2.2,rfl⟩
end
section
open Go.RowKit Go.Extern.Stop Go.Stop Go.Extern
abbrev tyP (t:Nat):Value:= .pointer (some ⟨16,t,none⟩)
abbrev tyV (t:Nat):Value:= .iface 295 (.agg #[tyP t])
theorem yez (v:Value)(w:World):(ReflectliteType.typeOf #[.iface 364 v]).run prog w= .ok (tyV 364) w:=by kernel_rfl
theorem zuk (n:Nat)(v:Value)(w:World):(Go.method (n+1) 295 v "Comparable").run prog w= .ok (286,v) w:=by kernel_rfl
theorem z33 (n:Nat)(v:Value)(w:World):(Go.method (n+1) 177 v "Unwrap").run prog w= .ok (280,v) w:=by kernel_rfl
theorem z7v (v:Value)(a:TypeId)(w:World):(Instr.typeAssert (.iface 177 v) a 297 true).run prog w= .ok (.tuple #[.nilIface,.bool false]) w:=run_typeAssert_lacksB underlying297 (by kernel_rfl) (by kernel_rfl) v a w
theorem zuh (v:Value)(a:TypeId)(w:World):(Instr.typeAssert (.iface 177 v) a 300 true).run prog w= .ok (.tuple #[.iface 177 v,.bool true]) w:=run_typeAssert_hasB underlying300 (by kernel_rfl) v a w
end
section
open Go.RowKit Go.Extern.Stop Go.Stop Go.Extern
theorem yf2 (w:World):(callFunc 286 #[.agg #[tyP 364]]).run prog w= .ok (.value (.bool true)) w:=by kernel_rfl
theorem z00 (c:Nat)(b:Addr)(w:World)(k:w.cell? ⟨c,1,none⟩=some (.iface 364 (.pointer (some b)))):
  Calls prog 86 #[.iface 177 (.pointer (some ⟨c,0,none⟩)),.iface 364 (.pointer (some b))] w fun e h=>e= .returned (.bool true)∧h=w:=by
 obtain⟨i,d,a⟩:=zz.1 zj8;obtain⟨j,f,g⟩:=zz.1 zkf;have l:=@run_callFunc_extern prog 122 _ ReflectliteType.typeOf func122 (by kernel_rfl) (by kernel_rfl) (by kernel_rfl) (by kernel_rfl);have m:=yez;have n:=yf2;have o:=zuk;have p:=z7v;have q:=zuh;have r:=z33;have s:=zch (P:=prog) w b underlying102 underlying364 d a f;have t:=run_eql_iface_types (P:=prog) 177 364 (.pointer (some ⟨c,0,none⟩)) (.pointer (some b)) underlying102 (by decide) w;go_enter func86,ntmps86
 go_wp2
 refine zd8 2 ?_;rw [xo]
 go_wp2
 rw [xo]
 go_wp2
 go_ret;exact⟨rfl,rfl⟩
end
section
open Go.RowKit Go.Extern.Stop Go.Stop Go.Extern
theorem ynd (b:Addr)(w:World):
  Calls prog 86 #[.nilIface,.iface 364 (.pointer (some b))] w fun e a=>e= .returned (.bool false)∧a=w:=by
 have y:(binOp .eql 102 .nilIface (.iface 364 (.pointer (some b)))).run prog w= .ok (.bool false) w:=by kernel_rfl
 go_enter func86,ntmps86
 go_wp2
 go_ret;exact⟨rfl,rfl⟩
end
variable {fb k:Nat}
abbrev yc6:Array Value:=#[.bool false,.bool false,.int .u8 0,.int .u8 0,.int .u8 0,.int .u8 0,.int .u8 0,.int .u8 0,.int .u8 0,.int .u8 0,.slice none 0 0]
theorem ynw:(Builtin.zeroCells yc6 0).toList=vf (List.replicate 0 Px.no):=by kernel_rfl
theorem ynx:(Builtin.zeroCells yc6 1).toList=vf (List.replicate 1 Px.no):=by kernel_rfl
theorem yny:(Builtin.zeroCells yc6 2).toList=vf (List.replicate 2 Px.no):=by kernel_rfl
theorem ynz:(Builtin.zeroCells yc6 3).toList=vf (List.replicate 3 Px.no):=by kernel_rfl
theorem yom (n:Nat)(a:n < 4):(Builtin.zeroCells yc6 n).toList=vf (List.replicate n Px.no):=by
 match n,a with
 | 0,_=>exact ynw
 | 1,_=>exact ynx
 | 2,_=>exact yny
 | 3,_=>exact ynz
theorem z8w (n:Nat):∀ x∈List.replicate n Px.no,x.ok:=fun x a=>by rw [List.eq_of_mem_replicate a];exact Px.no_ok
theorem yu.there' {a:List Px}(h:yu w fb a)(c:FOk a)(j:Nat)(b:j < 44):(w.cell? ⟨fb,j,none⟩).isSome=true∧w.frozen? ⟨fb,j,none⟩=false:=by
 have:=vp h c j b
 rwa [xk] at this
theorem ybs {r:List Px}(f:FOk r)(h0:0 < k)(E:k < 4)(h:yu w fb r)(c:Nat)(z:TypeId):
  (Builtin.clear_ #[346] z #[.slice (some ⟨fb,k*11,none⟩) (4 - k) c]).run prog w= .ok (.tuple #[]) (w.setCells fb (k*11) (vf (List.replicate (4 - k) .no))) ∧
  yu (w.setCells fb (k*11) (vf (List.replicate (4 - k) .no))) fb (r.take k++List.replicate (4 - k) .no):=by
 have s:(vf (List.replicate (4 - k) Px.no)).length=11*(4 - k):=by rw [zpo (z8w _),List.length_replicate]
 have l:=run_storeCells_cells (P:=prog) fb (k*11) (vf (List.replicate (4 - k) .no)) 0 w
  (fun j u=>by rw [zky];exact(h.there' f _ (by omega)).1)
  (fun j u=>by rw [zky];exact(h.there' f _ (by omega)).2)
  (zcl (z8w _))
 simp only [zky] at l;have t:(Builtin.zeroCells yc6 (4 - k)).toList=vf (List.replicate (4 - k) Px.no):=yom (4 - k) (by omega);obtain⟨m,v⟩:∃ m,4 - k=m+1:=⟨3 - k,by omega⟩;refine⟨?_,?_⟩
 ·rw [v] at l t ⊢;simp [Builtin.clear_,zcu underlying346,Value.cells];rw [t,l]
  rfl
 ·unfold yu;rw [zfs _ _ h (by rw [s,f.len];omega),s];congr 3;obtain⟨a,b,i,d,rfl⟩:=zmi f.1;have A:=Px.cs_len (f.2 a (by simp));have B:=Px.cs_len (f.2 b (by simp));have C:=Px.cs_len (f.2 i (by simp));have D:=Px.cs_len (f.2 d (by simp));have x:∀(g n:List Px),(∀ y∈g,y.ok)→(vf (g++n)).take (g.length*11)=vf g:=fun g n q=>by
   have:vf (g++n)=vf g++vf n:=by simp [vf]
   rw [this,show g.length*11=(vf g).length by rw [zpo q];omega,zob]
  have o:(vf [a,b,i,d]).drop (k*11+11*(4 - k))=[]:=List.drop_eq_nil_of_le (by rw [f.len];omega);have p:vf ([a,b,i,d].take k++List.replicate (4 - k) Px.no)=vf ([a,b,i,d].take k)++vf (List.replicate (4 - k) Px.no):=by simp [vf]
  have e:=x ([a,b,i,d].take k) ([a,b,i,d].drop k) (fun y q=>f.2 y (qh q));rw [List.take_append_drop,show([a,b,i,d].take k).length=k by simp;omega] at e;rw [o,p,e];simp
section
attribute [local go_sem ↓] jy jn j4 jo ji jh j3 jm
theorem zqx {σ:Type}{fe:σ→zc→(zc×Bool)×σ}{s:σ}{p:Pl}{f:Fl}(h:(j7 fe s p).1=some f):zb0 fe s p=(some f,(j7 fe s p).2):=by
 unfold zb0;split
 ·rename_i b a e;rw [e] at h ⊢;exact Prod.ext h rfl
 ·rename_i a e;rw [e] at h;simp at h
theorem zop {σ:Type}{fe:σ→zc→(zc×Bool)×σ}{s:σ}{p:Pl}(h:(j7 fe s p).1=none)(a:p.2.2=4):zb0 fe s p=(none,(j7 fe s p).2):=by
 unfold zb0;split
 ·rename_i c b e;rw [e] at h;simp at h
 ·rename_i b e;rw [e,if_pos a]
theorem zqw {σ:Type}{fe:σ→zc→(zc×Bool)×σ}{s:σ}{p:Pl}(h:(j7 fe s p).1=none)(b:p.2.2≠4):
  zb0 fe s p=(((j7 fe (j7 fe s p).2 (p.1,p.2.1,4)).1).map (znw p.2.2),(j7 fe (j7 fe s p).2 (p.1,p.2.1,4)).2):=by
 unfold zb0;split
 ·rename_i d c e;rw [e] at h;simp at h
 ·rename_i c e;rw [e,if_neg b];simp only;split
  ·rename_i a;rw [a];rfl
  ·rename_i a;rw [a];rfl
theorem yks {m:List Px}{f:Fl}(h:zdj w m f)(q:k≤4):zdj w (m.take k++List.replicate (4 - k) .no) (znw k f):=by
 obtain⟨r,o,g⟩:=h;obtain⟨a,b,c,d,rfl⟩:=zmi r;obtain⟨s,t,u,v,rfl⟩:=zmi o;have h0:=g 0 (by omega);have i:=g 1 (by omega);have l:=g 2 (by omega);have n:=g 3 (by omega);have e:=zji.none w;refine⟨by simp;omega,by simp [znw];omega,fun j p=>?_⟩
 match k,q,j,p with
 | 0,_,0,_ | 0,_,1,_ | 0,_,2,_ | 0,_,3,_=>exact e
 | 1,_,0,_=>exact h0
 | 1,_,1,_ | 1,_,2,_ | 1,_,3,_=>exact e
 | 2,_,0,_=>exact h0
 | 2,_,1,_=>exact i
 | 2,_,2,_ | 2,_,3,_=>exact e
 | 3,_,0,_=>exact h0
 | 3,_,1,_=>exact i
 | 3,_,2,_=>exact l
 | 3,_,3,_=>exact e
 | 4,_,0,_=>exact h0
 | 4,_,1,_=>exact i
 | 4,_,2,_=>exact l
 | 4,_,3,_=>exact n
end
variable {fs':Fs}
def zf1 (fs:Fs)(es:za)(a:Nat):Prop:=∀ f∈j8 (es.take a),je fs f.1=some f.2
theorem zq2 (fs:Fs)(n:Nt)(h:n.lies=[])(p:zc):yz fs n p=(match je fs p with
 | some d=>((d,true),{ n with fetches:=n.fetches+1 })
 | none=>(([],false),{ n with fetches:=n.fetches+1 })):=by
 unfold yz;have:zk4 n p=none:=by unfold zk4;rw [h];rfl
 simp only [this];cases je fs p<;>rfl
theorem zh6 (fs:Fs)(n:Nt)(p:zc):(yz fs n p).2.fetches=n.fetches+1:=by
 unfold yz;split
 ·rfl
 ·split<;>rfl
theorem z5o (fs:Fs):zvf (yz fs) (fun n=>n.lies=[]) (je fs):=by
 refine⟨fun n p h=>?_,fun n p h=>?_⟩
 ·rw [zq2 fs n h];cases je fs p<;>rfl
 ·rw [zq2 fs n h];cases je fs p<;>exact h
theorem z0a {fs:Fs}{es:za}{a:Nat}(f:∀ e∈es,e.length≤20)(b:a≤es.length)(i:a < 4 ^ 21)(h:zf1 fs es a):Tru (yz fs) (fun n=>n.lies=[]) (je fs) es a:=by
 have g:a < 2 ^ 63:=zx i (by decide);refine⟨z5o fs,f,b,g,fun l j w q t e=>?_⟩;have c:(es.take a).length=a:=by simp;omega
 have o:l≤20:=by
  rcases Int.lt_or_le 20 l with k | k
  ·exfalso;have r:4 ^ 21≤4 ^ l.toNat:=js (by omega) (by omega);have s:qg l a=0:=by unfold qg;exact zet (by omega)
   omega
  ·exact k
 have m:wid (qg l a) (j / 4)=w:=by
  unfold zv at e;simp only [ye,zxw] at e;unfold wid;omega
 have p:4*(j / 4)+w≤qg l a:=by unfold wid at m;omega
 have d:zgr (es.take a) l (qg l a) (j / 4)∈j8 (es.take a):=by
  rw [zei,c];exact⟨l,j / 4,⟨q,o⟩,by omega,rfl⟩
 have:=h _ d;unfold zgr at this;simp only at this;rw [m,ztz es a l (j / 4) w p b] at this;rw [e];exact this
theorem zf1.went {es more:za}{a:Nat}{fs:Fs}{W:Fs}{c:zc}(h:zf1 fs es a)(e:zk0 W c fs fs')(d:a≤es.length):zf1 fs' (es++more) a:=by
 intro f b;rw [vh d] at b;refine e.stays (h f b) ?_;obtain⟨l,j,-,-,rfl⟩:=zei.1 b;exact zwj
def zmv (fs:Fs)(es:za):Prop:=∀ q x,je fs q=some x→q=cpF∨∃ n,n≤es.length∧(q,x)∈j8 (es.take n)
theorem zmv.more {fs:Fs}{es:za}(h:zmv fs es)(a:za):zmv fs (es++a):=by
 intro q x d;rcases h q x d with h | ⟨n,b,c⟩
 ·exact .inl h
 ·exact .inr ⟨n,by simp;omega,by rw [vh b];exact c⟩
theorem zmv.went {fs:Fs}{es:za}{c:zc}(h:zmv fs es)(f:zk0 (j8 es) c fs fs'):zmv fs' es:=by
 intro q x b;rcases f q with a | ⟨a,d⟩ | a
 ·rw [a] at b;exact h q x b
 ·obtain⟨y,g,e⟩:=d;rw [b] at e;simp only [zr] at e;exact .inr ⟨es.length,zm _,by rw [jg,e];exact g⟩
 ·exact .inl a.1
theorem zmv.noClash {fs:Fs}{es:za}(h:zmv fs es)(o:es.length≤1000000):zgk fs (j8 es):=by
 intro q x i;cases r:je fs q with
 | none=>exact .inl rfl
 | some y =>
  right
  rcases h q y r with rfl | ⟨n,p,s⟩
  ·exact absurd i ((ztp o).2 x)
  ·obtain⟨l,j,k,m,d⟩:=zei.1 i;obtain⟨u,t,g,b,a⟩:=zei.1 s;unfold zgr at d a;simp only [ye] at d a;have c:(es.take n).length=n:=by simp;omega
   rw [c] at b a;have v:=zlo l es.length;have w:=zlo u n;obtain⟨rfl,z,A⟩:=zze (zme k m) (zme g b) (by omega) (by omega) (d.1.symm.trans a.1);have e:j=t:=by omega
   subst e;have f:wid (qg l es.length) j=wid (qg l n) j:=by omega
   rw [d.2,a.2,f,ztz es n l j _ (by unfold wid;omega) p]
end Go.Proofs.YtlcllcgngjhoaaaGreatDoor
