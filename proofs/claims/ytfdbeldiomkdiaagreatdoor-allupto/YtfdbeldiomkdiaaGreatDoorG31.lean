import Derived.Test.YtfdbeldiomkdiaaGreatDoorG30
set_option maxHeartbeats 8000000
set_option maxRecDepth 100000
set_option linter.all false
namespace Go.Proofs.YtfdbeldiomkdiaaGreatDoor
open Go.RowKit Go.Proofs.Tryz
variable {v:Value}{w w':World}{xs:List Px}
section
attribute [local go_sem ↓] j9 jx ve jy ju jt vd jw
def MW.all {o:Option Fl}{r:Ending}(h:MW w' o r):∃a,FR a/\r=.returned (.tuple #[.agg (Cc a).toArray,.bool o.isSome])/\∀f,o=some f->C8 w' a f:=by
 rcases h with ⟨a,f,rfl,b,d,rfl⟩|⟨rfl,a,b,rfl⟩
 ·exact⟨a,b,rfl,λc e=>by rw[<- qj e];exact d⟩
 ·exact⟨a,b,rfl,λc e=>by simp at e⟩
def MW.mk {o:Option Fl}(a:FR xs)(b:∀f,o=some f->C8 w' xs f):MW w' o (.returned (.tuple #[.agg (Cc xs).toArray,.bool o.isSome])):=by
 cases o with
 |none=>exact .inr ⟨rfl,xs,a,rfl⟩
 |some f=>exact .inl ⟨xs,f,rfl,a,b f rfl,rfl⟩
def JY.below {x:Option (zb)}(h:JY w v x)(a:zc w w'):JY w' v x:=by
 rcases h with ⟨d,rfl,b⟩|⟨rfl,rfl⟩
 ·exact .inl ⟨d,rfl,b.below a⟩
 ·exact .inr ⟨rfl,rfl⟩
def zda (l q:Int)(n:Nat)(D:0<n)(J:n<=4)(v:Value)(x:Option (zb))(w:World)(h:JY w v x):
  Calls prog 299 #[Fc (l,q,n),v] w λr G=>zc w G/\MW G (FQ l n (x.getD [])) r:=by
 unfold Fc;simp only;have d:Hid (zc w ((w.alloc (.cells #[.int .i64 l,.int .i64 q,.int .i64 n] 215)).alloc (.cells Cz qo))/\xy ((w.alloc (.cells #[.int .i64 l,.int .i64 q,.int .i64 n] 215)).alloc (.cells Cz qo)) (w.heap.size+1) Fx.no):=by
  refine⟨qg _ _ _,?_⟩;have:=zf (w.alloc (.cells #[.int .i64 l,.int .i64 q,.int .i64 n] 215)) (.cells Cz qo);rw[show(w.alloc (.cells #[.int .i64 l,.int .i64 q,.int .i64 n] 215)).heap.size=w.heap.size+1 by simp]at this;exact this
 have H:=ze h
 by_cases C:l=-1
 ·subst C;have t:=ze (WR n v x _ (H.o.below d.o.1));go_enter func299,ntmps299;go_wp2_with fail;refine t.o.mono ?_;rintro r i ⟨c,A⟩;obtain⟨m,g,rfl,B⟩:=A.all;have k:=d.o.1.trans (c.mono d.o.1.size);have a:xy i (w.heap.size+1) Fx.no:=(c.block _ (zg d.o.2)).trans d.o.2;have F:=Co (BO a Fx.aq) g.len (DE g.2);have z:=ze (BP a Fx.aq g);have s:=ze (xo k (Ar w.heap.size) (Cc m) 0);have j:Hid (zl (λb=>b=w.heap.size+1) [qo] i (i.setCells (w.heap.size+1) 0 (Cc m))):=ze ((zl.refl (λb=>b=w.heap.size+1) [qo] i).setCells (.inl rfl) a (by simp) _ _);have u:=ze B;have p:=ze g;generalize E:FQ (-1) n (x.getD [])=o at *;have y:=ze E;go_wp2_with fail;exact zv (v:=.tuple #[.agg (Cc m).toArray,.bool o.isSome]) (vb results299 _ _ (w.heap.size+1) qo _ (0,0) _ rfl z.o underlying219 rfl (by rw[Ds,ql,p.o.len]) _ rfl) rfl ⟨s.o,by rw[y.o];exact MW.mk p.o (λf e=>(u.o f e).aj j.o (by decide))⟩
 ·have I:(l==-1)=false:=by simp[C]
  have t:=ze (UC n D J l C v x _ (H.o.below d.o.1));go_enter func299,ntmps299;go_wp2_with fail;refine t.o.mono ?_;rintro r i ⟨c,A⟩;obtain⟨m,g,rfl,B⟩:=A.all;have k:=d.o.1.trans (c.mono d.o.1.size);have a:xy i (w.heap.size+1) Fx.no:=(c.block _ (zg d.o.2)).trans d.o.2;have F:=Co (BO a Fx.aq) g.len (DE g.2);have z:=ze (BP a Fx.aq g);have s:=ze (xo k (Ar w.heap.size) (Cc m) 0);have j:Hid (zl (λb=>b=w.heap.size+1) [qo] i (i.setCells (w.heap.size+1) 0 (Cc m))):=ze ((zl.refl (λb=>b=w.heap.size+1) [qo] i).setCells (.inl rfl) a (by simp) _ _);have u:=ze B;have p:=ze g;generalize E:FQ l n (x.getD [])=o at *;have y:=ze E;go_wp2_with fail;exact zv (v:=.tuple #[.agg (Cc m).toArray,.bool o.isSome]) (vb results299 _ _ (w.heap.size+1) qo _ (0,0) _ rfl z.o underlying219 rfl (by rw[Ds,ql,p.o.len]) _ rfl) rfl ⟨s.o,by rw[y.o];exact MW.mk p.o (λf e=>(u.o f e).aj j.o (by decide))⟩
end
variable {O:Nat->Prop}{T:List Nat}
section
attribute [local go_sem ↓] j9 jx ve jy ju jt vd jw
structure NOk (d:Dk)(n:Nt):Prop where
 nf:d.fs.length<=1000000000
 fl:∀f∈d.fs,f.2.length<=1000000000
 ly:∀l∈n.ao,l.data.length<=1000000000/\l.aH=false/\l.times=0
 ll:n.ao.length<=1000000000
 fe:0<=n.ai/\n.ai<4611686018427387904
 td:∀t∈n.told,0<=t/\t<4611686018427387904
def znx (b:World)(f:Fl)(r:Ending):Prop:=∃a,FR a/\C8 b a f/\r=.returned (.tuple #[.agg (Cc a).toArray,.nilIface])
def zl.aB {a:World}(h:zl O T a w){b:Nat}(i:a.heap.size<=b)(c:List Value)(o:Nat):zl O T a (w.setCells b o c):=by
 obtain⟨e,f,g⟩:=Jv (w:=w) (b:=b) c o;exact⟨e.trans h.os,f.trans h.tape,g.trans h.output,by rw[DY];exact h.size,λk d=>by
  rw[Br c o (by omega)];exact h.block k d⟩
def Yp (W0:World)(O:Nat->Prop)(Z X W:Nat)(n:Nt)(d:Dk)(l a:Int)(k:Nat)(ai:0<k)(hk:k<=4)(ag:a<=9223372036854775807)(w:World)(hW:zc W0 w)(hE:DW W0)
 (hO:∀b,O b->W0.heap.size<=b) (P:NOk d n) (hD:ym w O X d) (hN:De w O Z X n) (hc:w.cell? ⟨W,2,none⟩=some (QM Z)) (f:Fl) (hp:(B0 (qr d.fs) n (l,a,(k:Int))).1=some f) :
  Calls prog 294 #[yu W,Fc (l,a,k)] w λr w'=>zl O nT w w'/\De w' O Z X (B0 (qr d.fs) n (l,a,k)).2/\znx w' f r:=by
 have F:Hid (B0 (qr d.fs) n (l,a,(k:Int))=(if (qr d.fs n (qz l a k)).1.2 then FQ l k (qr d.fs n (qz l a k)).1.1 else none,(qr d.fs n (qz l a k)).2)):=rfl;unfold Fc;simp only;have t:Hid (zc w ((w.alloc (.cells #[.int .i64 l,.int .i64 a,.int .i64 k] 215)).alloc (.cells Cz qo))/\((w.alloc (.cells #[.int .i64 l,.int .i64 a,.int .i64 k] 215)).alloc (.cells Cz qo)).heap[w.heap.size]?=some (.cells #[.int .i64 l,.int .i64 a,.int .i64 k] 215 (0,0))/\xy ((w.alloc (.cells #[.int .i64 l,.int .i64 a,.int .i64 k] 215)).alloc (.cells Cz qo)) (w.heap.size+1) Fx.no):=by
  refine⟨qg _ _ _,zr (zf _ _),?_⟩;have:=zf (w.alloc (.cells #[.int .i64 l,.int .i64 a,.int .i64 k] 215)) (.cells Cz qo);rw[show(w.alloc (.cells #[.int .i64 l,.int .i64 a,.int .i64 k] 215)).heap.size=w.heap.size+1 by simp]at this;exact this
 have HW:=ze hW;have V:=ze hE;have HO:=ze hO;have e:=ze P;have HD:=ze hD;have HN:=ze hN;have HC:=ze hc;have HP:=ze hp;clear hW hE hO P hD hN hc hp;unfold yu;go_enter func294,ntmps294;go_wp2_with fail;generalize (w.alloc (.cells #[.int .i64 l,.int .i64 a,.int .i64 k] 215)).alloc (.cells Cz qo)=W1 at *;have J:=HW.o.trans (t.o.1.mono HW.o.size);refine(Iv l a k ag W1 (V.o.below J)).mono ?_;rintro r w1 ⟨rfl,j⟩;have i:=t.o.1.trans (j.mono t.o.1.size);have ab:=ze i;have E:Hid (w1.heap[w.heap.size]?=some (.cells #[.int .i64 l,.int .i64 a,.int .i64 k] 215 (0,0))/\xy w1 (w.heap.size+1) Fx.no):=⟨(j.block _ (zg t.o.2.1)).trans t.o.2.1,(j.block _ (zg t.o.2.2)).trans t.o.2.2⟩;have HF:=ze (Qo O Z X W n d (qz l a k) w1 e.o.nf e.o.fl e.o.ly e.o.ll e.o.fe e.o.td (HD.o.stay (O1:=λ_=>False) (T:=[]) (.aa i) (by simp) (by simp)) (HN.o.below i) (by rw[i.cell (p:=⟨W,2,none⟩) (yf HC.o)];exact HC.o));clear i j J t;unfold yu qy at HF;generalize qz l a k=pn at *;rw[F.o]at HP;generalize qr d.fs n pn=N at *;obtain⟨⟨af,ok⟩,n'⟩:=N;simp only at *;cases ok with
 |false=>exact nomatch HP.o
 |true =>
  go_wp2_with fail;refine HF.o.mono ?_;rintro r w2 ⟨v,x,rfl,s,I,M,Q⟩;have q:=s.keep E.o.1 (by decide);have L:=s.keep E.o.2 (by decide);have p0:=(zm q 0 _ rfl).1;have p1:=(zm q 1 _ rfl).1;have p2:=(zm q 2 _ rfl).1;have g:=ze (zda l a k ai hk v x w2 M);have G:=ze (((zl.aa ab.o).trans (s.mono (λ_ h=>.inl h) (λ_ h=>h))));have D:=ze I;have u:=ze L;rw[Q]at g;unfold Fc at g;simp only at g;clear s I M Q q L HF;go_wp2_with fail;refine g.o.mono ?_;rintro r S ⟨z,K⟩;obtain⟨U,c,rfl,R⟩:=K.all;generalize FQ l k af=o at *;obtain rfl:o=some f:=HP.o;have B:xy (S.alloc (.cells Cz qo)) S.heap.size Fx.no:=zf _ _;have ak:=Co (BO B Fx.aq) c.len (DE c.2);have C:=ze (BP B Fx.aq c);have A:zc S ((S.alloc (.cells Cz qo)).setCells S.heap.size 0 (Cc U)):=xo (zi _ _) (zk _) _ _;have Y:=z.trans (A.mono z.size);have m:xy _ (w.heap.size+1) Fx.no:=(Y.block _ (zg u.o)).trans u.o;have am:=Es (vv C.o) c.len;have al:=Co (BO m Fx.aq) c.len (DE c.2);have ae:=ze (BP m Fx.aq c);have ad:=ze ((G.o.ah Y).aB (Ar w.heap.size) (Cc U) 0);have y:=(zl.refl (λb=>b=w.heap.size+1) [qo] _).setCells (.inl rfl) m (by simp) (Cc U) 0;have V:=ze (And.intro ((D.o.below Y).aj y (by decide) (by decide) (by decide)) (((R f rfl).below A).aj y (by decide)));have H:=ze c;clear K R c B z A Y m y g G D u C;go_wp2_with fail;exact zv (v:=.tuple #[.agg (Cc U).toArray,.nilIface]) (vb results294 _ _ (w.heap.size+1) qo _ (0,0) _ rfl ae.o underlying219 rfl (by rw[Ds,ql,H.o.len]) _ rfl) rfl ⟨ad.o,by rw[F.o];exact V.o.1,U,H.o,V.o.2,rfl⟩
end
section
open Go.RowKit Go.Extern.Stop Go.Stop Go.Extern
def znd (b:Addr)(w:World):
  Calls prog 113 #[.nilIface,.iface 392 (.pointer (some b))] w λe a=>e=.returned (.bool false)/\a=w:=by
 have y:(binOp .eql 100 .nilIface (.iface 392 (.pointer (some b)))).run prog w=.ok (.bool false) w:=by kernel_rfl
 go_enter func113,ntmps113
 go_wp2
 go_ret;exact⟨rfl,rfl⟩
end
variable {d:Dk}
section
attribute [local go_sem ↓] j9 jx ve jy ju jt vd jw
structure NSt (d:Dk)(n:Nt):Prop where
 nf:d.fs.length<=1000000000
 fl:∀f∈d.fs,f.2.length<=1000000000
 ly:∀l∈n.ao,l.data.length<=1000000000/\l.aH=false/\l.times=0
 ll:n.ao.length<=1000000000
 fe:0<=n.ai
 td:∀t∈n.told,0<=t/\t<=n.ai
def NSt.ok {n:Nt}(h:NSt d n)(b:n.ai<4611686018427387904):NOk d n:=
 ⟨h.nf,h.fl,h.ly,h.ll,⟨h.fe,b⟩,λt a=>⟨(h.td t a).1,by have:=(h.td t a).2;omega⟩⟩
def NSt.step {n:Nt}(h:NSt d n)(p:zb):NSt d (qr d.fs n p).2:=by
 have c:=h.fe;unfold qr;split
 ·rename_i k f;refine⟨h.nf,h.fl,h.ly,h.ll,by show 0<=n.ai+1;omega,λt a=>?_⟩;simp only at a ⊢;rcases List.mem_or_eq_of_mem_set a with a|rfl
  ·have:=h.td t a;omega
  ·have e:0<=n.told.getD k 0/\n.told.getD k 0<=n.ai:=by
    by_cases b:k<n.told.length
    ·rw[zj,zo b];exact h.td _ (ye b)
    ·rw[zj,Bc (by omega)];exact⟨Qc _,c⟩
   omega
 ·split
  ·exact⟨h.nf,h.fl,h.ly,h.ll,by show 0<=n.ai+1;omega,λt a=>by have:=h.td t a;show 0<=t/\t<=n.ai+1;omega⟩
  ·exact⟨h.nf,h.fl,h.ly,h.ll,by show 0<=n.ai+1;omega,λt a=>by have:=h.td t a;show 0<=t/\t<=n.ai+1;omega⟩
def NSt.place {n:Nt}(h:NSt d n)(p:Pl):NSt d (B0 (qr d.fs) n p).2:=h.step _
def zc3 (a:Fs)(n:Nt)(p:Pl):(B0 (qr a) n p).2.ai=n.ai+1:=F8 a n _
abbrev Bd:Nat:=231
def zbq (B:World)(p:Nat->Addr)(O:Nat->Prop)(J H Q:Nat)(n:Nt)(d:Dk)(l e:Int)(k:Nat)(U:0<k)(hk:k<=4)(T:e<=9223372036854775807)(w:World)(I:zc B w)(hE:DW B)(hS:vj B p)
 (S:∀b,O b->B.heap.size<=b) (F:NOk d n) (Z:ym w O H d) (R:De w O J H n) (C:Array Value) (hc:w.heap[Q]?=some (.cells C Bd (0,0))) (Y:C[2]?=some (QM J)) (f:Fl) (hp:(B0 (qr d.fs) n (l,e,(k:Int))).1=some f) :
  Calls prog 277 #[yu Q,Fc (l,e,k)] w λr V=>zl O nT w V/\De V O J H (B0 (qr d.fs) n (l,e,k)).2/\znx V f r:=by
 have A:Hid (zc w ((w.alloc (.cells #[.int .i64 l,.int .i64 e,.int .i64 k] 215)).alloc (.cells Cz qo))/\((w.alloc (.cells #[.int .i64 l,.int .i64 e,.int .i64 k] 215)).alloc (.cells Cz qo)).heap[w.heap.size]?=some (.cells #[.int .i64 l,.int .i64 e,.int .i64 k] 215 (0,0))/\xy ((w.alloc (.cells #[.int .i64 l,.int .i64 e,.int .i64 k] 215)).alloc (.cells Cz qo)) (w.heap.size+1) Fx.no):=by
  refine⟨qg _ _ _,zr (zf _ _),?_⟩;have:=zf (w.alloc (.cells #[.int .i64 l,.int .i64 e,.int .i64 k] 215)) (.cells Cz qo);rw[show(w.alloc (.cells #[.int .i64 l,.int .i64 e,.int .i64 k] 215)).heap.size=w.heap.size+1 by simp]at this;exact this
 have X:=ze I;have HS:=ze hS;have HO:=ze S;have HN:=ze R;have q:zl O nT w _:=.aa A.o.1;have K:=ze (Yp B O J H Q n d l e k U hk T _ (I.trans (A.o.1.mono I.size)) hE S F (Z.stay q (by decide) (by decide)) (R.below A.o.1) (zm (q.keep hc (by decide)) 2 _ Y).1 f hp);clear I hE hS S F Z R hc Y q;unfold Fc yu at K ⊢;simp only at K ⊢;go_enter func277,ntmps277;go_wp2_with fail;generalize (w.alloc (.cells #[.int .i64 l,.int .i64 e,.int .i64 k] 215)).alloc (.cells Cz qo)=W1 at *;refine K.o.mono ?_;rintro r m ⟨j,D,z,c,G,rfl⟩;have t:=X.o.trans (A.o.1.mono X.o.size);have u:=t.trans (j.below HO.o t.size);have y:xy (m.alloc (.cells Cz qo)) m.heap.size Fx.no:=zf _ _;have ab:=Co (BO y Fx.aq) c.len (DE c.2);have L:=ze (BP y Fx.aq c);have a:zc m ((m.alloc (.cells Cz qo)).setCells m.heap.size 0 (Cc z)):=xo (zi _ _) (zk _) _ _;have ae:((m.alloc (.cells Cz qo)).setCells m.heap.size 0 (Cc z)).cell? ⟨6,0,none⟩=some (.iface 392 (.pointer (some (p 5)))):=(HS.o.below (u.trans (a.mono u.size))).br;have x:=j.keep A.o.2.2 (by decide);have i:xy _ (w.heap.size+1) Fx.no:=(a.block _ (zg x)).trans x;have E:=(((zl.aa A.o.1).trans (j.mono (λ_ h=>.inl h) (λ_ h=>h))).ah a);have P:=ze (BP i Fx.aq c);have N:=ze (E.aB (Ar w.heap.size) (Cc z) 0);have s:=(zl.refl (λb=>b=w.heap.size+1) [qo] _).setCells (.inl rfl) i (by simp) (Cc z) 0;have W:=ze (And.intro ((D.below a).aj s (by decide) (by decide) (by decide)) ((G.below a).aj s (by decide)));have M:=ze i;have g:=ze c;clear j D G c y a x i E s t u;go_wp2_with fail;generalize (m.alloc (.cells Cz qo)).setCells m.heap.size 0 (Cc z)=W5 at *;have af:=Es (vv L.o) g.o.len;have ad:=Co (BO M.o Fx.aq) g.o.len (DE g.o.2);refine(znd (p 5) W5).mono ?_;rintro r w6 ⟨rfl,rfl⟩;go_wp2_with fail;exact zv (v:=.tuple #[.agg (Cc z).toArray,.nilIface]) (vb results277 _ _ (w.heap.size+1) qo _ (0,0) _ rfl P.o underlying219 rfl (by rw[Ds,ql,g.o.len]) _ rfl) rfl ⟨N.o,W.o.1,z,g.o,W.o.2,rfl⟩
def TQ (a:Fs)(size:Nat):Prop:=∀(n:Nt) (l:Int) (j:Nat),n.ao=[]->-1<=l->j<qx l size->∃f,(B0 (qr a) n (yd size l j)).1=some f
def Tru.has {a:Fs}{b:za}{size:Nat}(h:Tru (qr a) (λn=>n.ao=[]) (xr a) b size):TQ a size:=λn l j g d c=>by
 obtain⟨f,e,-⟩:=h.file l d j c;exact⟨f,(h.bE.place g _).1.trans e⟩
section
variable {σ:Type}{fe:σ -> zb -> (zb × Bool) × σ}{I:σ -> Prop}{pr:Mm}{size:Nat}
def QK (b:∀s p,I s->I (fe s p).2){m:Ms σ}(h:I m.al)(l:Int)(j:Nat):I (BI fe pr size m l j).2.al:=by
 unfold BI;split
 ·exact h
 ·have a:I (B0 fe m.al (yd size l j)).2:=b _ _ h;split<;>rename_i e<;>rw[e]at a<;>exact a
def Kz (d:∀s p,I s->I (fe s p).2):∀(f:Nat) (m:Ms σ) (a n:Nat),I m.al->I (AE fe pr size f m a n).2.al
 |0,_,_,_,h=>h
 |f+1,m,a,n,h=>by
  unfold AE;split
  ·have b:=QK (pr:=pr) (size:=size) d h (Bg n:Nat) (a/4^Bg n);split<;>rename_i e<;>rw[e]at b<;>exact b
  ·have b:=Kz d f m a (yo n) h;split<;>rename_i e<;>rw[e]at b
   ·exact b
   ·have c:=Kz d f _ (a+yo n) (n-yo n) b;split<;>rename_i e<;>rw[e]at c<;>exact c
end
end
def VO (O:Nat->Prop)(k s d:Nat)(q:Int)(l:Ks)(o n:Option Addr)(w:World)(F:O k/\O s/\O d)(h:w.heap[k]?=some (.cells #[.int .i64 q,.map (some s),yu d] MeN (0,0)))
 (i:w.heap[d]?=some (.cells #[.int .i64 0,.int .i64 0,.int .i64 0,.pointer none,.pointer o,.pointer n] FC (0,0))) (b:BC w s l) :
  Calls prog 183 #[yu k] w λr C=>r=.returned (.tuple #[])/\zl O [FC] w C/\Dj C O k q []/\C.heap.size=w.heap.size:=by
 obtain⟨p,z,j,f⟩:=b.clear underlying290 0;have A:p.heap.size=w.heap.size:=by
  obtain⟨P,c,I⟩:=b.isMap;have e:=z;simp[Builtin.clear_,Cj underlying290,Ik I,Il _ I,Result.andThen]at e;rw[<- e];simp
 have g:=(f.block k (zg h) (b.not h)).trans h;have a:=(f.block d (zg i) (b.not i)).trans i;have S:w.cell? ⟨k,1,none⟩=some (.map (some s)):=(zm h 1 _ rfl).1;have T:p.cell? ⟨k,2,none⟩=some (.pointer (some ⟨d,0,none⟩)):=(zm g 2 _ rfl).1;have M:p.cell? ⟨d,4,none⟩=some (.pointer o):=(zm a 4 _ rfl).1;have Q:p.frozen? ⟨d,4,none⟩=false:=(zm a 4 _ rfl).2;have N:p.cell? ⟨d,5,none⟩=some (.pointer n):=(zm a 5 _ rfl).1;have R:p.frozen? ⟨d,5,none⟩=false:=(zm a 5 _ rfl).2;have L:¬d=k:=λe=>by
  have H:some (Obj.cells _ _ _)=some (Obj.cells _ _ _):=a.symm.trans (by rw[e];exact g);simp only[zn,An]at H;exact absurd H.2.1 (by decide)
 have J:¬k=d:=λe=>L e.symm;have v:=ze F;have u:=ze j;have E:Hid (zl O [FC] w p):=(zl.refl O [FC] w).map (.inl F.2.1) b f;have m:=ze (And.intro g a);have D:=ze A;unfold yu;clear F b h i j f g a A;go_enter func183,ntmps183
 go_wp2
 go_region_held3 (λC=>C.cell? ⟨k,2,none⟩=some (.pointer (some ⟨d,0,none⟩))) (go_keep) (fail)
 rename_i t;clear t
 go_wp2
 go_end0
 have y:=Aw m.o.2 4 (.pointer (some ⟨d,0,none⟩));have G:=Aw y 5 (.pointer (some ⟨d,0,none⟩));refine⟨rfl,((E.o.set (.inl v.o.2.2) m.o.2 (by simp) _).set (.inl v.o.2.2) y (by simp) _).drew,⟨s,d,λ_=>d,λ_=>d,⟨v.o.1,v.o.2.1,v.o.2.2,λx B=>by simp at B⟩,?_,⟨G,λx B=>by simp at B,Oc d⟩,?_,λx B=>by simp at B⟩,?_⟩
 ·show((p.setCell _ _).setCell _ _).heap[k]?=_;rw[yh _ _ _ _ J,yh _ _ _ _ J];exact m.o.1
 ·refine u.o.same ?_;show((p.setCell _ _).setCell _ _).heap[s]?=_;have K:s≠d:=λe=>u.o.not m.o.2 (by rw[e]);rw[yh _ _ _ _ K,yh _ _ _ _ K]
 ·simp[World.setCell,World.drew,D.o]
def zhi (a:Int)(w:World):
  Calls prog 139 #[.int .i64 a] w λr d=>∃i,r=.returned (yu i)/\zc w d/\Dj d (λk=>w.heap.size<=k/\k<d.heap.size) i a []:=by
 have s:=@run_makeMap prog;go_enter func139,ntmps139;go_wp2_with fail;have A:(w.alloc (.map #[] 0)).heap.size=w.heap.size+1:=by simp
 have p:=zf w (.map #[] 0);have e:=zf (w.alloc (.map #[] 0)) (.cells #[.int .i64 0,.int .i64 0,.int .i64 0,.pointer none,.pointer none,.pointer none] FC);rw[A]at e;have B:((w.alloc (.map #[] 0)).alloc (.cells #[.int .i64 0,.int .i64 0,.int .i64 0,.pointer none,.pointer none,.pointer none] FC)).heap.size=w.heap.size+1+1:=by simp
 have f:=zf ((w.alloc (.map #[] 0)).alloc (.cells #[.int .i64 0,.int .i64 0,.int .i64 0,.pointer none,.pointer none,.pointer none] FC)) (.cells #[.int .i64 a,.map (some w.heap.size),.pointer (some ⟨w.heap.size+1,0,none⟩)] MeN);rw[B]at f;have g:zc w (((w.alloc (.map #[] 0)).alloc (.cells #[.int .i64 0,.int .i64 0,.int .i64 0,.pointer none,.pointer none,.pointer none] FC)).alloc (.cells #[.int .i64 a,.map (some w.heap.size),.pointer (some ⟨w.heap.size+1,0,none⟩)] MeN)):=Bv _ _ _ _;refine(VO (λk=>w.heap.size<=k) (w.heap.size+1+1) w.heap.size (w.heap.size+1) a [] none none _ ⟨by omega,by omega,by omega⟩ f (zr e) (L8 (c:=0) (zr (zr p)))).mono ?_;rintro r j ⟨rfl,u,q,t⟩;have l:=ze (g.trans (u.below (λ_ h=>h) g.size));have m:Hid (Dj j (λk=>w.heap.size<=k/\k<j.heap.size) (w.heap.size+1+1) a []):=by
  obtain⟨b,n,y,z,h⟩:=q;exact⟨b,n,y,z,⟨⟨h.own.1,zg h.mem⟩,⟨h.own.2.1,h.map.lt⟩,⟨h.own.2.2.1,zg h.ring.ends⟩,λx v=>by simp at v⟩,h.mem,h.ring,h.map,h.ok⟩
 go_wp2
 go_ret;exact⟨_,rfl,l.o,m.o⟩
variable {ds:List Value}{k:Nat}{t:TypeId}
section
attribute [local go_sem ↓] j9 jx ve jy ju jt vd jw
def KL (xs:List Px):Option (zb):=match xs with
 |[a,b,c,d]=>if a.fits&&b.fits&&c.fits&&d.fits then some (vf (vf a.hash b.hash) (vf c.hash d.hash)) else none
 |_=>none
def zmh (a:List Px)(k:Nat):Prop:=∀j,j<k->(a.getD j .no).fits=true
def zdu (h:xs.length=4)(e:zmh xs 4):KL xs=some (vf (vf (xs.getD 0 .no).hash (xs.getD 1 .no).hash) (vf (xs.getD 2 .no).hash (xs.getD 3 .no).hash)):=by
 obtain⟨a,b,c,d,rfl⟩:=M0 h;have h0:=e 0 (by omega);have f:=e 1 (by omega);have g:=e 2 (by omega);have i:=e 3 (by omega);simp at h0 f g i;simp[KL,h0,f,g,i]
def zip (h:xs.length=4)(f:k<4)(e:(xs.getD k .no).fits=false):KL xs=none:=by
 obtain⟨a,b,c,d,rfl⟩:=M0 h
 match k,f with
 |0,_=>simp at e;simp[KL,e]
 |1,_=>simp at e;simp[KL,e]
 |2,_=>simp at e;simp[KL,e]
 |3,_=>simp at e;simp[KL,e]
def BG {b:Nat}{cs:List Value}(h:w.heap[b]?=some (.cells cs.toArray t (0,0))):w.there b 0 cs.length:=by
 intro j a;have:=zm h (0+j) (cs[j]'a) (by rw[xk,vy];exact zo _);exact⟨by rw[this.1];rfl,this.2⟩
def Cd {b:Nat}{cs:List Value}(h:w.heap[b]?=some (.cells cs.toArray t (0,0)))(a:ds.length=cs.length):(w.setCells b 0 ds).heap[b]?=some (.cells ds.toArray t (0,0)):=by
 rw[EP ds 0 h (by omega),a];simp
abbrev Dr:Array Value:=#[.int .u8 0,.int .u8 0,.int .u8 0,.int .u8 0,.int .u8 0,.int .u8 0,.int .u8 0,.int .u8 0]
def zfi (parts:Array (Nat×Value)):Sem Value:=Instr.build 91 parts
def OV (parts:Array (Nat×Value)):Instr.build 91 parts=zfi parts:=rfl
def za3 (w:World):(zfi #[]).run prog w=.ok (.agg (hv BE)) w:=by kernel_rfl
attribute [local go_sem ↓] OV
def zbv (g:List Px)(A:FR g)(w:World):
  Calls prog 273 #[.agg (Cc g).toArray] w λr e=>zc w e/\((∃h,KL g=some h/\r=.returned (.tuple #[.agg (hv h),.bool true]))\/(KL g=none/\r=.returned (.tuple #[.agg (hv BE),.bool false]))):=by
 have q:=ze A;clear A;go_enter func273,ntmps273;go_wp2_with fail;have m:Hid (zc w ((w.alloc (.cells (Cc g).toArray qo)).alloc (.cells Dr Nc))/\xy ((w.alloc (.cells (Cc g).toArray qo)).alloc (.cells Dr Nc)) w.heap.size g/\((w.alloc (.cells (Cc g).toArray qo)).alloc (.cells Dr Nc)).heap[w.heap.size+1]?=some (.cells (BE.map bv).toArray Nc (0,0))):=by
  refine⟨qg _ _ _,zr (zf _ _),?_⟩;have:=zf (w.alloc (.cells (Cc g).toArray qo)) (.cells Dr Nc);rw[show(w.alloc (.cells (Cc g).toArray qo)).heap.size=w.heap.size+1 by simp]at this;exact this
 generalize (w.alloc (.cells (Cc g).toArray qo)).alloc (.cells Dr Nc)=W0 at *;go_loopw [5] (λi wr=>∃k:Nat,k<=4/\i=.int .i64 k/\zmh g k/\wr=W0) (λi _=>4-(intOf i).toNat)
 case atStart=>exact⟨0,by omega,rfl,λj hj=>by omega,rfl⟩
 case round =>
  obtain⟨k,hk,rfl,l,rfl⟩:=hrel
  by_cases I:k<4
  ·have H:k<g.length:=by rw[q.o.1];exact I
   have hg:g.getD k .no=g[k]:=by rw[zj,zo H];rfl
   have c1:=(m.o.2.1.cell q.o.2 H (j:=1) (by omega) rfl).1;have i0:(0:Int)<=(k:Int):=by omega
   have i1:(k:Int)<4:=by omega
   have T:=ze hg;have M:=ze l;have J:(K4 (.pointer (some ⟨w.heap.size+1,0,none⟩)) (.agg (hv BE))).run prog wr=.ok () (wr.setCells (w.heap.size+1) 0 (BE.map bv)):=Gr (BG m.o.2.2) rfl;have HW:=ze (Cd (ds:=BE.map bv) m.o.2.2 rfl);have HB:=ze (xo m.o.1 (Ar w.heap.size) (BE.map bv) 0);have aa:=za3 wr;clear hg l;generalize g[k]=z at *;cases t:z.fits with
   |true =>
    rw[t]at c1
    go_wp2
    go_roundw
    case rel=>exact⟨k+1,by omega,by go_num,λj hj=>by
     rcases qf j k with h|h
     ·exact M.o j h
     ·obtain rfl:j=k:=by omega
      rw[T.o];exact t,by first|rfl|trivial⟩
    case measure=>simp[intOf];omega
   |false =>
    rw[t]at c1;go_wp2_with fail;refine zv (v:=.tuple #[.agg (hv BE),.bool false]) (vb results273 _ _ (w.heap.size+1) Nc _ (0,0) _ rfl HW.o underlying91 rfl Ou _ rfl) rfl ⟨HB.o,.inr ⟨zip q.o.1 I (by rw[T.o];exact t),rfl⟩⟩
  ·obtain rfl:k=4:=by omega
   have O:=ze (zdu q.o.1 l);obtain⟨a,b,c,d,s⟩:=M0 q.o.1;have Y:=(q.o.2 a (by rw[s];simp)).1;have Z:=(q.o.2 b (by rw[s];simp)).1;have c8:=(q.o.2 c (by rw[s];simp)).1;have d8:=(q.o.2 d (by rw[s];simp)).1;have V:Hid (∀e,xy e w.heap.size g->((DS (.pointer (some ⟨w.heap.size,2,none⟩))).run prog e=.ok (.agg (hv a.hash)) e/\(DS (.pointer (some ⟨w.heap.size,13,none⟩))).run prog e=.ok (.agg (hv b.hash)) e/\(DS (.pointer (some ⟨w.heap.size,24,none⟩))).run prog e=.ok (.agg (hv c.hash)) e/\(DS (.pointer (some ⟨w.heap.size,35,none⟩))).run prog e=.ok (.agg (hv d.hash)) e)):=by
    intro e G;rw[s]at G;have A:∀x∈[a,b,c,d],x.ok:=by rw[<- s];exact q.o.2
    exact⟨AN (G.hash A (k:=0) (by simp)) Y,AN (G.hash A (k:=1) (by simp)) Z,AN (G.hash A (k:=2) (by simp)) c8,AN (G.hash A (k:=3) (by simp)) d8⟩
   have C:Hid (∃N,N=vf a.hash b.hash/\N.length=8/\∀e,Calls prog 110 #[.agg (hv a.hash),.agg (hv b.hash)] e λr p=>r=.returned (.agg (hv N))/\zc e p):=⟨_,rfl,vm _ _,λe=>Ev _ _ e Y Z⟩;have D:Hid (∃N,N=vf c.hash d.hash/\N.length=8/\∀e,Calls prog 110 #[.agg (hv c.hash),.agg (hv d.hash)] e λr p=>r=.returned (.agg (hv N))/\zc e p):=⟨_,rfl,vm _ _,λe=>Ev _ _ e c8 d8⟩;obtain⟨W,e1,l1,k1⟩:=C.o;obtain⟨X,e2,l2,k2⟩:=D.o;have E:Hid (∃N,N=vf W X/\N.length=8/\∀e,Calls prog 110 #[.agg (hv W),.agg (hv X)] e λr p=>r=.returned (.agg (hv N))/\zc e p):=⟨_,rfl,vm _ _,λe=>Ev _ _ e l1 l2⟩;obtain⟨F,e3,l3,k3⟩:=E.o;have K1:=ze k1;have K2:=ze k2;have K3:=ze k3;have R:=ze l3;rw[s]at O;have P:Hid (KL g=some F):=by
    show _=_;rw[s,e3,e2,e1];exact O.o
   clear O k1 k2 k3 e1 e2 e3 l1 l2 l3 C D E;have Q:Hid (∀e,zc wr e->∀h:zb,h.length=8->(K4 (.pointer (some ⟨w.heap.size+1,0,none⟩)) (.agg (hv h))).run prog e=.ok () (e.setCells (w.heap.size+1) 0 (h.map bv))):=by
    intro e n h S;have:=(n.block _ (zg m.o.2.2)).trans m.o.2.2;exact Gr (BG this) S
   have K:Hid (∀e,zc wr e->∀h:zb,h.length=8->(e.setCells (w.heap.size+1) 0 (h.map bv)).heap[w.heap.size+1]?=some (.cells (hv h) Nc (0,0))/\zc w (e.setCells (w.heap.size+1) 0 (h.map bv))):=by
    intro e n h S;have:=(n.block _ (zg m.o.2.2)).trans m.o.2.2;exact⟨Cd this (by simp[S,BE]),xo (m.o.1.trans (n.mono m.o.1.size)) (Ar _) _ _⟩
   have B:Hid (∀e,zc wr e->xy e w.heap.size g):=λe n=>(n.block _ (zg m.o.2.1)).trans m.o.2.1;have L:Hid (∀e,zc wr e->∀h,xy (e.setCells (w.heap.size+1) 0 h) w.heap.size g):=by
    intro e n h;show(e.setCells _ _ _).heap[w.heap.size]?=_;rw[Br _ _ (by omega)];exact B.o e n
   have f:zc wr wr.drew:=(zu _ _).drew;clear s l
   go_wp2
   go_region_held3 (λe=>(DS (.pointer (some ⟨w.heap.size,2,none⟩))).run prog e=.ok (.agg (hv a.hash)) e/\(DS (.pointer (some ⟨w.heap.size,13,none⟩))).run prog e=.ok (.agg (hv b.hash)) e/\(DS (.pointer (some ⟨w.heap.size,24,none⟩))).run prog e=.ok (.agg (hv c.hash)) e/\(DS (.pointer (some ⟨w.heap.size,35,none⟩))).run prog e=.ok (.agg (hv d.hash)) e) (first|exact V.o _ (B.o _ f)|exact V.o _ (L.o _ f _)) (first
    |(go_at_call 110;(first|refine(K1.out _).mono ?_|refine(K2.out _).mono ?_|refine(K3.out _).mono ?_);rintro r w1 ⟨rfl,n⟩;have u:=f.trans (n.mono f.size);clear f n;have f:=u;clear u;have J:=Q.o _ f F R.out))
   rename_i y;clear y;have U:=ze (K.o _ f F R.out);clear f J;go_wp2_with fail;refine zv (v:=.tuple #[.agg (hv F),.bool true]) (vb results273 _ _ (w.heap.size+1) Nc _ (0,0) _ rfl U.o.1 underlying91 rfl (by rw[Ou];simp[hv,R.out]) _ rfl) rfl ⟨U.o.2,.inl ⟨F,P.o,rfl⟩⟩
end
variable {A A' OP OP':Nat->Prop}{LN:Ek}{LP:EJ}{f:Fl}{nd pr:Mm}{nm pm:Nat}
def AS {α β:Type}(R:α->β->Prop):List α->List β->Prop
 |[],[]=>True
 |a::l,b::m=>R a b/\AS R l m
 |_,_=>False
def AS.nil {α β:Type}{R:α->β->Prop}:AS R [] []:=trivial
def AS.cons {α β:Type}{R:α->β->Prop}{a:α}{b:β}{l:List α}{m:List β}(h:R a b)(t:AS R l m):AS R (a::l) (b::m):=⟨h,t⟩
def AS.ind {α β:Type}{R:α->β->Prop}{c:(l:List α)->(m:List β)->AS R l m->Prop}(nil:c [] [] AS.nil)(cons:∀{a:α}{b:β}{l:List α}{m:List β}(h:R a b) (t:AS R l m),c l m t->c (a::l) (b::m) (AS.cons h t)):∀{l:List α}{m:List β}(h:AS R l m),c l m h
 |[],[],_=>nil
 |_::_,_::_,h=>cons h.1 h.2 (AS.ind nil cons h.2)
 |[],_::_,h=>False.elim h
 |_::_,[],h=>False.elim h
def AS.empty {α β:Type}{R:α->β->Prop}{l:List α}(h:AS R l ([]:List β)):l=[]:=by
 cases l with
 |nil=>rfl
 |cons a l=>exact False.elim h
def AS.len {α β:Type}{R:α->β->Prop}{l:List α}{m:List β}(h:AS R l m):l.length=m.length:=by
 induction h using AS.ind with
 |nil=>rfl
 |cons _ _ a=>simp[a]
def AS.mono {α β:Type}{R c:α->β->Prop}{l:List α}{m:List β}(h:AS R l m)(d:∀a∈l,∀b,R a b->c a b):AS c l m:=by
 induction h using AS.ind with
 |nil=>exact .nil
 |cons e _ g=>exact .cons (d _ (by simp) _ e) (g λa f b=>d a (by simp[f]) b)
def AS.append {α β:Type}{R:α->β->Prop}{l a:List α}{m b:List β}(h:AS R l m)(c:AS R a b):AS R (l++a) (m++b):=by
 induction h using AS.ind with
 |nil=>exact c
 |cons d _ e=>exact .cons d e
def AS.snoc {α β:Type}{R:α->β->Prop}{l:List α}{m:List β}(h:AS R l m){a:α}{b:β}(c:R a b):AS R (l++[a]) (m++[b]):=h.append (.cons c .nil)
def AS.filter {α β:Type}{R:α->β->Prop}{l:List α}{m:List β}(h:AS R l m)(p:α->Bool)(q:β->Bool)(d:∀a b,R a b->p a=q b):AS R (l.filter p) (m.filter q):=by
 induction h using AS.ind with
 |nil=>exact .nil
 |cons f _ g =>
  rename_i a b l m _;have e:=d a b f;cases c:p a with
  |true=>rw[List.filter_cons_of_pos c,List.filter_cons_of_pos (by rw[<- e];exact c)];exact .cons f g
  |false=>rw[List.filter_cons_of_neg (by simp[c]),List.filter_cons_of_neg (by rw[<- e];simp[c])];exact g
def AS.find {α β:Type}{R:α->β->Prop}{l:List α}{m:List β}(h:AS R l m)(p:α->Bool)(q:β->Bool)(d:∀a b,R a b->p a=q b):(l.find? p=none/\m.find? q=none)\/∃a b,l.find? p=some a/\m.find? q=some b/\R a b/\a∈l/\b∈m:=by
 induction h using AS.ind with
 |nil=>exact .inl ⟨rfl,rfl⟩
 |cons g _ f =>
  rename_i a b l m _;have e:=d a b g;cases c:p a with
  |true=>exact .inr ⟨a,b,List.find?_cons_of_pos c,List.find?_cons_of_pos (by rw[<- e];exact c),g,by simp,by simp⟩
  |false =>
   rw[List.find?_cons_of_neg (by simp[c]),List.find?_cons_of_neg (by rw[<- e];simp[c])];rcases f with f|⟨i,j,k,n,o,r,s⟩
   ·exact .inl f
   ·exact .inr ⟨i,j,k,n,o,by simp[r],by simp[s]⟩
def AS.mem {α β:Type}{R:α->β->Prop}{l:List α}{m:List β}(h:AS R l m):∀a∈l,∃b∈m,R a b:=by
 induction h using AS.ind with
 |nil=>simp
 |cons d _ g =>
  intro a c;rcases jl.1 c with rfl|c
  ·exact⟨_,by simp,d⟩
  ·obtain⟨b,e,f⟩:=g a c;exact⟨b,by simp[e],f⟩
def AS.map {α β γ:Type}{R:α->β->Prop}{l:List α}{m:List β}(h:AS R l m)(f:α->γ)(g:β->γ)(e:∀a b,R a b->f a=g b):l.map f=m.map g:=by
 induction h using AS.ind with
 |nil=>rfl
 |cons c _ d=>simp[d,e _ _ c]
def AS.tail {α β:Type}{R:α->β->Prop}{l:List α}{m:List β}(h:AS R l m):AS R l.tail m.tail:=by
 induction h using AS.ind with
 |nil=>exact .nil
 |cons _ h _=>exact h
abbrev FI:Int:=9223372036854775807
def Vb (w:World)(A:Nat->Prop)(v:Value)(f:Fl):Prop:=∃a b,v=yu a/\A a/\xy w a b/\FR b/\C8 w b f
def NdR (w:World)(A:Nat->Prop)(x:Nat×Pl×Value)(y:Pl×Fl):Prop:=x.2.1=y.1/\Vb w A x.2.2 y.2
def KX (w:World)(A:Nat->Prop)(c:Nat)(b:Mm):Prop:=∃a,Dj w A c FI a/\AS (NdR w A) a b/\(a.map (·.2.2)).Nodup
def PrR (w:World)(x:Nat×Pl×List Value)(y:Pl×Fl):Prop:=x.2.1=y.1/\∃a,x.2.2=Cc a/\FR a/\C8 w a y.2
def MA (w:World)(c:Nat->Prop)(d:Nat)(a:Int)(e:Mm):Prop:=∃b,G0 w c d a b/\AS (PrR w) b e
def WK {a b:Nat}(h:yu a=yu b):a=b:=by
 unfold yu at h;injection h with h;injection h with h;injection h
def KX.get (h:AS (NdR w A) LN nd)(p:Pl):(LN.get p=none/\nd.get p=none)\/∃b v f,LN.get p=some (b,v)/\nd.get p=some f/\Vb w A v f/\(b,p,v)∈LN:=by
 rcases h.find (λx=>decide (x.2.1=p)) (λx=>decide (x.1=p)) (λa b i=>by rw[i.1])with ⟨c,d⟩|⟨a,b,c,d,e,g,j⟩
 ·exact .inl ⟨by unfold Ek.get;rw[c],by unfold Mm.get;rw[d]⟩
 ·have:=DI c;simp only[ja]at this;subst this;exact .inr ⟨a.1,a.2.2,b.2,by unfold Ek.get;rw[c],by unfold Mm.get;rw[d],e.2,g⟩
def MA.get (h:AS (PrR w) LP pr)(p:Pl):(LP.get p=none/\pr.get p=none)\/∃b c f,LP.get p=some (b,Cc c)/\pr.get p=some f/\FR c/\C8 w c f:=by
 rcases h.find (λx=>decide (x.2.1=p)) (λx=>decide (x.1=p)) (λa b l=>by rw[l.1])with ⟨d,g⟩|⟨a,b,d,g,i,m,n⟩
 ·exact .inl ⟨by unfold EJ.get;rw[d],by unfold Mm.get;rw[g]⟩
 ·obtain⟨i,c,e,j,k⟩:=i;exact .inr ⟨a.1,c,b.2,by unfold EJ.get;rw[d];show some (a.1,a.2.2)=_;rw[e],by unfold Mm.get;rw[g],j,k⟩
def Vb.aj (h:Vb w A v f)(a:zl O T w w')(c:qo∉T)(d:5∉T)(m:∀k,A k->A' k):Vb w' A' v f:=by
 obtain⟨b,n,e,g,i,j,l⟩:=h;exact⟨b,n,e,m _ g,a.keep i c,j,l.aj a d⟩
def PrR.aj {x:Nat×Pl×List Value}{y:Pl×Fl}(h:PrR w x y)(f:zl O T w w')(b:5∉T):PrR w' x y:=by
 obtain⟨a,g,e,c,d⟩:=h;exact⟨a,g,e,c,d.aj f b⟩
def MA.stay {c:Int}(h:MA w OP pm c pr)(d:zl O T w w')(i:∀k,OP k->¬O k)(j:5∉T)(l:∀k,OP k->OP' k):MA w' OP' pm c pr:=by
 obtain⟨e,f,g⟩:=h;exact⟨e,f.stay d i l,g.mono λa _ b m=>m.aj d j⟩
def KX.stay (h:KX w A nm nd)(e:zl O T w w')(l:∀k,A k->¬O k)(m:5∉T)(n:qo∉T)(c:∀k,A k->A' k):KX w' A' nm nd:=by
 obtain⟨f,g,i,j⟩:=h;exact⟨f,g.stay e l c,i.mono λa _ b d=>⟨d.1,d.2.aj e n m c⟩,j⟩
structure CCs (C:Array Value)(nb pm nm:Nat):Prop where
 al:C[2]?=some (QM nb)
 aV:C[13]?=some (yu pm)
 aM:C[14]?=some (yu nm)
structure CS (W0 w:World)(O A OP:Nat->Prop)(cb nb db pm nm:Nat)(C:Array Value)(d:Dk)(room:Int)(pr:Mm)(m:Ms Nt)(k:Nat):Prop where
 base:zc W0 w
 own:∀b,O b\/A b->W0.heap.size<=b
 apart:∀b,O b->¬A b
 lt:∀b,O b\/A b\/OP b->b<w.heap.size
 aG:ym w O db d
 al:De w O nb db m.al
 st:NSt d m.al
 bk:m.al.ai+2*k<4611686018427387904
 aC:w.heap[cb]?=some (.cells C Bd (0,0))
 cells:CCs C nb pm nm
 aV:MA w OP pm room pr
 aN:∀b,OP b->¬(O b\/A b)
 aM:KX w A nm m.ag
 short:m.ag.length+k<=1000000000
abbrev qT:List Nat:=[148,3,FC,qo]
def zl9 (a:World)(o:Sum (zb) Pc)(r:Ending):Prop:=∃x c,o=.inr c/\x.ok/\J4 a x c/\r=.returned (.tuple #[.agg x.cs.toArray,.nilIface])
end Go.Proofs.YtfdbeldiomkdiaaGreatDoor
