import Derived.Test.YtfdbeldiomkdiaaGreatDoorG39
set_option maxHeartbeats 8000000
set_option maxRecDepth 100000
set_option linter.all false
namespace Go.Proofs.YtfdbeldiomkdiaaGreatDoor
open Go.RowKit Go.Proofs.Tryz
def zdz (O:Nat->Prop)(W:World)(a:Nat->Addr)(o:vj W a)(j k n:Nat)(l:za)(u:Nat)(e:zb)(d:Dk)(t:zb)(w:World)(v:zc W w)(B:n<=4200)(C:t.length<=9223372036854775807)(h:RP W.heap.size w O j k n l u e d):
  Calls prog 90 #[.pointer (some ⟨j,0,none⟩),.string ⟨t.toArray⟩] w λr i=>r=.returned (.bool true)/\zl O aT w i/\∃f,RP W.heap.size i (qv O w i) j k (n+1) (l++f) u e d:=by
 obtain⟨D,x,s,g,A⟩:=h.full;refine(K7 O W a o j k D x _ d s n t w h.own v B C h.bI l g A).mono ?_;rintro r i ⟨rfl,y,c⟩;refine⟨rfl,y,?_⟩;rcases c with ⟨-,z⟩|⟨-,b,q,m,E,p⟩
 ·exact⟨[],by rw[AT];exact((h.below z).ext v.size).later (Ar n)⟩
 ·exact⟨[t],⟨.inl h.bI,b,⟨q,m,E,g,p⟩,h.still,h.since.more [t],h.bh.more [t]⟩⟩
def MN (O:Nat->Prop)(W:World)(b:Nat->Addr)(G:DW W)(v:vj W b)(u:RW W)(p q n:Nat)(a:za)(D:Nat)(m:zb)(d:Dk)(w:World)(I:zc W w)(L:n<=4100)(h:RP W.heap.size w O p q n a D m d):
  Calls prog 91 #[.pointer (some ⟨p,0,none⟩)] w λr o=>r=.returned (.bool true)/\zl O aT w o/\∃c,RP W.heap.size o (qv O w o) p q (n+1) a a.length m c/\∀s,s<=a.length->Bb d.fs a s->Bb c.fs a s:=by
 obtain⟨N,E,s,B,i⟩:=h.full;have K:a.length<=1000000:=by
  obtain⟨-,-,-,j,Q,P,-,-,-,-,-,-,g⟩:=i;have:=Nl g;have:=j.small;omega
 refine(P5 O W b G v u p q N E _ d s n w h.own I L h.bI a B i).mono ?_;rintro r o ⟨rfl,H,hI,l⟩;obtain⟨A,t,c,y,z,C,x,e⟩:=l rfl h.still (h.since.bQ K);have F:Bb c.fs a a.length:=λf i=>e f (by rw[jb]at i;exact i);refine⟨rfl,H,c,⟨.inl h.bI,hI.2.1,⟨A,t,s,a.length,y⟩,z,h.since.bO C,zk _,.inr ⟨by rw[jb];exact x,F⟩⟩,λk J M=>?_⟩;have:=M.bO (more:=[]) C J
 rwa[AT]at this
def zlr (O:Nat->Prop)(W:World)(x:Nat->Addr)(S:DW W)(z:vj W x)(F:RW W)(c p n:Nat)(i:za)(C:Nat)(b:zb)(d:Dk)(w:World)(H:zc W w)(Z:n<=4100)(h:RP W.heap.size w O c p n i C b d)(e A:Int)(M:Bool)(t:zb)(ht:t.length<=9223372036854775807)(B:e=2\/e=3):
  Calls prog 45 #[.pointer (some ⟨c,0,none⟩),.agg #[.int .i64 e,.int .i64 A,.bool M,.string ⟨t.toArray⟩]] w λr N=>r=.returned (.bool true)/\zl O aT w N/\∃f a m,RP W.heap.size N (qv O w N) c p (n+1) (i++f) a b m/\C<=a/\∀s,s<=i.length->Bb d.fs i s->Bb m.fs i s:=by
 have u:Hid (∀o,RP W.heap.size (w.alloc o) O c p n i C b d):=λo=>h.below (zi w o);have v:Hid (∀o,zc W (w.alloc o)):=λo=>H.trans ((zi w o).mono H.size);have J:=ze h.bh.1;have l:Hid (∀(o:Obj) (j:World) (y:za) (a:Nat) (m:Dk),zl O aT (w.alloc o) j->RP W.heap.size j (qv O (w.alloc o) j) c p (n+1) y a b m->zl O aT w j/\RP W.heap.size j (qv O w j) c p (n+1) y a b m):=λo j y a m D q=>by
  have hs:=(zi w o).size;have L:=D.size;refine⟨(zl.aa (zi w o)).trans (D.mono (λ_ h=>.inl h) (λ_ h=>h)),?_⟩;obtain⟨U,R,s,G,g⟩:=q.full;refine⟨.inl h.bI,Db H.size h.own (zt hs L),⟨U,R,s,G,g.mono (λk B=>?_)⟩,q.still,q.since,q.bh⟩;rcases B with B|B
  ·exact .inl B
  ·exact .inr ⟨by omega,B.2⟩
 obtain⟨U,R,s,G,Y,T,-,-,pb,lb,rfl,-⟩:=h.full;obtain⟨⟨K,-⟩,-,⟨P,-⟩,⟨c3,-⟩,-,-,⟨Q,-⟩⟩:=FK T;unfold BD at K;have a0:∀o,(w.alloc o).cell? ⟨c,0,none⟩=some (.pointer (some ⟨p,0,none⟩)):=λo=>by rw[xg _ _ ⟨c,0,none⟩ (yf K)];exact K
 have a2:∀o,(w.alloc o).cell? ⟨c,2,none⟩=some (.pointer (some ⟨pb,0,none⟩)):=λo=>by rw[xg _ _ ⟨c,2,none⟩ (yf P)];exact P
 have a6:∀o,(w.alloc o).cell? ⟨c,6,none⟩=some (.bool false):=λo=>by rw[xg _ _ ⟨c,6,none⟩ (yf Q)];exact Q
 have I:=ze (λo=>zdz O W x z c p n i C b d t (w.alloc o) (v.o o) (by omega) ht (u.o o));have V:=ze (λo=>MN O W x S z F c p n i C b d (w.alloc o) (v.o o) Z (u.o o));clear S z F h T H u v;rcases B with rfl|rfl
 all_goals
  go_enter func45,ntmps45;go_wp2_with fail
 ·refine(I.o _).mono ?_;rintro r j ⟨rfl,D,f,q⟩;have E:=ze (l.o _ _ _ _ _ D q)
  go_wp2
  go_ret;exact⟨rfl,E.o.1,f,C,d,E.o.2,zk _,λ_ _ h=>h⟩
 ·refine(V.o _).mono ?_;rintro r j ⟨rfl,D,m,q,X⟩;have E:=ze (l.o _ _ _ _ _ D q);have I:=ze X
  go_wp2
  go_ret;exact⟨rfl,E.o.1,[],i.length,m,by rw[AT];exact E.o.2,J.o,I.o⟩
variable {B db wb:Nat}{O O':Nat->Prop}{d:Dk}{ev lv:Value}{w:World}
def VQ {b:Nat}{c:zb}(n:c.length<=1048576)(m:KO w b (b+1) (.pointer none) (.slice none 0 0) {key:=c,ar:=0,failed:=false,aw:=false})(j:ym w O (b+1) {ZG with fs:=GK [] []}):
  Jz w (λk=>O k/\k<w.heap.size) b (b+1) (.pointer none) (.slice none 0 0) {key:=c,ar:=0,failed:=false,aw:=false} {ZG with fs:=[]} [] 0:=by
 refine⟨rfl,m,?_,⟨by simp[D5],λf d=>by simp at d,by simp,OR [],by simp,by show c.length<=_;omega,rfl⟩,.inl rfl⟩;obtain⟨i,a,h,d,l⟩:=j;exact⟨i,⟨a,zg h⟩,h,d,λg e=>⟨l g e,(d.lt g e).2⟩⟩
def RP.wide {n:Nat}{e:za}{c:Nat}{a:zb}(h:RP B w O wb db n e c a d)(f:∀k,O k->O' k)(j:∀k,O' k->B<=k/\k<w.heap.size):RP B w O' wb db n e c a d:=by
 obtain⟨l,i,s,b,g⟩:=h.full;exact⟨f _ h.bI,j,⟨l,i,s,b,g.mono f⟩,h.still,h.since,h.bh⟩
def ziu {b:zb}{s:List Nat}(f:O wb)(g:∀k,O k->B<=k/\k<w.heap.size)(h:Fh w O wb db lv ev {key:=b,ar:=((0:Nat):Int),failed:=false,aw:=false} d s 0 [] 0)(c:C0 d)(a:d.fs=[]):RP B w O wb db 0 [] 0 b d:=
 ⟨f,g,⟨lv,ev,s,0,h⟩,c,λq x e=>by rw[a]at e;simp[xr]at e,zk _,.inl ⟨by rw[a];rfl,rfl⟩⟩
def RP.facts {n:Nat}{i:za}{v:Nat}{p:zb}(h:RP B w O wb db n i v p d)(D:n<=4100):∃r u q,KO w wb db r (.slice u i.length q) {key:=p,ar:=(v:Int),failed:=false,aw:=false}/\ym w O db d/\w.ownsRow 0 9 1 (.slice u i.length q) i.length (i.map qy)/\i.length<=q/\i.length<=40000/\(∀e∈i,e.length<=20)/\d.fs.length<=800000000/\(∀f∈d.fs,f.2.length<=1048576)/\D5 d.fs/\(u=none->q=0):=by
 obtain⟨r,C,s,A,z,o,x,a,F,E,-,-,-,-,l,-,c⟩:=h.full;have k:i.length<=40000:=by have:=Nl c;have:=a.small;omega
 have j:d.fs.length<=800000000:=by have:=a.count;omega
 have b:=l;rcases l.2 with ⟨rfl,h0⟩|⟨g,t,y,rfl,-,-,m,-⟩
 ·exact⟨r,none,i.length,by rw[h0];exact o,x,by rw[h0]at b ⊢;exact b,zk _,k,c.short,j,a.data,a.apart,λ_=>h0⟩
 ·exact⟨r,_,t,o,x,b,m,k,c.short,j,a.data,a.apart,λe=>by simp at e⟩
variable {cap:Nat}{ls ps:za}{v:Value}
def La.take {a:Option Addr}{n:Nat}(h:La w (.slice a n cap) ls)(k:Nat)(p:k<=ls.length):La w (.slice a k cap) (ls.take k):=by
 obtain⟨m,f,e,o,c⟩:=h;simp only[jk]at e;obtain⟨rfl,rfl,rfl⟩:=e;have g:(ls.take k).length=k:=by simp;omega
 refine⟨a,cap,by rw[g],by omega,?_⟩;rcases c with h|⟨b,d,j,c⟩
 ·exact .inl (by simp[h])
 ·refine .inr ⟨b,d,j,λi l=>?_⟩;rw[g]at l;rw[js];exact c i (by omega)
def Xr (b:∀l∈ls,l.length<=20):∀s∈ls.map tb,s.size<maxLen:=λs c=>by
 obtain⟨l,a,rfl⟩:=yi.1 c;have:=b l a;show l.toArray.size<_;unfold maxLen;simp;omega
def St (v:Value)(a:za)(i:Nat)(w:World)(d:a.length<=1000000)(c:∀l∈a,l.length<=20)(e:i<a.length)(h:La w v a):
  Calls prog 21 #[v,.int .i64 i] w λr b=>∃x,r=.returned x/\zc w b/\P7 w b x (C1 a.length a i):=by
 have:=Tz a.length d v (a.map tb) (i:Int) w (by simp;omega) (by simp) (by omega) (by simp;omega) (Xr c) h.to;rw[MC,zz]at this;exact this
def Ss (v:Value)(a:za)(m:Nat)(w:World)(d:a.length<=1000000)(c:∀l∈a,l.length<=20)(e:1<=m)(f:m<=a.length)(h:La w v a):
  Calls prog 23 #[.int .i64 m,v,.bool true] w λr b=>∃x,r=.returned x/\zc w b/\P7 w b x (EI a.length m a true):=by
 have:=Ty a.length d v (a.map tb) (m:Int) true w (by simp;omega) (by simp) (by omega) (by simp;omega) (Xr c) h.to;rw[MC,zz]at this;exact this
def zad (h:w.ownsRow B 9 1 v ps.length (ps.map AL)):CT w v (ps.map tb):=by
 refine CT.aI (B:=B) ?_;have e:(ps.map tb).map Value.string=ps.map AL:=by simp[tb,AL]
 rw[e,yg];exact h
def MO (x y:Value)(a:za)(B b:Nat)(w:World)(c:a.length<=1000000)(d:w.ownsRow B 9 1 x a.length (a.map AL))(e:w.ownsRow b 9 1 y a.length (a.map AL)):
  Calls prog 22 #[x,y] w λr f=>r=.returned (.bool true)/\zc w f:=
 Gp x y (a.map tb) w (by simpa using c) (zad d) (zad e)
variable {N:Nat->Prop}{T:List Nat}{W0 w':World}{fs':Fs}{nb pub' rb t':Nat}
abbrev KN:Nat:=79
def S1 (w:World)(d c:Nat)(a b:Int):Prop:=w.heap[d]?=some (.cells #[yu c,.int .i64 a,.int .i64 b] KN (0,0))
abbrev rdT:List Nat:=KN::Bd::Uh
structure RC (W0 w:World)(O:Nat->Prop)(rb nb:Nat)(es:za)(fs:Fs)(an:Nat)(key:zb)(cap:Int)(t:Nat)(N:Nat->Prop):Prop where
 rest:∃pb cb pm nm A OP c,S1 w rb pb (c.size:Int) cap/\J3 w pb cb/\Pv W0 w O A OP cb nb pm nm c/\CI es c t/\Bb fs es c.size/\c.size<=an/\c.key=key/\c.room=cap/\(∀k,A k\/OP k\/k=cb\/k=pb\/k=rb->N k)
 own:∀k,N k->W0.heap.size<=k/\k<w.heap.size/\¬O k
def RC.other {M:Nat->Prop}{m:za}{n:Fs}{l:Nat}{e:zb}{d:Int}{t:Nat}(h:RC W0 w O rb nb m n l e d t N)(g:zl M T w w')(i:∀k,N k->¬M k)(C:5∉T):RC W0 w' O rb nb m n l e d t N:=by
 obtain⟨o,q,E,D,A,p,c,r,s,u,v,x,y,z,B,f⟩:=h.rest;refine⟨⟨o,q,E,D,A,p,c,g.stay r (i _ (f rb (by simp))),g.stay s (i _ (f o (by simp))),u.other g (λb a=>i b (f b ?_)) C,v,x,y,z,B,f⟩,λk j=>⟨(h.own k j).1,zq (h.own k j).2.1 g.size,(h.own k j).2.2⟩⟩;rcases a with a|a|a
 ·exact .inl a
 ·exact .inr (.inl a)
 ·exact .inr (.inr (.inl a))
def RC.grow {i:za}{j:Fs}{g:Nat}{e:zb}{d:Int}{t:Nat}(h:RC W0 w O rb nb i j g e d t N)(m:∀k,N k->¬O' k):RC W0 w O' rb nb i j g e d t N:=by
 obtain⟨B,o,C,z,A,n,c,p,q,r,s,u,v,x,y,l⟩:=h.rest;refine⟨⟨B,o,C,z,A,n,c,p,q,r.grow (λb a=>m b (l b ?_)),s,u,v,x,y,l⟩,λk f=>⟨(h.own k f).1,(h.own k f).2.1,m k f⟩⟩;rcases a with a|a|a
 ·exact .inl a
 ·exact .inr (.inl a)
 ·exact .inr (.inr (.inl a))
def RC.more {d:za}{i:Fs}{g:Nat}{e:zb}{b:Int}{t:Nat}(h:RC W0 w O rb nb d i g e b t N)(a:za)(B:g<=pub')(u:∀s,s<=d.length->Bb i d s->Bb fs' d s):RC W0 w O rb nb (d++a) fs' pub' e b t N:=by
 obtain⟨x,k,y,v,A,j,c,l,m,n,f,o,z,p,q,r⟩:=h.rest;exact⟨⟨x,k,y,v,A,j,c,l,m,n,f.more a,(u _ f.le o).more f.le a,by omega,p,q,r⟩,h.own⟩
def RC.later {e:za}{f:Fs}{d:Nat}{b:zb}{a:Int}{t:Nat}(h:RC W0 w O rb nb e f d b a t N)(s:t<=t'):RC W0 w O rb nb e f d b a t' N:=by
 obtain⟨v,i,x,u,A,g,c,j,k,l,m,n,o,p,q,r⟩:=h.rest;exact⟨⟨v,i,x,u,A,g,c,j,k,l,m.later s,n,o,p,q,r⟩,h.own⟩
def RC.below {d:za}{e:Fs}{c:Nat}{b:zb}{a:Int}{t:Nat}(h:RC W0 w O rb nb d e c b a t N)(f:zc w w'):RC W0 w' O rb nb d e c b a t N:=
 h.other (M:=λ_=>False) (T:=[]) (.aa f) (λ_ _ h=>h) (by simp)
def RC.ext {i:za}{j:Fs}{g:Nat}{f:zb}{d:Int}{t:Nat}{a:World}(h:RC W0 w' O rb nb i j g f d t (qv N a w))(z:w.heap.size<=w'.heap.size)(y:∀k,O k->k<a.heap.size)(E:W0.heap.size<=a.heap.size):RC W0 w' O rb nb i j g f d t (qv N a w'):=by
 obtain⟨C,m,D,B,A,l,c,n,o,p,q,r,s,u,v,x⟩:=h.rest;refine⟨⟨C,m,D,B,A,l,c,n,o,p,q,r,s,u,v,λk b=>qv.more z k (x k b)⟩,λk b=>?_⟩;rcases b with b|b
 ·exact h.own k (.inl b)
 ·exact⟨by omega,b.2,λe=>by have:=y k e;omega⟩
def Py (W:World)(O N:Nat->Prop)(j nb H db n:Nat)(f:za)(an:Nat)(s:zb)(d:Dk)(B:Int)(t:Nat)(w:World)(hn:n<=4100)(hP:RP W.heap.size w O H db n f an s d)(U:RC W w O j nb f d.fs an s B t N):
  Calls prog 52 #[yu j,yu H] w λr y=>r=.returned (.bool true)/\zl N [Bd] w y/\RC W y O j nb f d.fs an s B t N:=by
 obtain⟨lv,T,F,ab,-,aa,x,ai,ax,-,-,-,-⟩:=hP.facts hn;obtain⟨pb,S,pm,nm,A,OP,c,q,C,D,m,v,Z,G,g,hN⟩:=U.rest;have HT:=ze (NB W O A OP S nb pm nm c pb w D C);have af:=ze m.rt;have u:Hid (∀y,zl (λb=>b=S) [Bd] w y->y.heap[S]?=w.heap[S]?->zl N [Bd] w y/\RC W y O j nb f d.fs an s B t N):=λy ht he =>
  ⟨ht.mono (λb hb=>hN b (.inr (.inr (.inl hb)))) (λ_ h=>h),⟨⟨pb,S,pm,nm,A,OP,c,ht.keep q (by decide),ht.keep C (by decide),D.bF ht he,m,v,Z,G,g,hN⟩,λk G=>⟨(U.own k G).1,zq (U.own k G).2.1 ht.size,(U.own k G).2.2⟩⟩⟩
 have R:=ze ab;have K:=ze q;have P:=ze aa;have ad:=ze ax;have I:=ze x;have r0:=(zm q 0 _ rfl).1;have E:=m.le;clear hP U ab q C D m v Z G g hN aa ax x;unfold yu at r0 HT ⊢;go_enter func52,ntmps52;go_wp2_with fail;refine HT.o.mono ?_;rintro r z ⟨rfl,i,Y⟩;obtain⟨hT,V⟩:=u.o z i Y;have ag:=ze hT;have ae:=ze V;have e3:z.cell? ⟨H,3,none⟩=some (.slice T f.length F):=(zm (i.keep R.o (by decide)) 3 _ rfl).1;have r1:z.cell? ⟨j,1,none⟩=some (.int .i64 c.size):=(zm (i.keep K.o (by decide)) 1 _ rfl).1;have Q:Hid (La z (.slice T f.length F) f):=Dg (zy P.o i (by decide));have L:=ze (Dl (.slice T c.size F) (f.take c.size) z.drew (by have:=ET E;omega) (λe he=>ad.o e (qa he)) (Q.o.take c.size E));have J:Hid (∀X,Below z.drew.heap.size z.drew X->X.cell? ⟨H,3,none⟩=some (.slice T f.length F)/\X.cell? ⟨j,1,none⟩=some (.int .i64 c.size)):=λX hb=>⟨by rw[hb.cell (p:=⟨H,3,none⟩) (yf e3)];exact e3,by rw[hb.cell (p:=⟨j,1,none⟩) (yf r1)];exact r1⟩
 have aj:¬(F:Int)<(c.size:Int):=by have:=I.o;omega
 have M:Hid (c.root=yy (f.take c.size)):=af.o;clear i Y hT V r0 HT u P R K E;unfold qy
 go_wp2
 go_cut [7] from 16 to 25 (λs7 wx=>s7=.string ⟨(yy (f.take c.size)).toArray⟩/\zc z wx)
 case first =>
  go_region_held3 (λX=>X.cell? ⟨H,3,none⟩=some (.slice T f.length F)/\X.cell? ⟨j,1,none⟩=some (.int .i64 c.size)) (go_keep) (first|(go_at_call 16;refine L.o.mono ?_;rintro r w2 ⟨rfl,a⟩;obtain⟨q3,q1⟩:=J.o w2 a;have l:=ze a;clear a))
  all_goals go_wp2_with fail
  all_goals go_meet
  all_goals exact⟨rfl,A6 l.o⟩
 case rest =>
  obtain⟨rfl,a⟩:=hcut;have q1:wc.cell? ⟨j,1,none⟩=some (.int .i64 c.size):=by rw[a.cell (p:=⟨j,1,none⟩) (yf r1)];exact r1
  rw[<- M.o];have l:=ze a;clear a e3 r1 J L
  go_wp2
  go_ret;exact⟨rfl,ag.o.ah l.o,ae.o.below l.o⟩
variable {A OP:Nat->Prop}{W w1 w9:World}{c':Cl}{cb nm pb pm:Nat}{gs:Fs}{n':Nt}{s0:Int}
def zkz {a:Fs}{b:Nt}(g:b.ao=[])(p:zb)(d:∀f∈a,f.2.length<=1048576):(qr a b p).1.1.length<=1048576:=by
 rw[Eu a b g];cases e:xr a p with
 |none=>simp
 |some x =>
  obtain⟨f,c,rfl⟩:=SQ e;exact d f c
def Wc {a:Fs}(d:D5 a)(f:gs.Perm a)(q:zb):(xr a q=none->Ed gs q=-1)/\(xr a q≠none->∃k:Nat,Ed gs q=k):=by
 have c:=Dy d f q;refine⟨λh=>?_,λh=>?_⟩
 ·unfold Ed;cases e:GC gs q with
  |none=>rfl
  |some k =>
   obtain⟨g,-,b,-⟩:=Bn e;rw[c,h]at b;simp at b
 ·unfold Ed;cases e:GC gs q with
  |none=>rw[<- c,(Bm e).1]at h;exact absurd rfl h
  |some k=>exact⟨k,rfl⟩
def LK {P:(Nat->Prop)->Prop}{s:za}{B:Nat}{q:zb}{f:Int}{t:Nat}(b:CR W w w1 O A OP cb nb db pm nm d c' n' P)(y:J3 w pb cb)(c:∀k,A k\/OP k\/k=cb\/k=pb\/k=rb->N k)(i:∀k,N k->W.heap.size<=k/\k<w.heap.size/\¬O k)(F:∀k,O k->k<w.heap.size)(G:W.heap.size<=w.heap.size)
 (v:CI s c' t) (m:Bb d.fs s c'.size) (x:c'.size<=B) (g:c'.key=q) (l:c'.room=f) (p:S1 w1 rb pb s0 f) (a:zl (λk=>k=rb) [KN] w1 w9) (z:S1 w9 rb pb (c'.size:Int) f):zl (λk=>O k\/N k) rdT w w9/\Sh W w9 O nb db d n'/\RC W w9 O rb nb s d.fs B q f t (qv N w w9):=by
 obtain⟨D,r,E,u,o,-⟩:=b.rest;have H:=b.aj.size;have I:=a.size;have n:IU (λk=>k=rb) [KN] w1:=λk g=>by subst g;exact⟨_,_,_,p,by simp⟩
 refine⟨?_,b.sh.past a (λk g=>by subst g;exact(i _ (c _ (by simp))).1) (by decide) (by decide) (by decide) (by decide) (by decide),⟨pb,cb,pm,nm,D,r,c',z,?_,o.past a n (by decide) (by decide) (by decide) (o.aV.past a n (by decide) (by decide) (by decide)),v,m,x,g,l,λk j=>?_⟩,λk j=>?_⟩
 ·refine(b.aj.mono (λk g=>?_) (λ_ h=>BV _ h)).trans (a.mono (λk g=>?_) (λt C=>?_))
  ·rcases g with h|h|h|h
   ·exact .inl h
   ·exact .inr (c k (.inl h))
   ·exact .inr (c k (.inr (.inl h)))
   ·exact .inr (c k (.inr (.inr (.inl h))))
  ·subst g;exact .inl (.inr (c _ (by simp)))
  ·simp only[yl]at C;subst C;exact Dv
 ·exact a.keep (b.aj.keep y (by decide)) (by decide)
 ·rcases j with h|h|h|h|h
  ·rcases E.2 k h with h|h
   ·exact .inl (c k (.inl h))
   ·exact .inr ⟨h.1,by omega⟩
  ·rcases u.2 k h with h|h
   ·exact .inl (c k (.inr (.inl h)))
   ·exact .inr ⟨h.1,by omega⟩
  ·exact .inl (c k (.inr (.inr (.inl h))))
  ·exact .inl (c k (.inr (.inr (.inr (.inl h)))))
  ·exact .inl (c k (.inr (.inr (.inr (.inr h)))))
 ·rcases j with h|h
  ·have:=i k h;exact⟨this.1,by omega,this.2.2⟩
  ·exact⟨by omega,h.2,λe=>by have:=F k e;omega⟩
def Xi (W:World)(bA:Nat->Addr)(hE:DW W)(hS:vj W bA)(bB:F0 W)(O N:Nat->Prop)(g nb i L n:Nat)(f:za)(a:Nat)(v:zb)(d:Dk)(D:Int)(t:Nat)(s:Nt)(w:World)(hn:n<=4100)(ht:t<=1000000)(b6:v.length<=1048576)(hP:RP W.heap.size w O i L n f a v d)(hC:RC W w O g nb f d.fs a v D t N)(aE:Sh W w O nb L d s)(R:s.ao=[])(hf:s.ai+40000<4611686018427387904):
  Calls prog 50 #[yu g,yu i] w λr w'=>r=.returned (.bool true)/\zl (λk=>O k\/N k) rdT w w'/\(∃m,Sh W w' O nb L d m/\m.ao=[]/\m.ai<=s.ai+40000)/\RC W w' O g nb f d.fs a v D (t+1) (qv N w w'):=by
 obtain⟨lv,ea,ec,bK,hd,aV,aN,au,ax,aQ,ap,bC,-⟩:=hP.facts hn;obtain⟨pb,cb,pm,nm,A,OP,c,bc,bb,bH,I,aM,aI,u,aB,hN⟩:=hC.rest;have az:a<=f.length:=hP.bh.1;have aH:f.length<4^21:=qw au (by decide);have aY:Hid (∀o,K8 c.key (qr d.fs s J9).1 o->(qr d.fs s J9).2={s with ai:=s.ai+1}/\((xr d.fs CA=none/\a=0/\o=none)\/(xr d.fs CA≠none/\Bb d.fs f a/\o=some (a,yy (f.take a))))):=λo ho=>RQ hP.bh R (by omega) (by rw[u]at ho;exact ho);have ae:Hid (Bb d.fs f a->∃c' n',IQ (qr d.fs) EM c {s with ai:=s.ai+1} (some (a,yy (f.take a)))=(.inr (if 0<c.size/\c.size<a then EC f c.size a else []),c',n')/\(c'.key=c.key/\c'.size=a/\c'.room=c.room)/\CI f c' (t+1)/\n'.ao=[]/\s.ai+1<=n'.ai/\n'.ai<=s.ai+1+17000):=λha=>Ob (n:={s with ai:=s.ai+1}) EM (LW f aH) ax aH ha R I aI az;have HU:=ze (Pp W bA O A OP cb nb L pm nm d c s pb w hE hS bB bH aE bb (by omega) (by have:=I.le;omega) (by rw[u];omega) (zkz R J9 ap) (by have:=I.len;omega) I.gd.wf (Zs (by rw[u];exact hP.bh) R ax aH I aI));have HP:=ze hP;have HC:=ze hC;have bR:=ze R;have a2:Hid (∀k,O k->k<w.heap.size):=λk u=>(aE.own k u).2;have HW:Hid (W.heap.size<=w.heap.size):=aE.base.size;have b0:=ze bK;have bX:=ze bc;have bs:=ze bb;have bl:=ze I;have bj:=ze aM;have bq:=ze aI;have aD:=ze (And.intro u aB);have HN:=ze hN;have bw:=ze aV;have bO:=ze ax;have y:=ze (And.intro aQ bC);have bk:=ze aN;have aK:=ze au;have bu:=ze az;have r0:=(zm bc 0 _ rfl).1;clear hP hC bK bc bb bH I aM aI u aB hN aV ax aQ bC aN hd ap R aE aH b6 az hE hS bB au;unfold yu at r0 HU ⊢;go_enter func50,ntmps50;go_wp2_with fail;refine HU.o.mono ?_;rintro r b ⟨o,aO,j,x,rfl,hx⟩;obtain⟨bF,a8⟩:=aY.o o aO;rw[bF]at j hx ⊢;have aU:S1 b g pb (c.size:Int) D:=j.aj.keep bX.o (by decide);have M:KO b i L lv (.slice ea f.length ec) {key:=v,ar:=(a:Int),failed:=false,aw:=false}:=j.aj.keep b0.o (by decide);have z:=ze aU;have af:=ze M;have bn:Hid (ym b O L d):=j.sh.aG;have a5:=ze (zy bw.o j.aj (by decide));have bT:Hid (RP W.heap.size b O i L n f a v d):=HP.o.stay j.aj (by decide) (by decide) (by decide) (by decide) (by decide) (by decide) (by decide) (by decide);have a4:∀o,(b.alloc o).cell? ⟨i,4,none⟩=some (.int .i64 (a:Int)):=λo=>by have h:=(zm M 4 _ rfl).1;rw[xg _ _ ⟨i,4,none⟩ (yf h)];exact h
 have a0:∀o,(b.alloc o).cell? ⟨i,0,none⟩=some (BD L):=λo=>by have h:=(zm M 0 _ rfl).1;rw[xg _ _ ⟨i,0,none⟩ (yf h)];exact h
 have bi:=ze a0;clear aO bF aU M r0 HU a0;rcases a8 with ⟨hl,aJ,rfl⟩|⟨hl,H,rfl⟩
 ·have aR:CR W w b O A OP cb nb L pm nm d c {s with ai:=s.ai+1} (λ_=>True):=j;have U:b.ownsRow w.heap.size 9 1 x 0 []:=hx;have aZ:=ze aR;obtain⟨xa,xc,he⟩:=qt U;have HL:=ze hl;subst he;subst aJ;have aC:GA (IP (IQ (qr d.fs) EM c {s with ai:=s.ai+1} none).1).2=.agg #[.int .i64 3,.string ⟨#[]⟩]:=rfl;rw[aC];clear j aR hx U hl aC ae;have bE:=λo=>CN O L i d (b.alloc o) (by have:=y.o.1;omega) (bn.o.stay (zl.aa (O:=O) (T:=[]) (zi b o)) (by simp) (by simp)) (bi.o o);have G:=ze bE;have P:Hid ((b.alloc (.cells #[.int .i64 3,.string ⟨#[]⟩] 39)).heap[b.heap.size]?=some (.cells #[.int .i64 3,.string ⟨#[]⟩] 39 (0,0))):=zf _ _;have B:Hid (zc b (b.alloc (.cells #[.int .i64 3,.string ⟨#[]⟩] 39))):=zi _ _;clear bE;go_wp2_with fail;refine(G.o _).mono ?_;rintro r w3 ⟨v3,a6,rfl,J,aq,F,-⟩;have Q:Hid (zl (λk=>k=g) [KN] b w3):=.aa (B.o.trans (F.mono B.o.size));obtain⟨t0,-⟩:=zm ((zl.aa (O:=O) (T:=[]) F).keep P.o (by simp)) 0 _ rfl;have bY:Hid (S1 w3 g pb (c.size:Int) D):=(zl.aa (O:=O) (T:=[]) (B.o.trans (F.mono B.o.size))).keep z.o (by simp);have av:=(Wc y.o.2 J CA).1 HL.o;have C:=ze (AF v3 a6 CA w3 (by have:=J.length_eq;have:=y.o.1;omega) aq);rw[av]at C;clear J aq F av G P B;generalize b.heap.size=tb at *;unfold qy CA at C;go_wp2_with fail;refine C.o.mono ?_;rintro r w4 ⟨rfl,bg⟩;subst bg;clear C
  go_wp2
  go_ret;obtain⟨g1,g2,g3⟩:=LK aZ.o bs.o HN.o HC.o.own a2.o HW.o (bl.o.later (Ar t)) bj.o bq.o aD.o.1 aD.o.2 z.o Q.o bY.o;exact⟨by first|rfl|simp,g1,⟨_,g2,bR.o,by show s.ai+1<=_;omega⟩,g3⟩
 ·obtain⟨c',n',hu,⟨k1,k2,k3⟩,aP,aS,b5,bD⟩:=ae.o H;rw[hu]at j hx ⊢;have bm:=ze aP;have br:=ze (And.intro aS bD);have bo:Hid (c'.key=v/\c'.room=D):=⟨k1.trans aD.o.1,k3.trans aD.o.2⟩;have aX:Hid (Bb d.fs f c'.size):=by rw[k2];exact H
  have aL:=ze k2;have aZ:=ze j;have HL:=ze hl;have bG:(IP (Sum.inr (if 0<c.size/\c.size<a then EC f c.size a else []):Sum Er (za)))=((if 0<c.size/\c.size<a then EC f c.size a else []),((0:Int),([]:zb))):=rfl;have aC:GA (IP (Sum.inr (if 0<c.size/\c.size<a then EC f c.size a else []):Sum Er (za))).2=.agg #[.int .i64 0,.string ⟨#[]⟩]:=rfl;rw[aC];have U:b.ownsRow w.heap.size 9 1 x (if 0<c.size/\c.size<a then EC f c.size a else []).length ((if 0<c.size/\c.size<a then EC f c.size a else []).map AL):=hx;have b2:=ze U;obtain⟨xa,xc,he⟩:=qt U;have bV:Hid ((if 0<c.size/\c.size<a then EC f c.size a else []).length<=65):=by
   show _<=_;split
   ·exact Tj _ _ _
   ·simp
  have P:Hid ((b.alloc (.cells #[.int .i64 0,.string ⟨#[]⟩] 39)).heap[b.heap.size]?=some (.cells #[.int .i64 0,.string ⟨#[]⟩] 39 (0,0))):=zf _ _;have B:Hid (zc b (b.alloc (.cells #[.int .i64 0,.string ⟨#[]⟩] 39))):=zi _ _;have G:=ze (CN O L i d (b.alloc (.cells #[.int .i64 0,.string ⟨#[]⟩] 39)) (by have:=y.o.1;omega) (bn.o.stay (zl.aa (O:=O) (T:=[]) (zi b _)) (by simp) (by simp)) (bi.o _));have a3:Hid (zc b (b.alloc (.cells #[.int .i64 0,.string ⟨#[]⟩] 39))/\b.heap.size<(b.alloc (.cells #[.int .i64 0,.string ⟨#[]⟩] 39)).heap.size):=⟨zi _ _,by simp⟩;clear j hx U hl H hu k1 k2 k3 aP aS b5 bD bG aC ae bl;generalize l:(if 0<c.size/\c.size<a then EC f c.size a else [])=q at *;have ab:=ze l;clear l;subst he;have bz:Hid (∀Y V,zl (λk=>k=g) [KN] b Y->S1 Y g pb (a:Int) D->Y.ownsRow 0 9 1 V q.length (q.map AL)->Calls prog 22 #[.slice xa q.length xc,V] Y λr w6=>r=.returned (.bool true)/\Calls prog 52 #[yu g,yu i] w6 λr w7=>r=.returned (.bool true)/\zl (λk=>O k\/N k) rdT w w7/\(∃m,Sh W w7 O nb L d m/\m.ao=[]/\m.ai<=s.ai+40000)/\RC W w7 O g nb f d.fs a v D (t+1) (qv N w w7)):=λY V be aW S=>by
   rw[<- aL.o]at aW;obtain⟨g1,g2,g3⟩:=LK aZ.o bs.o HN.o HC.o.own a2.o HW.o bm.o aX.o (vx aL.o) bo.o.1 bo.o.2 z.o be aW;have bU:RP W.heap.size Y O i L n f a v d:=bT.o.stay be (by decide) (by decide) (by decide) (by decide) (by decide) (by decide) (by decide) (by decide);refine(MO _ V q w.heap.size 0 Y (by have:=bV.o;omega) (zy b2.o be (by decide)) S).mono ?_;rintro r w6 ⟨rfl,am⟩;refine⟨rfl,(Py W O _ g nb i L n f a v d D (t+1) w6 hn (bU.below am) (g3.below am)).mono ?_⟩;rintro r w7 ⟨rfl,bd,bI⟩;have s6:=am.size;have s7:=bd.size;have sY:=g1.size;refine⟨rfl,(g1.ah am).trans (bd.mono (λk u=>?_) (by decide)),⟨n',(g2.below am).past bd (λk u=>(g3.own k u).1) (by decide) (by decide) (by decide) (by decide) (by decide),br.o.1,by have:=br.o.2;omega⟩,bI.ext (by omega) a2.o HW.o⟩;rcases u with u|u
   ·exact .inl (.inr u)
   ·exact .inr ⟨u.1,by omega⟩
  have bx:Hid (∀(Z:World) (V:Value),zl (λ_=>False) [] b Z->Z.ownsRow 0 9 1 V q.length (q.map AL)->Z.cell? ⟨g,1,none⟩=some (.int .i64 (c.size:Int))/\Z.frozen? ⟨g,1,none⟩=false/\zl (λk=>k=g) [KN] b (Z.setCell ⟨g,1,none⟩ (.int .i64 (a:Int)))/\S1 (Z.setCell ⟨g,1,none⟩ (.int .i64 (a:Int))) g pb (a:Int) D/\(Z.setCell ⟨g,1,none⟩ (.int .i64 (a:Int))).ownsRow 0 9 1 V q.length (q.map AL)):=λZ V hz S=>by
   have aA:=hz.keep z.o (by simp);obtain⟨q1,f1⟩:=zm aA 1 _ rfl;have bJ:zl (λk=>k=g) [KN] Z (Z.setCell ⟨g,1,none⟩ (.int .i64 (a:Int))):=zl.set (O:=λk=>k=g) (T:=[KN]) (zl.refl _ _ _) (.inl rfl) aA (by simp) _;exact⟨q1,f1,(hz.mono (λ_ h=>h.elim) (by simp)).trans (bJ.mono (λ_ h=>.inl h) (λ_ h=>h)),Aw aA 1 _,zy S bJ (by decide)⟩
  by_cases aJ:a=0
  case' pos =>
   have b7:¬0<c.size:=by have:=bq.o;omega
   have l:q=[]:=by rw[<- ab.o,if_neg (by omega)]
   have bW:=ze l;clear l;have b4:c.size=0:=by omega
   have cd:∀o,(b.alloc o).cell? ⟨i,4,none⟩=some (.int .i64 0):=λo=>by rw[a4 o,aJ];rfl
   clear a4 b7;go_wp2_with fail;refine G.o.mono ?_;rintro r w3 ⟨v3,a6,rfl,J,aq,F,-⟩;have Q:Hid (zl (λ_=>False) [] b w3):=.aa (a3.o.1.trans (F.mono a3.o.1.size));obtain⟨t0,-⟩:=zm ((zl.aa (O:=O) (T:=[]) F).keep P.o (by simp)) 0 _ rfl;obtain⟨kk,av⟩:=(Wc y.o.2 J CA).2 HL.o;have C:=ze (AF v3 a6 CA w3 (by have:=J.length_eq;have:=y.o.1;omega) aq);rw[av]at C;clear J aq F av G P B;generalize b.heap.size=tb at *;unfold qy CA at C;go_wp2_with fail;refine C.o.mono ?_;rintro r wc ⟨rfl,bg⟩;subst bg;clear C;have ch:¬(kk:Int)<0:=by omega
   have ag:Hid (wc.ownsRow 0 9 1 (.slice none 0 0) q.length (q.map AL)):=by
    show World.ownsRow _ _ _ _ _ _ _;rw[bW.o];exact⟨rfl,.inl ⟨rfl,rfl⟩⟩
   clear aJ;have ad:Hid (zl (λ_=>False) [] b wc):=Q.o;have ak:Hid (wc.ownsRow 0 9 1 (.slice none 0 0) q.length (q.map AL)):=ag.o;have z4:wc.cell? ⟨i,4,none⟩=some (.int .i64 (a:Int)):=(zm (Q.o.keep af.o (by simp)) 4 _ rfl).1;have z1:wc.cell? ⟨g,1,none⟩=some (.int .i64 0):=by have h:=(zm (Q.o.keep z.o (by simp)) 1 _ rfl).1;rw[b4]at h;exact h
   clear Q ag
  case' neg =>
   have b8:((a:Int)==0)=false:=by simp;omega
   have E:Hid (zl (λ_=>False) [] b (b.alloc (.cells #[.int .i64 0,.string ⟨#[]⟩] 39))):=.aa a3.o.1;obtain⟨t0,-⟩:=zm P.o 0 _ rfl;have b1:∀o,(b.alloc o).cell? ⟨g,1,none⟩=some (.int .i64 (c.size:Int)):=λo=>by have h:=(zm z.o 1 _ rfl).1;rw[xg _ _ ⟨g,1,none⟩ (yf h)];exact h
   have b3:∀o,(b.alloc o).cell? ⟨i,3,none⟩=some (.slice ea f.length ec):=λo=>by have h:=(zm af.o 3 _ rfl).1;rw[xg _ _ ⟨i,3,none⟩ (yf h)];exact h
   by_cases K:0<c.size/\c.size<a
   case' pos =>
    have l:q=EC f c.size a:=by rw[<- ab.o,if_pos K]
    obtain⟨b9,ci⟩:=K;have ca:(0:Int)<(c.size:Int):=by omega
    have cc:(c.size:Int)<(a:Int):=by omega
    have ay:a<=f.length:=bu.o;have cg:=bk.o;have bt:Hid (∀X,Below (b.alloc (.cells #[.int .i64 0,.string ⟨#[]⟩] 39)).heap.size (b.alloc (.cells #[.int .i64 0,.string ⟨#[]⟩] 39)) X->Calls prog 23 #[.int .i64 (c.size:Int),.slice ea a ec,.bool true] X λr w'=>∃x,r=.returned x/\zc X w'/\P7 X w' x q):=λX hb=>by
     have h:=Ss (.slice ea a ec) (f.take a) c.size X (by have:=ET ay;have:=aK.o;omega) (λe he=>bO.o e (qa he)) (by omega) (by rw[ET ay];omega) (La.take (Dg (zy a5.o (E.o.ah hb) (by simp))) a ay);rw[ET ay,W9 f c.size a a ay (by have:=aK.o;omega) b9 (by omega) (zk _),<- l]at h;exact h
    have aF:decide ((0:Int)<(c.size:Int))=true:=by simp;omega
    have a9:decide ((c.size:Int)<(a:Int))=true:=by simp;omega
    have z1:=b1 (.cells #[.int .i64 0,.string ⟨#[]⟩] 39);have z3:=b3 (.cells #[.int .i64 0,.string ⟨#[]⟩] 39);have z4:=a4 (.cells #[.int .i64 0,.string ⟨#[]⟩] 39);have bP:Hid (Below (b.alloc (.cells #[.int .i64 0,.string ⟨#[]⟩] 39)).heap.size (b.alloc (.cells #[.int .i64 0,.string ⟨#[]⟩] 39)) (b.alloc (.cells #[.int .i64 0,.string ⟨#[]⟩] 39)).drew.drew):=(zu _ _).drew.drew;have bZ:Hid (zl (λ_=>False) [] b (b.alloc (.cells #[.int .i64 0,.string ⟨#[]⟩] 39)).drew.drew):=E.o.drew.drew;have cf:(a:Int)<=(ec:Int):=by omega
    clear G l E
    go_wp2
    go_region
    all_goals go_wp2_with fail
    have bp:Hid (∀X,Below (b.alloc (.cells #[.int .i64 0,.string ⟨#[]⟩] 39)).drew.drew.heap.size (b.alloc (.cells #[.int .i64 0,.string ⟨#[]⟩] 39)).drew.drew X->X.cell? ⟨g,1,none⟩=some (.int .i64 (c.size:Int))/\X.cell? ⟨i,3,none⟩=some (.slice ea f.length ec)/\X.cell? ⟨i,4,none⟩=some (.int .i64 (a:Int))):=λX hb=>⟨by rw[hb.cell (p:=⟨g,1,none⟩) (yf z1)];exact z1,by rw[hb.cell (p:=⟨i,3,none⟩) (yf z3)];exact z3,by rw[hb.cell (p:=⟨i,4,none⟩) (yf z4)];exact z4⟩
    go_cut [8] from 56 to 69 (λs8 wx=>∃ya yc,s8=.slice ya q.length yc/\zl (λ_=>False) [] b wx/\wx.ownsRow 0 9 1 (.slice ya q.length yc) q.length (q.map AL))
    case first =>
     clear aF a9 b8
     go_region_held3 (λX=>X.cell? ⟨g,1,none⟩=some (.int .i64 (c.size:Int))/\X.cell? ⟨i,3,none⟩=some (.slice ea f.length ec)/\X.cell? ⟨i,4,none⟩=some (.int .i64 (a:Int))) (go_keep) (first|(go_at_call 23;refine(bt.o _ bP.o).mono ?_;rintro r w2 ⟨xx,rfl,a7,ba⟩;obtain⟨p1,p3,p4⟩:=bp.o w2 a7;obtain⟨ya,yc,he⟩:=qt ba;subst he;have B:=ze a7;have bS:=ze ba;clear a7 ba))
     all_goals go_wp2_with fail
     all_goals go_meet
     all_goals exact⟨ya,yc,rfl,bZ.o.ah B.o,G5 bS.o (yk _)⟩
    case' rest =>
     obtain⟨ya,yc,rfl,bf,S⟩:=hcut;have ad:=ze bf;have ak:=ze S;have q4:wc.cell? ⟨i,4,none⟩=some (.int .i64 (a:Int)):=(zm (bf.keep af.o (by simp)) 4 _ rfl).1;clear bf S bp bt z1 z3 z4 b1 b3 a4 aF a9
   case' neg =>
    have l:q=[]:=by rw[<- ab.o,if_neg K]
    have ag:Hid ((b.alloc (.cells #[.int .i64 0,.string ⟨#[]⟩] 39)).ownsRow 0 9 1 (.slice none 0 0) q.length (q.map AL)):=by
     show World.ownsRow _ _ _ _ _ _ _;rw[l];exact⟨rfl,.inl ⟨rfl,rfl⟩⟩
    have ad:Hid (zl (λ_=>False) [] b (b.alloc (.cells #[.int .i64 0,.string ⟨#[]⟩] 39))):=E.o;have ak:=ze ag.o;have z1:=b1 (.cells #[.int .i64 0,.string ⟨#[]⟩] 39);have z4:=a4 (.cells #[.int .i64 0,.string ⟨#[]⟩] 39);clear G l ag E
    by_cases ce:0<c.size
    case' pos =>
     have aF:decide ((0:Int)<(c.size:Int))=true:=by simp;omega
     have a9:decide ((c.size:Int)<(a:Int))=false:=by simp;omega
    case' neg=>have aF:decide ((0:Int)<(c.size:Int))=false:=by simp;omega
  all_goals
   obtain⟨q1,f1,bL,bM,bN⟩:=bx.o _ _ ad.o ak.o;have HY:=ze (And.intro bL (And.intro bM bN));clear bL bM bN bx;go_wp2_with fail
   try (go_region;all_goals go_wp2_with fail)
   all_goals
    refine(bz.out _ _ (by first|exact HY.o.1|exact HY.o.1.drew) (by first|exact HY.o.2.1|exact(HY.o.2.1:S1 _ _ _ _ _)) (by exact HY.o.2.2)).mono ?_;rintro r w6 ⟨rfl,u⟩;have a1:=ze u;clear u bz HY;unfold yu at a1;go_wp2_with fail;refine a1.o.mono ?_;rintro r w7 ⟨rfl,u⟩;have bQ:=ze u;clear u a1
    go_wp2
    go_ret;exact⟨by first|rfl|simp,bQ.o⟩
end Go.Proofs.YtfdbeldiomkdiaaGreatDoor
