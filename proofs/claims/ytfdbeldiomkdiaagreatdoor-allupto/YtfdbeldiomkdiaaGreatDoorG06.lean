import Derived.Test.YtfdbeldiomkdiaaGreatDoorG05
set_option maxHeartbeats 8000000
set_option maxRecDepth 100000
set_option linter.all false
namespace Go.Proofs.YtfdbeldiomkdiaaGreatDoor
open Go.RowKit Go.Proofs.Tryz
def qj:=@Option.some.inj
def Cm:=@mem_ready
def S0:=@Bool.true_and
def XA:=@wp_store_row
variable {g:Nat}{leaf:zb}{ps:za}{t:TypeId}{w:World}{x0 x1 x2 x3 x4 x5 x6 x7:Int}
def Ue (a:w.heap[g]?=some (.cells #[.int .u8 x0,.int .u8 x1,.int .u8 x2,.int .u8 x3,.int .u8 x4,.int .u8 x5,.int .u8 x6,.int .u8 x7] t (0,0))):
  w.cell? ⟨g,0,none⟩=some (.int .u8 x0)/\w.cell? ⟨g,1,none⟩=some (.int .u8 x1)/\w.cell? ⟨g,2,none⟩=some (.int .u8 x2)/\w.cell? ⟨g,3,none⟩=some (.int .u8 x3)/\w.cell? ⟨g,4,none⟩=some (.int .u8 x4)/\w.cell? ⟨g,5,none⟩=some (.int .u8 x5)/\w.cell? ⟨g,6,none⟩=some (.int .u8 x6)/\w.cell? ⟨g,7,none⟩=some (.int .u8 x7):=by
 refine⟨?_,?_,?_,?_,?_,?_,?_,?_⟩<;>(rw[xe _ _ _ _ _ _ a];rfl)
def zkn (b c:zb)(i n:Int)(v:Value)(m:za)(w:World)(e:i<0\/n<=i)(j:b.length=8)(k:c.length=8)(h:ON w v m):
  Calls prog 69 #[.agg (hv b),.int .i64 i,.int .i64 n,v,.agg (hv c)] w λr o=>r=.returned (.bool false)/\zc w o:=by
 obtain⟨a,f,rfl,-,-,-⟩:=h;have p:(hv b).size=8:=by rw[BU,j]
 have l:(hv c).size=8:=by rw[BU,k]
 by_cases d:i<0
 ·go_enter func69,ntmps69
  go_wp2
  go_ret;exact⟨rfl,qg _ _ _⟩
 ·have g:n<=i:=by omega
  go_enter func69,ntmps69
  go_wp2
  go_ret;exact⟨rfl,qg _ _ _⟩
def zna (f:Nat)(b c:zb)(i n:Int)(t:0<=i)(u:i<n)(hn:n<=9223372036854775807)(v:Value)(g:za)(w:World)(Z:g.length<f)(hp:g.length<=1000000)(x:b.length=8)(K:c.length=8)(h:ON w v g):
  Calls prog 69 #[.agg (hv b),.int .i64 i,.int .i64 n,v,.agg (hv c)] w λr w'=>r=.returned (.bool ((BF jh f b i.toNat n.toNat g).2&&Kh (BF jh f b i.toNat n.toNat g).1 c))/\zc w w':=by
 have H:=ze h;obtain⟨a,q,rfl,-,-,-⟩:=h;have hs:(hv b).size=8:=by rw[BU,x]
 have G:=ze hs;have V:=ze (zln b x f i n (.slice a g.length q) g);have j:=ze (O9 jh b rfl x f i.toNat n.toNat g);obtain⟨y,z,A,B,C,D,E,F,L⟩:=MB c K;have W:=ze L;generalize hR:BF jh f b i.toNat n.toNat g=R at *;obtain⟨p,X⟩:=R;obtain⟨M,N,O,P,Q,S,T,U,hx⟩:=MB p j.o;have I:=ze hx;have ab:¬i<0:=by omega
 have aa:¬n<=i:=by omega
 rw[L];have ad:=G.o;go_enter func69,ntmps69;go_wp2_with (refine DN rfl 91 _ rfl w.heap.size rfl 91 _ (0,0) _ (by exact zr (zf _ _)) underlying91 rfl (by rw[G.o];kernel_rfl) ?_);refine(V.o _ t u hn Z hp (H.o.below (qg _ _ _))).mono ?_;rintro e m ⟨l,k⟩;rw[I.o]at l;subst l;have d:=ze ((qg _ _ _).trans (k.mono (by simp;omega)));have J:m.heap[w.heap.size+1]?=some (.cells #[.int .u8 y,.int .u8 z,.int .u8 A,.int .u8 B,.int .u8 C,.int .u8 D,.int .u8 E,.int .u8 F] 91 (0,0)):=by
  rw[k.block _ (by simp),show w.heap.size+1=(w.alloc (.cells (hv b) 91)).heap.size by simp];exact zf _ _
 have hz:=vk J;have s:∀o,(m.alloc o).heap[w.heap.size+1]?=some (.cells #[.int .u8 y,.int .u8 z,.int .u8 A,.int .u8 B,.int .u8 C,.int .u8 D,.int .u8 E,.int .u8 F] 91 (0,0)):=λo=>zr J;obtain⟨c0,c1,c2,c3,c4,c5,c6,c7⟩:=Ue (s (.cells #[.int .u8 M,.int .u8 N,.int .u8 O,.int .u8 P,.int .u8 Q,.int .u8 S,.int .u8 T,.int .u8 U] 91));cases X with
 |false =>
  go_wp2
  go_ret;exact⟨rfl,d.o.trans ((zi m _).mono d.o.size)⟩
 |true =>
  have Y:∀w,(binOp .eql 91 (.agg #[.int .u8 M,.int .u8 N,.int .u8 O,.int .u8 P,.int .u8 Q,.int .u8 S,.int .u8 T,.int .u8 U]) (.agg #[.int .u8 y,.int .u8 z,.int .u8 A,.int .u8 B,.int .u8 C,.int .u8 D,.int .u8 E,.int .u8 F])).run prog w=.ok (.bool (Kh p c)) w:=λw=>by
   rw[<- I.o,<- W.o];exact Ln p c j.o K w
  go_wp2
  go_ret;exact⟨rfl,d.o.trans ((zi m _).mono d.o.size)⟩
def P9 (f:Nat)(a:zb)(i n:Int)(c:za)(b:zb):Bool:=
 if i<0\/n<=i then false else (BF jh f a i.toNat n.toNat c).2&&Kh (BF jh f a i.toNat n.toNat c).1 b
def Wa {f:Nat}{a:zb}{i n:Int}(h:i<0\/n<=i):P9 f leaf i n ps a=false:=by
 rw[P9,if_pos h]
def Uu {f:Nat}{a:zb}{i n:Int}(h:¬(i<0\/n<=i)):P9 f leaf i n ps a=((BF jh f leaf i.toNat n.toNat ps).2&&Kh (BF jh f leaf i.toNat n.toNat ps).1 a):=by
 rw[P9,if_neg h]
def zgp {f:Nat}{a:zb}{i n:Int}(h:¬(i<0\/n<=i)):P9 f leaf i n ps a=((BF [] f leaf i.toNat n.toNat ps).2&&Kh (BF [] f leaf i.toNat n.toNat ps).1 a):=by
 rw[Uu h];obtain⟨b,c⟩:=YM jh [] leaf f i.toNat n.toNat ps;rw[<- b];cases d:(BF jh f leaf i.toNat n.toNat ps).2
 ·rfl
 ·rw[c d]
def ZR (f:Nat)(a b:zb)(i n:Int)(k:n<=9223372036854775807)(v:Value)(d:za)(w:World)(j:d.length<f)(l:d.length<=1000000)(e:a.length=8)(g:b.length=8)(h:ON w v d):
  Calls prog 69 #[.agg (hv a),.int .i64 i,.int .i64 n,v,.agg (hv b)] w λr m=>r=.returned (.bool (P9 f a i n d b))/\zc w m:=by
 by_cases c:i<0\/n<=i
 ·rw[Wa c];exact zkn a b i n v d w c e g h
 ·rw[Uu c];exact zna f a b i n (by omega) (by omega) k v d w j l e g h
def U8 (f:Nat)(b c:ByteArray)(i n:Int)(D:n<=9223372036854775807)(v:Value)(l:List ByteArray)(w:World)(B:l.length<f)(y:l.length<=1000000)(h:CT w v l):
  Calls prog 24 #[.string b,.int .i64 i,.int .i64 n,v,.string c] w λr E=>r=.returned (.bool (P9 f (e8 b.data.toList) i n (l.map λs=>e8 s.data.toList) (e8 c.data.toList)))/\zc w E:=by
 have H:=ze h;obtain⟨a,A,rfl,-,-⟩:=h;go_enter func24,ntmps24;go_wp2_with fail;refine(JF b _).mono ?_;rintro e F ⟨rfl,q⟩;have d:=ze q;go_wp2_with fail;refine(Q6 _ l _ y (H.o.below d.o)).mono ?_;rintro e G ⟨x,rfl,t,C⟩;have g:=ze (d.o.trans (t.mono d.o.size));have z:=ze C;go_wp2_with fail;refine(JF c _).mono ?_;rintro e I ⟨rfl,k⟩;have j:=ze (g.o.trans (k.mono g.o.size));have p:=ze (z.o.below k);go_wp2_with fail;refine(ZR f _ _ i n D x _ _ (by rw[yg];exact B) (by rw[yg];exact y) (CB _) (CB _) p.o).mono ?_;rintro e J ⟨rfl,u⟩;have m:=ze (j.o.trans (u.mono j.o.size))
 go_wp2
 go_ret;exact⟨rfl,m.o⟩
def PI (a b:zb):(a==b)=Kh a b:=by
 unfold Kh;rw[CV,CY,ja]
def YO (b c:zb)(i n:Int)(v:Value)(j:List ByteArray)(w:World)(e:i<0\/n<=i)(h:CT w v j):
  Calls prog 27 #[AL b,.int .i64 i,.int .i64 n,v,AL c] w λr k=>r=.returned (.bool false)/\zc w k:=by
 obtain⟨a,f,rfl,-,-⟩:=h
 by_cases d:i<0
 ·go_enter func27,ntmps27
  go_wp2
  go_ret;exact⟨rfl,zu _ _⟩
 ·have g:n<=i:=by omega
  go_enter func27,ntmps27
  go_wp2
  go_ret;exact⟨rfl,zu _ _⟩
def zdm (f:Nat)(b d:zb)(i n:Int)(l:0<=i)(m:i<n)(B:n<=9223372036854775807)(v:Value)(c:List ByteArray)(w:World)(x:c.length<f)(C:c.length<=1000000)(z:b.length<=8)(u:∀p∈A0 c,p.length<=8)(h:CT w v c):
  Calls prog 27 #[AL b,.int .i64 i,.int .i64 n,v,AL d] w λr D=>r=.returned (.bool ((BF [] f b i.toNat n.toNat (A0 c)).2&&Kh (BF [] f b i.toNat n.toNat (A0 c)).1 d))/\zc w D:=by
 have H:=ze h;obtain⟨a,j,rfl,-,-⟩:=h;have s:=ze (YP b z f i n (.slice a c.length j) c);generalize F:BF [] f b i.toNat n.toNat (A0 c)=R at *;obtain⟨E,t⟩:=R;have A:¬i<0:=by omega
 have y:¬n<=i:=by omega
 have q:=ze u;go_enter func27,ntmps27;go_wp2_with fail;refine(s.o _ l m B x C q.o H.o).mono ?_;rintro e G ⟨rfl,k⟩;have g:=ze k;cases t with
 |false =>
  go_wp2
  go_ret;exact⟨rfl,g.o⟩
 |true =>
  unfold AL
  go_wp2
  go_ret;exact⟨by rw[S0,<- PI];rfl,g.o⟩
def Rt (f:Nat)(a b:zb)(i n:Int)(k:n<=9223372036854775807)(v:Value)(d:List ByteArray)(w:World)(g:d.length<f)(l:d.length<=1000000)(j:a.length<=8)(e:∀p∈A0 d,p.length<=8)(h:CT w v d):
  Calls prog 27 #[AL a,.int .i64 i,.int .i64 n,v,AL b] w λr m=>r=.returned (.bool (P9 f a i n (A0 d) b))/\zc w m:=by
 by_cases c:i<0\/n<=i
 ·rw[Wa c];exact YO a b i n v d w c h
 ·rw[zgp c];exact zdm f a b i n (by omega) (by omega) k v d w g l j e h
def XW (a:List ByteArray):A0 (a.map c8)=a.map λs=>e8 s.data.toList:=by
 simp[A0,c8]
def zg3 (b:List ByteArray):∀p∈A0 (b.map c8),p.length<=8:=by
 rw[XW];intro p a;obtain⟨s,_,rfl⟩:=yi.1 a;exact vx (CB _)
def Uv (b c:ByteArray)(i n:Int)(D:n<=9223372036854775807)(v:Value)(e:List ByteArray)(w:World)(I:e.length<=maxLen)(G:∀s∈e,s.size<=maxLen)(h:CT w v e):
  Calls prog 6 #[.string b,.int .i64 i,.int .i64 n,v,.string c] w λr L=>r=.returned (.bool true)/\zc w L:=by
 have H:=ze h;have C:=ze I;have A:=ze G;obtain⟨a,F,rfl,-,-⟩:=h;cases d:Mn e with
 |false =>
  have p:=ze d;go_enter func6,ntmps6;go_wp2_with fail;refine(GX _ e _ C.o A.o H.o).mono ?_;rintro r M ⟨f,rfl⟩;rw[p.o]at f;subst f
  go_wp2
  go_ret;exact⟨rfl,zu _ _⟩
 |true =>
  have p:=ze d;obtain⟨J,-⟩:=JB d;go_enter func6,ntmps6;go_wp2_with fail;refine(GX _ e _ C.o A.o H.o).mono ?_;rintro r M ⟨f,rfl⟩;rw[p.o]at f;subst f;go_wp2_with fail;refine(U8 5000 b c i n D _ e _ (by omega) (by omega) H.o).mono ?_;rintro r N ⟨rfl,q⟩;have j:=ze q;go_wp2_with fail;refine(FZ b _).mono ?_;rintro r O ⟨rfl,t⟩;have k:=ze (j.o.trans (t.mono j.o.size));go_wp2_with fail;refine(FZ c _).mono ?_;rintro r P ⟨rfl,u⟩;have g:=ze (k.o.trans (u.mono k.o.size));go_wp2_with fail;refine(Qw _ e _ (by omega) (H.o.below g.o)).mono ?_;rintro r Q ⟨x,rfl,y,K⟩;have l:=ze (g.o.trans (y.mono g.o.size));have E:=ze K;go_wp2_with fail;refine(Rt 5000 (e8 b.data.toList) (e8 c.data.toList) i n D x (e.map c8) _ (by rw[yg];omega) (by rw[yg];omega) (vx (CB _)) (zg3 e) E.o).mono ?_;rintro r R ⟨f,z⟩;rw[XW]at f;subst f;have m:=ze (l.o.trans (z.mono l.o.size));generalize P9 5000 (e8 b.data.toList) i n (e.map λs=>e8 s.data.toList) (e8 c.data.toList)=B at *
  go_wp2
  go_ret;exact⟨by simp,m.o⟩
variable {fuel i:Nat}{v:Value}
section
/- A REGION THAT DRAWS ITS ORDER,WHOSE STORES TURN WHAT ITS LOADS READ:the loads are taken first under a condition S on the world;S is shown anew only behind operations ahead of the stores (those that D names),for these wait for the loads. -/
section
variable {P:Program}{ops:Array Oper}{Q:Exit -> Act -> World -> Prop}{md:Region.Mode}{S:World -> Prop}{D:Nat -> Bool}
def wpT (P:Program)(md:Region.Mode)(ops:Array Oper)(Q:Exit->Act->World->Prop)(S:World->Prop)(D:Nat->Bool):Nat->Array Bool->Act->World->Prop
 |0,b,a,w=>Region.ready md ops b=[]/\Q .normal a w
 |c+1,b,a,w =>
  (Region.ready md ops b=[]->Q .normal a w) /\
  ∀i∈Region.ready md ops b,wpOp P ops Q i (λe d=>if D i=true then wpAny P md ops Q c (b.setIfInBounds i true) e d else S d/\wpT P md ops Q S D c (b.setIfInBounds i true) e d) a w
def RU:∀(c:Nat) (b:Array Bool)(a:Act)(w:World) ,wpT P md ops Q S D c b a w->wpAny P md ops Q c b a w
 |0,_,_,_,h=>h
 |c+1,b,a,w,h=>⟨h.1,λi g=>wpOp_mono (λf j d=>by
   by_cases e:D i=true
   ·rw[if_pos e]at d;exact d
   ·rw[if_neg e]at d;exact RU c _ f j d.2) (h.2 i g)⟩
def MT (md:Region.Mode)(ops:Array Oper)(a:Array Bool)(i:Nat)(W:List Nat):Bool:=
 !W.contains i&&W.all λj=>!a.getD j true&&match ops[j]? with
  |some o=>o.after.any λe=>Region.binds md e&&(e.on==i||W.contains e.on)
  |none=>false
def zes {G:Oper}{W:List Nat}(hi:ops[i]?=some G)(B:∀(j:Nat) (o:Oper) J b,ops[j]?=some o->o.op≠ .select J b)
 (hQ:∀c a w,Q (.panic c) (a.put G.dst v) w->Q (.panic c) a w) (hD:∀j,D j=true->j∈W) :
  ∀(g:Nat) (d:Array Bool) (a:Act) (w:World),MT md ops d i W=true ->
   (∀j I,ops[j]?=some I->j≠i->d.getD j true=false->(∀e∈I.after,Region.binds md e=true->e.on≠i)->G.apart ops I=true) ->
   i∈Region.ready md ops d->YieldsIf P ops S G v a->S w ->
   wpT P md ops Q S D g (d.setIfInBounds i true) (a.put G.dst v) w->wpT P md ops Q S D (g+1) d a w:=by
 intro g
 induction g with
 |zero =>
  intro d a w u _ F T L H;refine⟨λh=>(by rw[h]at F;cases F),λj s=>?_⟩
  by_cases l:j=i
  ·subst l;have t:¬D j=true:=λY=>by
    have:=hD j Y;simp[MT,this]at u
   refine T.wpOp hi L ?_;rw[if_neg t];exact⟨L,H⟩
  ·have:=ready_mono s l;rw[H.1]at this;cases this
 |succ g ih =>
  intro d a w u p F T L H;have af:¬i∈W:=by
   intro h;simp[MT,h]at u
  have r:∀j∈W,d.getD j true=false/\∃o,ops[j]?=some o/\∃e∈o.after,Region.binds md e=true/\(e.on=i\/e.on∈W):=by
   intro j s;simp only[MT,A3,AW]at u;have m:=u.2 j s;cases R:ops[j]? with
   |none=>simp[R]at m
   |some o =>
    simp only[R,Bool.not_eq_true',Array.any_eq_true',A3,Bool.or_eq_true,CY,List.contains_eq_mem,ja]at m;exact⟨m.1,o,rfl,m.2⟩
  have z:=(Cm.1 F).1;have f:∀k,d.getD k true=false->d.getD k false=true->False:=λk h0 m=>by
   rcases qf k d.size with U|U
   ·simp[U]at h0 m;rw[h0]at m;cases m
   ·simp[A7 U]at m
  have C:∀j,j∈Region.ready md ops d->¬j∈W:=by
   intro j s ab;obtain⟨_,o,R,e,Z,X,q⟩:=r j ab;obtain⟨_,o',O,n⟩:=Cm.1 s;rw[R]at O;obtain rfl:=qj O;have hl:=n e Z X;rcases q with q|q
   ·rw[q]at hl;exact f i z hl
   ·exact f _ (r _ q).1 hl
  refine⟨λh=>(by rw[h]at F;cases F),λj s=>?_⟩;have t:¬D j=true:=λY=>C j s (hD j Y)
  by_cases l:j=i
  ·subst l;refine T.wpOp hi L ?_;rw[if_neg t];exact⟨L,H⟩
  ·have m:=H.2 j (ready_mono s l);obtain⟨A,I,E,n⟩:=Cm.1 s;have N:∀e∈I.after,Region.binds md e=true->e.on≠i:=λe Z X aa=>by
    have m:=n e Z X;rw[aa]at m;exact f i z m
   have h2:=wpOp_putIf E (p j I E l A N) (λJ b=>B i G J b hi) (λJ b=>B j I J b E) hQ T m
   have x:∀k ok,ops[k]?=some ok->k≠i->(d.setIfInBounds j true).getD k true=false ->
     (∀e∈ok.after,Region.binds md e=true->e.on≠i)->G.apart ops ok=true:=λk ok M ad r ae=>by
    refine p k ok M ad ?_ ae
    by_cases y:j=k
    ·subst y;exact A
    ·rw[getD_set_ne true y]at r;exact r
   have V:MT md ops (d.setIfInBounds j true) i W=true:=by
    simp only[MT,A3,AW]at u ⊢;refine⟨u.1,λk M=>⟨?_,(u.2 k M).2⟩⟩;have y:j≠k:=by rintro rfl;exact C j s M
    rw[getD_set_ne true y];exact(u.2 k M).1
   refine wpOp_mono (λa' w' K=>?_) h2;rw[if_neg t]at K ⊢;refine⟨K.2.1,ih (d.setIfInBounds j true) a' w' V x (ready_mono F (Ne.symm l)) K.1 K.2.1 ?_⟩;rw[Array.setIfInBounds_comm _ _ l];exact K.2.2
def IK {d:Oper}(W:List Nat){b:Array Bool}{a:Act}(e:ops[i]?=some d)
 (o:Region.noSelect ops=true) (m:Region.free md ops b i=true) (n:(Region.ready md ops b).contains i=true) (l:MT md ops b i W=true) (f:∀j,D j=true->j∈W)
 (g:∀c a w,Q (.panic c) (a.put d.dst v) w->Q (.panic c) a w) (p:YieldsIf P ops S d v a) (k:S w)
 (h:wpT P md ops Q S D fuel (b.setIfInBounds i true) (a.put d.dst v) w):wpT P md ops Q S D (fuel+1) b a w:=
 zes e (Region.noSelect_spec o) g f fuel b a w l (Region.free_spec e m) (by simpa using n) p k h
def UU (i:Nat){e:Oper}{b:Array Bool}{a:Act}(o:ops[i]?=some e)(n:e.guard=none)(g:Region.ready md ops b=[i])(m:D i=false)
 (h:∀K:Act->World->Prop,(∀d c,S c->wpT P md ops Q S D fuel (b.setIfInBounds i true) d c->K d c)->e.wp P a w K Q):wpT P md ops Q S D (fuel+1) b a w:=by
 refine⟨λh0=>(by rw[g]at h0;cases h0),λj f=>?_⟩;rw[g]at f;obtain rfl:j=i:=by simpa using f
 unfold wpOp;simp only[o];rw[if_pos (by simp[Region.wanted,n])];refine .inl (h _ λd c l k=>?_);rw[if_neg (by rw[m];simp)];exact⟨l,k⟩
def TP (i:Nat){d:Oper}{b:Array Bool}{a:Act}(n:ops[i]?=some d)(m:d.guard=none)(g:Region.ready md ops b=[i])(l:D i=true)
 (h:∀K:Act->World->Prop,(∀c e,wpAny P md ops Q fuel (b.setIfInBounds i true) c e->K c e)->d.wp P a w K Q):wpT P md ops Q S D (fuel+1) b a w:=by
 refine⟨λh0=>(by rw[g]at h0;cases h0),λj f=>?_⟩;rw[g]at f;obtain rfl:j=i:=by simpa using f
 unfold wpOp;simp only[n];rw[if_pos (by simp[Region.wanted,m])];refine .inl (h _ λc e k=>?_);rw[if_pos l];exact k
def Mk (i:Nat){d:Oper}{b:Array Bool}{a:Act}(m:ops[i]?=some d)(l:d.guard=none)(g:Region.ready md ops b=[i])
 (h:∀K:Act->World->Prop,(∀c e,wpAny P md ops Q fuel (b.setIfInBounds i true) c e->K c e)->d.wp P a w K Q):wpAny P md ops Q (fuel+1) b a w:=by
 refine⟨λh0=>(by rw[g]at h0;cases h0),λj f=>?_⟩;rw[g]at f;obtain rfl:j=i:=by simpa using f
 unfold wpOp;simp only[m];rw[if_pos (by simp[Region.wanted,l])];exact .inl (h _ λc e k=>k)
def NQ {id:Nat}{a:Act}(S:World->Prop)(D:Nat->Bool)(i:Nat){b:Oper}(x:Operand)(v:Value)(l:P.follows .mixedOrders=true)(d:ops.size=fuel+1)
 (k:ops[i]?=some b) (n:Region.noSelect ops=true) (e:Region.free .any ops (Array.replicate ops.size false) i=true) (f:(Region.ready .any ops (Array.replicate ops.size false)).contains i=true)
 (g:∀c a w,Q (.panic c) (a.put b.dst v) w->Q (.panic c) a w) (j:b.guard=none) (m:b.op=.move x) (o:a.eval x=v)
 (h:wpT P .any ops Q S D fuel ((Array.replicate ops.size false).setIfInBounds i true) (a.put b.dst v) w.drew):(Code.region id ops true).wp P Q a w:=by
 refine wp_region_any l ?_;rw[show ops.size=fuel+1 from d]at h e f ⊢;exact wpAny_take k n e f g (.inl ⟨by simp[Region.wanted,j],λw=>by unfold execOp;simp[m,o]⟩) (RU _ _ _ _ h)
def Fg {op:Oper}{a:Act}(hw:Region.wanted op (yielded ops a.tmps)=true)(ty:TypeId)(x:Operand)(ho:op.op=.load ty x)
  (g:Nat) (hx:a.eval x=.pointer (some ⟨g,0,none⟩)) (t:TypeId) (cs:Array Value) (d:TypeDesc) (hS:∀w,S w->w.heap[g]?=some (.cells cs t (0,0)))
  (hu:P.underlying ty=some d) (hd:(match d with|.struct _|.array _ _=>true|_=>false)=true) (hi:(P.info? ty).map (·.size)=some cs.size):YieldsIf P ops S op (.agg cs) a:=
 .inl ⟨hw,λw b=>by
  unfold execOp;simp only[ho,hx,Instr.loadAt,Instr.sureAddr,NW,Sem.run_pure,Vd,BS w g t ty cs (0,0) d (hS w b) hu hd hi]⟩
end
end
variable {wy wz:World}
def Ee {P:Program}{fn:Func}{p q u:Tmp}{ty:TypeId}(h:fn.results=#[.cell p ty,.cell q ty,.tmp u])(tmps:Array Value)(w:World)(g g':Nat)(t:TypeId)(cs cs':Array Value)(d:TypeDesc)
  (hp:tmps.getD p undef=.pointer (some ⟨g,0,none⟩)) (hg:w.heap[g]?=some (.cells cs t (0,0))) (hq:tmps.getD q undef=.pointer (some ⟨g',0,none⟩)) (hg':w.heap[g']?=some (.cells cs' t (0,0)))
  (hu:P.underlying ty=some d) (hd:(match d with|.struct _|.array _ _=>true|_=>false)=true) (hi:(P.info? ty).map (·.size)=some cs.size) (hi':(P.info? ty).map (·.size)=some cs'.size) (x:Value) (hx:tmps.getD u undef=x) :
  (results fn tmps).run P w=.ok (.tuple #[.agg cs,.agg cs',x]) w:=by
 have a:tmps[p]?.getD undef=.pointer (some ⟨g,0,none⟩):=by simpa using hp
 have b:tmps[q]?.getD undef=.pointer (some ⟨g',0,none⟩):=by simpa using hq
 have c:tmps[u]?.getD undef=x:=by simpa using hx
 simp[results,h,a,b,c,asAddr,BS w g t ty cs (0,0) d hg hu hd hi,BS w g' t ty cs' (0,0) d hg' hu hd hi']
def Fq (w:World)(a:zb)(b:World)(o n:zb):Prop:=
 zc w b/\b.heap[w.heap.size]?=some (.cells (hv a) 91 (0,0))/\b.heap[w.heap.size+1]?=some (.cells (hv o) 91 (0,0))/\b.heap[w.heap.size+1+1]?=some (.cells (hv n) 91 (0,0))
def Fq.start (w:World)(a:zb):Fq w a (((w.alloc (.cells (hv a) 91)).alloc (.cells #[Value.int IntKind.u8 0,Value.int IntKind.u8 0,Value.int IntKind.u8 0,Value.int IntKind.u8 0,Value.int IntKind.u8 0,Value.int IntKind.u8 0,Value.int IntKind.u8 0,Value.int IntKind.u8 0] 91)).alloc (.cells #[Value.int IntKind.u8 0,Value.int IntKind.u8 0,Value.int IntKind.u8 0,Value.int IntKind.u8 0,Value.int IntKind.u8 0,Value.int IntKind.u8 0,Value.int IntKind.u8 0,Value.int IntKind.u8 0] 91)) jh jh:=by
 refine⟨Bv _ _ _ _,zr (zr (zf _ _)),?_,?_⟩
 ·refine zr ?_;rw[show w.heap.size+1=(w.alloc (.cells (hv a) 91)).heap.size by simp];exact zf _ _
 ·rw[show w.heap.size+1+1=((w.alloc (.cells (hv a) 91)).alloc (.cells #[Value.int IntKind.u8 0,Value.int IntKind.u8 0,Value.int IntKind.u8 0,Value.int IntKind.u8 0,Value.int IntKind.u8 0,Value.int IntKind.u8 0,Value.int IntKind.u8 0,Value.int IntKind.u8 0] 91)).heap.size by simp];exact zf _ _
def Fq.next {a o n:zb}(h:Fq w a wz o n)(b:zc wz wy):Fq w a wy o n:=
 ⟨h.1.trans (b.mono h.1.size),by rw[b.block _ (vk h.2.1)];exact h.2.1,by rw[b.block _ (vk h.2.2.1)];exact h.2.2.1,by rw[b.block _ (vk h.2.2.2)];exact h.2.2.2⟩
def Fq.aE {a o n:zb}(h:Fq w a wz o n)(b:zb):Fq w a (wz.setRow (w.heap.size+1) (hv b)) b n:=
 ⟨Ag h.1 (Ar _) _,by rw[FJ _ _ _ _ (by omega)];exact h.2.1,Av _ _ _ _ _ _ h.2.2.1,by rw[FJ _ _ _ _ (by omega)];exact h.2.2.2⟩
def Fq.bc {a o n:zb}(h:Fq w a wz o n)(b:zb):Fq w a (wz.setRow (w.heap.size+1+1) (hv b)) o b:=
 ⟨Ag h.1 (by omega) _,by rw[FJ _ _ _ _ (by omega)];exact h.2.1,by rw[FJ _ _ _ _ (by omega)];exact h.2.2.1,Av _ _ _ _ _ _ h.2.2.2⟩
def Fq.drew {a o n:zb}(h:Fq w a wz o n):Fq w a wz.drew o n:=⟨h.1.drew,h.2.1,h.2.2.1,h.2.2.2⟩
def YX (a:zb)(d:a.length=8)(v:Value)(c:za)(w:World)(h:ON w v c):
  Calls prog 164 #[.agg (hv a),v,.bool true] w λr t=>r=.returned (.tuple #[.agg (hv a),.agg (hv a),.bool (decide (c.length=0))])/\zc w t:=by
 obtain⟨b,s,rfl,-,-,-⟩:=h;obtain⟨g,i,j,k,l,m,n,p,f⟩:=MB a d;rw[f];have e:((c.length:Int)==0)=decide (c.length=0):=by
  rw[CV];simp
 have q:=ze e;clear e d f;go_enter func164,ntmps164
 go_wp2
 go_region
 all_goals go_wp2
 all_goals refine zv (v:=.tuple #[.agg #[.int .u8 g,.int .u8 i,.int .u8 j,.int .u8 k,.int .u8 l,.int .u8 m,.int .u8 n,.int .u8 p],.agg #[.int .u8 g,.int .u8 i,.int .u8 j,.int .u8 k,.int .u8 l,.int .u8 m,.int .u8 n,.int .u8 p],.bool ((c.length:Int)==0)]) (by simp[results,results164,go_sem]) rfl ⟨by rw[q.o],?_⟩
 all_goals exact(Bv _ _ _ _).drew
def zd2 (a p:zb)(t:a.length=8)(x:p.length=8)(b g h:Nat)(w:World)(i:w.rangeAt b g (hv p).toList):
  Calls prog 164 #[.agg (hv a),.slice (some ⟨b,g,none⟩) 1 h,.bool false] w λr A=>r=.returned (.tuple #[.agg (hv p),.agg (hv p),.bool true])/\zc w A:=by
 obtain⟨M,N,O,P,Q,R,S,T,z⟩:=MB a t;obtain⟨j,k,l,m,n,o,q,s,y⟩:=MB p x;rw[y]at i ⊢;rw[z];have f:=λ(c d e:Obj)=>zii (ES i (Bv w c d e));have B:=λc d e=>(f c d e).1;have C:=λc d e=>(f c d e).2.1;have D:=λc d e=>(f c d e).2.2.1;have E:=λc d e=>(f c d e).2.2.2.1;have F:=λc d e=>(f c d e).2.2.2.2.1;have G:=λc d e=>(f c d e).2.2.2.2.2.1;have H:=λc d e=>(f c d e).2.2.2.2.2.2.1;have I:=λc d e=>(f c d e).2.2.2.2.2.2.2;have u:b<w.heap.size:=yf (p:=⟨b,g+0,none⟩) (i 0 _ rfl);have J:b≠w.heap.size:=by omega
 have K:b≠w.heap.size+1:=by omega
 have L:b≠w.heap.size+1+1:=by omega
 go_enter func164,ntmps164
 go_wp2
 go_region
 all_goals go_wp2
 all_goals refine zv (v:=.tuple #[.agg #[.int .u8 j,.int .u8 k,.int .u8 l,.int .u8 m,.int .u8 n,.int .u8 o,.int .u8 q,.int .u8 s],.agg #[.int .u8 j,.int .u8 k,.int .u8 l,.int .u8 m,.int .u8 n,.int .u8 o,.int .u8 q,.int .u8 s],.bool true]) (by simp[results,results164,go_sem]) rfl ⟨rfl,?_⟩
 all_goals exact(Bv _ _ _ _).drew
def ziy (a:zb)(f:a.length=8)(v:Value)(d:za)(w:World)(i:d.length≠1)(h:ON w v d):
  Calls prog 164 #[.agg (hv a),v,.bool false] w λr g=>r=.returned (.tuple #[.agg (hv jh),.agg (hv jh),.bool false])/\zc w g:=by
 obtain⟨b,e,rfl,-,-,-⟩:=h;have j:(hv a).size=8:=by rw[BU,f]
 have c:=ze (Fq.start w a);have k:((d.length:Int) != 1)=true:=by rw[bne_iff_ne];omega
 go_enter func164,ntmps164;go_wp2_with (first
  |(refine yw rfl 91 _ _ rfl (w.heap.size+1) (hv jh) rfl rfl 91 _ c.o.2.2.1 (by kernel_rfl) rfl (Cr _) ?_)
  |(refine yw rfl 91 _ _ rfl (w.heap.size+1+1) (hv jh) rfl rfl 91 _ (c.o.aE jh).2.2.2 (by kernel_rfl) rfl (Cr _) ?_))
 refine zv (v:=.tuple #[.agg (hv jh),.agg (hv jh),.bool false]) (Ee results164 _ _ (w.heap.size+1) (w.heap.size+1+1) 91 _ _ _ rfl ((c.o.aE jh).bc jh).2.2.1 rfl ((c.o.aE jh).bc jh).2.2.2 underlying91 rfl (by kernel_rfl) (by kernel_rfl) _ rfl) rfl ⟨rfl,?_⟩;exact((c.o.aE jh).bc jh).1
def ON.first (h:ON w v ps)(i:ps.length=1):∃b c d,v=.slice (some ⟨b,c,none⟩) 1 d/\w.rangeAt b c (hv (ps.headD [])).toList/\(ps.headD []).length=8:=by
 obtain⟨a,d,rfl,j,e,g⟩:=h;rcases g with g|⟨b,c,rfl,f⟩
 ·simp[g]at i
 ·match ps,i,e,f with
  |[p],_,e,f =>
   refine⟨b,c,d,rfl,?_,e p (by simp)⟩;have:=f 0 (by simp);simpa using this
def RtI (b c:Nat)(d e L:zb)(a:World):Prop:=a.heap[b+1]?=some (.cells (hv d) 91 (0,0))/\a.heap[b+1+1]?=some (.cells (hv e) 91 (0,0))/\a.heap[c]?=some (.cells (hv L) 91 (0,0))
abbrev ze5 (p:FuncId)(a:Array Value)(R:zb×zb×Bool)(w:World):Prop:=
 Calls prog p a w λr b=>r=.returned (.tuple #[.agg (hv R.1),.agg (hv R.2.1),.bool R.2.2])/\zc w b
def zix (a:zb)(i:a.length=8)(v:Value)(d:za)(f n:Nat)(c:Bool)(w:World)(h:ON w v d):
  ze5 164 #[.agg (hv a),v,.bool c] (Ad jh a (f+1) n n d c) w:=by
 cases c with
 |true=>rw[Ff];exact YX a i v d w h
 |false =>
  by_cases e:d.length=1
  ·rw[Gn _ _ _ _ _ e];obtain⟨b,j,g,rfl,l,k⟩:=h.first e;exact zd2 a _ i k b j g w l
  ·rw[JQ _ _ _ _ _ e];exact ziy a i v d w e h
def zls (a:zb)(X:a.length=8)(f:Nat):∀(m n:Int) (v:Value) (g:za) (d:Bool) (w:World),1<=m->m<=n->n<=9223372036854775807->g.length<f->g.length<=1000000->ON w v g ->
  ze5 117 #[.int .i64 m,.int .i64 n,.agg (hv a),v,.bool d] (Ad jh a f m.toNat n.toNat g d) w:=by
 induction f with
 |zero=>exact λm n v g d w _ _ _ h=>absurd h (Am _)
 |succ f ih =>
 intro m n v g d w h0 ap hn hf hp h;obtain⟨m,rfl⟩:=qc (show 0<=m by omega);obtain⟨n,rfl⟩:=qc (show 0<=n by omega);rw[zz,zz];have Hs:Hid ((hv a).size=8):=by show _=_;rw[BU,X]
 have O:=ze (Fq.start w a);have H:=ze h;obtain⟨c,D,rfl,ag,W,hh⟩:=h;unfold ze5
 by_cases h1:m=n
 ·subst h1;have HC:=ze (zix a X (.slice c g.length D) g f m d);obtain⟨l1,l2⟩:=Mf jh a rfl X (f+1) m m g d W;generalize Ad jh a (f+1) m m g d=R at *;obtain⟨k,l,R3⟩:=R;have r:Hid ((hv k).size=8):=by show _=_;rw[BU];exact l1
  have s:Hid ((hv l).size=8):=by show _=_;rw[BU];exact l2
  clear l1 l2 X W ih hh;go_enter func117,ntmps117;go_wp2_with (refine DN rfl 91 _ rfl w.heap.size rfl 91 _ (0,0) _ O.o.2.1 underlying91 rfl (by rw[Hs.o];kernel_rfl) ?_);refine(HC.o _ (H.o.below O.o.1)).mono ?_;rintro e A ⟨rfl,J⟩;have z:=ze (O.o.next J);clear J;go_wp2_with (first
   |(refine yw rfl 91 _ _ rfl (w.heap.size+1) (hv k) rfl rfl 91 _ z.o.2.2.1 (by rw[r.o];kernel_rfl) (by rw[r.o];rfl) (Cr _) ?_)
   |(refine yw rfl 91 _ _ rfl (w.heap.size+1+1) (hv l) rfl rfl 91 _ (z.o.aE k).2.2.2 (by rw[s.o];kernel_rfl) (by rw[s.o];rfl) (Cr _) ?_))
  exact zv (v:=.tuple #[.agg (hv k),.agg (hv l),.bool R3]) (Ee results117 _ _ (w.heap.size+1) (w.heap.size+1+1) 91 _ _ _ rfl ((z.o.aE k).bc l).2.2.1 rfl ((z.o.aE k).bc l).2.2.2 underlying91 rfl (by rw[r.o];kernel_rfl) (by rw[s.o];kernel_rfl) _ rfl) rfl ⟨rfl,((z.o.aE k).bc l).1⟩
 have n1:((m:Int)==(n:Int))=false:=yp.2 (by omega)
 by_cases y:g.length=0
 ·rw[Ig _ _ _ _ _ _ _ h1 y,y];clear X W ih hh;go_enter func117,ntmps117;go_wp2_with (first
   |(refine yw rfl 91 _ _ rfl (w.heap.size+1) (hv jh) rfl rfl 91 _ O.o.2.2.1 (by kernel_rfl) rfl (Cr _) ?_)
   |(refine yw rfl 91 _ _ rfl (w.heap.size+1+1) (hv jh) rfl rfl 91 _ (O.o.aE jh).2.2.2 (by kernel_rfl) rfl (Cr _) ?_))
  exact zv (v:=.tuple #[.agg (hv jh),.agg (hv jh),.bool false]) (Ee results117 _ _ (w.heap.size+1) (w.heap.size+1+1) 91 _ _ _ rfl ((O.o.aE jh).bc jh).2.2.1 rfl ((O.o.aE jh).bc jh).2.2.2 underlying91 rfl (by kernel_rfl) (by kernel_rfl) _ rfl) rfl ⟨rfl,((O.o.aE jh).bc jh).1⟩
 obtain⟨q,hq⟩:∃q,g.length=q+1:=⟨g.length-1,by omega⟩;obtain⟨b,N,rfl,hc⟩:=hh.resolve_left (λh=>y (by simp[h]));have hr:w.rangeAt b (N+q*8) (hv (g.getLastD [])).toList:=by
  rw[(Gc g q hq []).1];exact hc q (by omega)
 have ht:ON w (.slice (some ⟨b,N,none⟩) q D) g.dropLast:=by
  rw[(Gc g q hq []).2];have Z:(g.take q).length=q:=by simp;omega
  refine⟨_,D,by rw[Z],by rw[Z];omega,λp hp=>W p (qa hp),.inr ⟨b,N,rfl,λj B=>?_⟩⟩;rw[js];exact hc j (by rw[Z]at B;omega)
 obtain⟨k1,k2,k3⟩:=Be n (by omega);have C:(g.getLastD []).length=8:=by
  rw[(Gc g q hq []).1];exact W _ (ye _)
 have Hd:Hid (g.dropLast.length=q):=by show _=_;rw[List.length_dropLast,hq];rfl
 have F:Hid ((hv (g.getLastD [])).size=8):=by show _=_;rw[BU,C]
 have x:=ze C;have HH:=ze ht;have HR:=ze hr;have ae:Hid (∀p∈g.dropLast,p.length=8):=λp hp=>W p (J2 _ hp);have HA:=ze X;have m1:(((q:Int)+1)==0)=false:=yp.2 (by omega);have V:Hid (Ad jh a (f+1) m n g d=if m<=yo n then ((Ad jh a f m (yo n) g.dropLast d).1,vf (Ad jh a f m (yo n) g.dropLast d).2.1 (g.getLastD []),(Ad jh a f m (yo n) g.dropLast d).2.2) else (vf (g.getLastD []) (Ad jh a f (m-yo n) (n-yo n) g.dropLast false).1,vf (g.getLastD []) (Ad jh a f (m-yo n) (n-yo n) g.dropLast false).2.1,(Ad jh a f (m-yo n) (n-yo n) g.dropLast false).2.2)):=by
  show _=_;rw[Ad,if_neg h1,if_neg y]
 have IH:=ze (λm n w=>ih m n (.slice (some ⟨b,N,none⟩) q D) g.dropLast w);generalize Ad jh a (f+1) m n g d=RR at *;rw[hq];have aa:q<=1000000:=by omega
 have aj:q<f:=by omega
 have am:q+1<=D:=by omega
 clear ih ht hr W X hh hc y H ag C hf hp;generalize g.getLastD []=L at *;generalize g.dropLast=pd at *;clear hq g;go_enter func117,ntmps117;go_wp2_with fail;refine(OY b N q D L _ aa am x.o (by exact ES HR.o O.o.1)).mono ?_;rintro e A ⟨rfl,J⟩;have z:=ze (O.o.next J);clear J;go_wp2_with (refine yw rfl 91 _ _ rfl A.heap.size (hv L) rfl rfl 91 _ (zf _ _) (by rw[F.o];kernel_rfl) (by rw[F.o];rfl) (Cr _) ?_);rw[jr];refine(Mi n _ (by omega) (by omega)).mono ?_;rintro e w2 ⟨rfl,ao⟩;subst ao;have Q:=ze (z.o.next (zi A (.cells (hv L) 91)))
 by_cases ah:m<=yo n
 case' pos =>
  rw[if_pos ah]at V;have G:=ze (IH.out m (yo n) d _ (by omega) (by omega) (by omega) (by rw[Hd.o];exact aj) (by rw[Hd.o];exact aa) (HH.o.below Q.o.1));have I:=Mf jh a rfl HA.o f m (yo n) pd d ae.o;have ai:(m:Int)<=(yo n:Int):=by omega
  rw[zz,zz]at G;generalize Ad jh a f m (yo n) pd d=R at *
 case' neg =>
  rw[if_neg ah]at V;have G:=ze (IH.out ((m:Int)-(yo n:Int)) ((n:Int)-(yo n:Int)) false _ (by omega) (by omega) (by omega) (by rw[Hd.o];exact aj) (by rw[Hd.o];exact aa) (HH.o.below Q.o.1));have I:=Mf jh a rfl HA.o f (m-yo n) (n-yo n) pd false ae.o;have ai:¬(m:Int)<=(yo n:Int):=by omega
  rw[show((m:Int)-(yo n:Int)).toNat=m-yo n by omega,show((n:Int)-(yo n:Int)).toNat=n-yo n by omega]at G;generalize Ad jh a f (m-yo n) (n-yo n) pd false=R at *
 all_goals
  clear IH;obtain⟨k,l,R3⟩:=R;have U:=ze I;have r:Hid ((hv k).size=8):=by show _=_;rw[BU];exact I.1
  have s:Hid ((hv l).size=8):=by show _=_;rw[BU];exact I.2
  clear I;go_wp2_with (refine DN rfl 91 _ rfl w.heap.size rfl 91 _ (0,0) _ Q.o.2.1 underlying91 rfl (by rw[Hs.o];kernel_rfl) ?_);refine G.out.mono ?_;rintro e w3 ⟨rfl,Y⟩;have ak:Hid (w3.heap[A.heap.size]?=some (.cells (hv L) 91 (0,0))):=by
   show w3.heap[A.heap.size]?=_;rw[Y.block _ (by simp)];exact zf _ _
  have an:Hid (w.heap.size+1+1<A.heap.size):=vk z.o.2.2.2;have S:=ze (Q.o.next Y);clear Y G;go_wp2_with (first
   |(refine yw rfl 91 _ _ rfl (w.heap.size+1) (hv k) rfl rfl 91 _ S.o.2.2.1 (by rw[r.o];kernel_rfl) (by rw[r.o];rfl) (Cr _) ?_)
   |(refine yw rfl 91 _ _ rfl (w.heap.size+1+1) (hv l) rfl rfl 91 _ (S.o.aE k).2.2.2 (by rw[s.o];kernel_rfl) (by rw[s.o];rfl) (Cr _) ?_))
  have T:=ze ((S.o.aE k).bc l);have al:Hid (((w3.setRow (w.heap.size+1) (hv k)).setRow (w.heap.size+1+1) (hv l)).heap[A.heap.size]?=some (.cells (hv L) 91 (0,0))):=by
   have:=an.out;show((w3.setRow (w.heap.size+1) (hv k)).setRow (w.heap.size+1+1) (hv l)).heap[A.heap.size]?=_;rw[FJ _ _ _ _ (by omega),FJ _ _ _ _ (by omega)];exact ak.o
  generalize (w3.setRow (w.heap.size+1) (hv k)).setRow (w.heap.size+1+1) (hv l)=W4 at *;have u:Hid (RtI w.heap.size A.heap.size k l L W4.drew):=⟨T.o.2.2.1,T.o.2.2.2,al.o⟩;have ad:=ze T.o.drew;have ab:Hid (∀{wa wb:World},Fq w a wa k l->RtI w.heap.size A.heap.size k l L wa->zc wa wb->Fq w a wb k l/\RtI w.heap.size A.heap.size k l L wb):=λhf hi hb=>⟨hf.next hb,(hf.next hb).2.2.1,(hf.next hb).2.2.2,(hb.block _ (vk hi.2.2)).trans hi.2.2⟩
 rotate_left
 case' _ =>
  refine NQ (RtI w.heap.size A.heap.size k l L) (λj=>j==5||j==6) 4 _ (.bool R3) (by kernel_rfl) rfl rfl (by kernel_rfl) (by kernel_rfl) (by kernel_rfl) (λ_ _ _ h=>h) rfl rfl rfl ?_;refine IK [5,6] (i:=0) (v:=.agg (hv k)) rfl (by kernel_rfl) (by kernel_rfl) (by kernel_rfl) (by kernel_rfl) (λj B=>by simp at B;simp;omega) (λ_ _ _ h=>h) (Fg (by rfl) 91 _ rfl (w.heap.size+1) rfl 91 _ _ (λwz y=>y.1) underlying91 rfl (by rw[r.o];kernel_rfl)) u.o ?_;refine IK [3,5,6] (i:=1) (v:=.agg (hv l)) rfl (by kernel_rfl) (by kernel_rfl) (by kernel_rfl) (by kernel_rfl) (λj B=>by simp at B;simp;omega) (λ_ _ _ h=>h) (Fg (by rfl) 91 _ rfl (w.heap.size+1+1) rfl 91 _ _ (λwz y=>y.2.1) underlying91 rfl (by rw[s.o];kernel_rfl)) u.o ?_;refine IK [3,5,6] (i:=2) (v:=.agg (hv L)) rfl (by kernel_rfl) (by kernel_rfl) (by kernel_rfl) (by kernel_rfl) (λj B=>by simp at B;simp;omega) (λ_ _ _ h=>h) (Fg (by rfl) 91 _ rfl A.heap.size rfl 91 _ _ (λwz y=>y.2.2) underlying91 rfl (by rw[F.o];kernel_rfl)) u.o ?_;refine UU 3 rfl rfl (by kernel_rfl) rfl (λK t=>?_);have E:=ze t;clear t;go_simp;refine(Ev l L _ U.o.2 x.o).mono ?_;rintro e w5 ⟨rfl,M⟩;have P:=ze (ab.out ad.o u.o M);clear M;refine E.o _ _ P.o.2 ?_;clear E;refine TP 5 rfl rfl (by kernel_rfl) rfl (λK t=>?_);refine XA 91 _ _ rfl (w.heap.size+1) (hv k) rfl rfl 91 _ P.o.1.2.2.1 (by rw[r.o];kernel_rfl) rfl (Cr _) (t _ _ ?_);refine Mk 6 rfl rfl (by kernel_rfl) (λK t=>?_);refine XA 91 _ _ rfl (w.heap.size+1+1) (hv (vf l L)) rfl rfl 91 _ (P.o.1.aE k).2.2.2 (by kernel_rfl) (by rw[s.o];rfl) (Cr _) (t _ _ ?_);refine Mk 7 rfl rfl (by kernel_rfl) (λK t=>?_);have HE:=ze ((P.o.1.aE k).bc (vf l L))
 rotate_left
 case' _ =>
  refine NQ (RtI w.heap.size A.heap.size k l L) (λj=>j==7||j==8) 6 _ (.bool R3) (by kernel_rfl) rfl rfl (by kernel_rfl) (by kernel_rfl) (by kernel_rfl) (λ_ _ _ h=>h) rfl rfl rfl ?_;refine IK [2,7,8] (i:=0) (v:=.agg (hv L)) rfl (by kernel_rfl) (by kernel_rfl) (by kernel_rfl) (by kernel_rfl) (λj B=>by simp at B;simp;omega) (λ_ _ _ h=>h) (Fg (by rfl) 91 _ rfl A.heap.size rfl 91 _ _ (λwz y=>y.2.2) underlying91 rfl (by rw[F.o];kernel_rfl)) u.o ?_;refine IK [2,7,8] (i:=1) (v:=.agg (hv k)) rfl (by kernel_rfl) (by kernel_rfl) (by kernel_rfl) (by kernel_rfl) (λj B=>by simp at B;simp;omega) (λ_ _ _ h=>h) (Fg (by rfl) 91 _ rfl (w.heap.size+1) rfl 91 _ _ (λwz y=>y.1) underlying91 rfl (by rw[r.o];kernel_rfl)) u.o ?_;refine IK [5,7,8] (i:=3) (v:=.agg (hv L)) rfl (by kernel_rfl) (by kernel_rfl) (by kernel_rfl) (by kernel_rfl) (λj B=>by simp at B;simp;omega) (λ_ _ _ h=>h) (Fg (by rfl) 91 _ rfl A.heap.size rfl 91 _ _ (λwz y=>y.2.2) underlying91 rfl (by rw[F.o];kernel_rfl)) u.o ?_;refine IK [5,7,8] (i:=4) (v:=.agg (hv l)) rfl (by kernel_rfl) (by kernel_rfl) (by kernel_rfl) (by kernel_rfl) (λj B=>by simp at B;simp;omega) (λ_ _ _ h=>h) (Fg (by rfl) 91 _ rfl (w.heap.size+1+1) rfl 91 _ _ (λwz y=>y.2.1) underlying91 rfl (by rw[s.o];kernel_rfl)) u.o ?_;refine UU 2 rfl rfl (by kernel_rfl) rfl (λK t=>?_);have E:=ze t;clear t;go_simp;refine(Ev L k _ x.o U.o.1).mono ?_;rintro e w4 ⟨rfl,af⟩;have H4:=ze (ab.out ad.o u.o af);clear af;refine E.o _ _ H4.o.2 ?_;clear E;refine UU 5 rfl rfl (by kernel_rfl) rfl (λK t=>?_);have E:=ze t;clear t;go_simp;refine(Ev L l _ x.o U.o.2).mono ?_;rintro e w5 ⟨rfl,M⟩;have P:=ze (ab.out H4.o.1 H4.o.2 M);clear M;refine E.o _ _ P.o.2 ?_;clear E;refine TP 7 rfl rfl (by kernel_rfl) rfl (λK t=>?_);refine XA 91 _ _ rfl (w.heap.size+1) (hv (vf L k)) rfl rfl 91 _ P.o.1.2.2.1 (by kernel_rfl) (by rw[r.o];rfl) (Cr _) (t _ _ ?_);refine Mk 8 rfl rfl (by kernel_rfl) (λK t=>?_);refine XA 91 _ _ rfl (w.heap.size+1+1) (hv (vf L l)) rfl rfl 91 _ (P.o.1.aE (vf L k)).2.2.2 (by kernel_rfl) (by rw[s.o];rfl) (Cr _) (t _ _ ?_);refine Mk 9 rfl rfl (by kernel_rfl) (λK t=>?_);have HE:=ze ((P.o.1.aE (vf L k)).bc (vf L l))
 all_goals
  have E:=ze t;clear t;go_simp;refine E.o _ _ (wpAny_done (by kernel_rfl) ?_ _);clear E
  go_wp2
  exact zv (v:=.tuple #[.agg (hv _),.agg (hv _),.bool R3]) (Ee results117 _ _ (w.heap.size+1) (w.heap.size+1+1) 91 _ _ _ rfl HE.o.2.2.1 rfl HE.o.2.2.2 underlying91 rfl (by first|(rw[r.o];kernel_rfl)|kernel_rfl) (by kernel_rfl) _ rfl) rfl ⟨by rw[V.o],HE.o.1⟩
end Go.Proofs.YtfdbeldiomkdiaaGreatDoor
