import Derived.Test.YtfdbeldiomkdiaaGreatDoorG27
set_option maxHeartbeats 8000000
set_option maxRecDepth 100000
set_option linter.all false
namespace Go.Proofs.YtfdbeldiomkdiaaGreatDoor
open Go.RowKit Go.Proofs.Tryz
def ql:=@List.size_toArray
def vy:=@List.getElem?_toArray
def Aq:=@List.getElem?_cons_succ
def FW:=@all_oneCell_toArray
variable {O O' O1:Nat->Prop}{T:List Nat}{eb mb o:Nat}{fr:Nat × Nat}{nx pv:Nat->Nat}{t:TypeId}{w w':World}
abbrev Gu:Nat:=287
abbrev MeP:Nat:=289
def Nz (p:Pl)(v:List Value)(o n:Nat):Array Value:=(.int .i64 p.1:: .int .i64 p.2.1:: .int .i64 p.2.2::(v++[yu o,yu n])).toArray
def zhl:List Value:=[.bool false,.bool false,.int .u8 0,.int .u8 0,.int .u8 0,.int .u8 0,.int .u8 0,.int .u8 0,.int .u8 0,.int .u8 0,.slice none 0 0]
def Wx:List Value:=zhl++(zhl++(zhl++zhl))
abbrev Cz:Array Value:=#[.bool false,.bool false,.int .u8 0,.int .u8 0,.int .u8 0,.int .u8 0,.int .u8 0,.int .u8 0,.int .u8 0,.int .u8 0,.slice none 0 0,.bool false,.bool false,.int .u8 0,.int .u8 0,.int .u8 0,.int .u8 0,.int .u8 0,.int .u8 0,.int .u8 0,.int .u8 0,.slice none 0 0,.bool false,.bool false,.int .u8 0,.int .u8 0,.int .u8 0,.int .u8 0,.int .u8 0,.int .u8 0,.int .u8 0,.int .u8 0,.slice none 0 0,.bool false,.bool false,.int .u8 0,.int .u8 0,.int .u8 0,.int .u8 0,.int .u8 0,.int .u8 0,.int .u8 0,.int .u8 0,.slice none 0 0]
def E8:Wx.length=44:=rfl
def SO {p:Pl}{v:List Value}{n:Nat}(h:v.length=44):(Nz p v o n)[47]?=some (yu o):=by
 simp[Nz,h]
def SN {p:Pl}{v:List Value}{n:Nat}(h:v.length=44):(Nz p v o n)[48]?=some (yu n):=by
 simp[Nz,h]
def zca {p:Pl}{v:List Value}{n m:Nat}(h:v.length=44):(Nz p v o n).setIfInBounds 47 (yu m)=Nz p v m n:=by
 simp[Nz,h]
def zcb {p:Pl}{v:List Value}{n m:Nat}(h:v.length=44):(Nz p v o n).setIfInBounds 48 (yu m)=Nz p v o m:=by
 simp[Nz,h]
abbrev EJ:=List (Nat×Pl×List Value)
def EJ.ks (L:EJ):Ks:=L.map λx=>(x.2.1,x.1)
def EJ.drop (L:EJ)(p:Pl):EJ:=L.filter λx=>!decide (x.2.1=p)
structure KE (w:World)(eb:Nat)(L:EJ)(nx pv:Nat->Nat):Prop where
 ends:w.heap[eb]?=some (.cells (Nz (0,0,0) Wx (pv eb) (nx eb)) Gu (0,0))
 link:∀x∈L,w.heap[x.1]?=some (.cells (Nz x.2.1 x.2.2 (pv x.1) (nx x.1)) Gu (0,0))
 aD:KQ eb (L.map (·.1)) nx pv
 len:∀x∈L,x.2.2.length=44/\∀v∈x.2.2,v.oneCell'=true
structure Fa (w:World)(O:Nat->Prop)(mb hb eb:Nat)(nx pv:Nat->Nat)(room:Int)(L:EJ):Prop where
 own:O mb/\O hb/\O eb/\∀x∈L,O x.1
 mem:w.heap[mb]?=some (.cells #[.int .i64 room,.map (some hb),yu eb] MeP (0,0))
 ring:KE w eb L nx pv
 map:BC w hb L.ks
 ok:∀x∈L,FV x.2.1
def G0 (w:World)(O:Nat->Prop)(d:Nat)(a:Int)(L:EJ):Prop:=∃c b e f,Fa w O d c b e f a L
def EJ.get (L:EJ)(p:Pl):Option (Nat×List Value):=match L.find? (λx=>decide (x.2.1=p))with
 |some x=>some (x.1,x.2.2)
 |none=>none
def Nw (L:EJ)(p:Pl):L.ks.get p=(L.get p).map (·.1):=by
 unfold EJ.ks Ks.get EJ.get;rw[List.find?_map];have:((λx:Pl×Nat=>decide (x.1=p))∘λx:Nat×Pl×List Value=>(x.2.1,x.1))=λx=>decide (x.2.1=p):=rfl;rw[this];cases L.find? (λx=>decide (x.2.1=p))<;>rfl
def U0 {L:EJ}{p:Pl}{b:Nat}{v:List Value}(h:L.get p=some (b,v)):(b,p,v)∈L:=by
 unfold EJ.get at h;cases e:L.find? (λx=>decide (x.2.1=p))with
 |none=>rw[e]at h;simp at h
 |some x =>
  rw[e]at h;simp only[zn,xj]at h;have d:=DI e;have f:=DA e;simp only[ja]at d;obtain⟨a,g,c⟩:=x;simp only at h d;obtain⟨rfl,rfl⟩:=h;subst d;exact f
def PY (w:World):(zeroValue 285).run prog w=.ok (.pointer none) w:=by kernel_rfl
def zb9 {p:Pl}{v:List Value}{n:Nat}{b:Nat}(h:w.heap[b]?=some (.cells (Nz p v o n) Gu (0,0))):w.rangeAt b 3 v:=by
 intro j x a;rw[xe _ _ _ _ _ _ h];have c:=(qm.1 a).1;unfold Nz;rw[show 3+j=j+1+1+1 by omega];simp only[vy,Aq,qh c];exact a
def Ds:(prog.info? 219).map (·.size)=some 44:=by kernel_rfl
theorem vb {P:Program}{fn:Func}{p u:Tmp}{ty:TypeId}(h:fn.results=#[.cell p ty,.tmp u])(tmps:Array Value)(w:World)(g:Nat)(t:TypeId)(cs:Array Value)(fr:Nat×Nat)(d:TypeDesc)
  (hp:tmps.getD p undef=.pointer (some ⟨g,0,none⟩)) (hg:w.heap[g]?=some (.cells cs t fr))
  (hu:P.underlying ty=some d) (hd:(match d with|.struct _|.array _ _=>true|_=>false)=true) (hi:(P.info? ty).map (·.size)=some cs.size) (x:Value) (hx:tmps.getD u undef=x) :
  (results fn tmps).run P w=.ok (.tuple #[.agg cs,x]) w:=by
 have a:=BS (P:=P) w g t ty cs fr d hg hu hd hi;simp only[vh]at hp hx;simp[results,h,hp,hx,asAddr,a]
def ldF {c:Array Oper}{rest:List Oper}{e:Oper}{a:Act}{Q:Exit->Act->World->Prop}(f:e.guard=none)(x:Operand)(j:e.op=.load 219 x)
 (b o:Nat) (k:a.eval x=.pointer (some ⟨b,o,none⟩)) (d:List Value) (i:d.length=44) (g:w.rangeAt b o d) (h:wpList prog c Q rest (a.put e.dst (.agg d.toArray)) w):wpList prog c Q (e::rest) a w:=
 wpList_load_mid f _ x j b o k d _ g underlying219 rfl (by rw[Ds,i]) h
def vv {b:Nat}{cs:List Value}(h:w.heap[b]?=some (.cells cs.toArray t fr)):w.rangeAt b 0 cs:=by
 intro j x a;rw[xe _ _ _ _ _ _ h];simpa using a
structure zor (w W0:World)(p:Pl):Prop where
 below:zc w W0
 key:W0.heap[w.heap.size]?=some (.cells #[.int .i64 p.1,.int .i64 p.2.1,.int .i64 p.2.2] 215 (0,0))
 cf:W0.heap[w.heap.size+1]?=some (.cells Wx.toArray 219 (0,0))
def Qj (w:World)(p:Pl):zor w ((w.alloc (.cells #[.int .i64 p.1,.int .i64 p.2.1,.int .i64 p.2.2] 215)).alloc (.cells Cz 219)) p:=by
 refine⟨qg _ _ _,zr (zf _ _),?_⟩;have:=zf (w.alloc (.cells #[.int .i64 p.1,.int .i64 p.2.1,.int .i64 p.2.2] 215)) (.cells Cz 219);rw[show(w.alloc (.cells #[.int .i64 p.1,.int .i64 p.2.1,.int .i64 p.2.2] 215)).heap.size=w.heap.size+1 by simp]at this;exact this
def zk4:Wx.toArray.all (·.oneCell') =true:=by simp[Wx,zhl,Value.oneCell']
def zkj (O:Nat->Prop)(j:Nat)(d:Int)(L:EJ)(p:Pl)(i:FV p)(w:World)(h:G0 w O j d L)(f:L.get p=none):
  Calls prog 276 #[yu j,Fc p] w λr u=>r=.returned (.tuple #[.agg Wx.toArray,.bool false])/\zc w u:=by
 obtain⟨m,z,A,B,h⟩:=h;have g:L.ks.get p=none:=by rw[Nw,f];rfl
 have b:=ze (Qj w p);unfold Fc;unfold yu;clear f;go_enter func276,ntmps276;go_wp2_with fail;generalize (w.alloc (.cells #[.int .i64 p.1,.int .i64 p.2.1,.int .i64 p.2.2] 215)).alloc (.cells Cz 219)=c at *;have a:=λn=>(h.map.same (w':=c.drewN n) (b.o.below.block m h.map.lt)).look underlying284 PY i;rw[g]at a;simp only[Si,KY]at a;unfold Fc at a;have x:=(zm ((b.o.below.block _ (zg h.mem)).trans h.mem) 1 _ rfl).1;have q:=(zm b.o.key 0 _ rfl).1;have s:=(zm b.o.key 1 _ rfl).1;have t:=(zm b.o.key 2 _ rfl).1;clear g i h
 go_quiet (fail)
 have l:Hid ((c.drewN nq).rangeAt (w.heap.size+1) 0 Wx):=vv b.o.cf;have e:Hid ((c.drewN nq).heap[w.heap.size+1]?=some (.cells Wx.toArray 219 (0,0))):=b.o.cf;have k:Hid (zc w (c.drewN nq)):=DR b.o.below _;clear a x q s t;generalize c.drewN nq=y at *;go_wp2_with (first
  |(show wpList _ _ _ ({dst:=_,op:=Op.load 219 _,type:=_,pos:=_,after:=_,guard:=_}::_) _ _;refine ldF rfl _ rfl _ _ rfl Wx E8 l.o ?_)
  |(show wpList _ _ _ ({dst:=none,op:=Op.store 219 _ _,type:=_,pos:=_,after:=_,guard:=_}::_) _ _;refine yw rfl 219 _ _ rfl (w.heap.size+1) Wx.toArray rfl rfl 219 _ e.o Ds rfl zk4 ?_))
 refine zv (v:=.tuple #[.agg Wx.toArray,.bool false]) (vb results276 _ _ (w.heap.size+1) 219 Wx.toArray (0,0) _ rfl (Av _ _ _ _ _ _ e.o) underlying219 rfl Ds _ rfl) rfl ⟨rfl,?_⟩;exact Ag k.o (by omega) _
def zgi (O:Nat->Prop)(z:Nat)(m:Int)(L:EJ)(p:Pl)(y:FV p)(w:World)(h:G0 w O z m L)(b:Nat)(v:List Value)(t:L.get p=some (b,v)):
  Calls prog 276 #[yu z,Fc p] w λr H=>r=.returned (.tuple #[.agg v.toArray,.bool true])/\zc w H:=by
 obtain⟨D,J,K,M,h⟩:=h;have x:L.ks.get p=some b:=by rw[Nw,t];rfl
 have q:=U0 t;have d:=ze (Qj w p);obtain⟨i,g⟩:=h.ring.len _ q;simp only at i g;have c:=ze i;have l:=ze (FW g);unfold Fc;unfold yu;clear t i g;go_enter func276,ntmps276;go_wp2_with fail;generalize (w.alloc (.cells #[.int .i64 p.1,.int .i64 p.2.1,.int .i64 p.2.2] 215)).alloc (.cells Cz 219)=j at *;have a:=λn=>(h.map.same (w':=j.drewN n) (d.o.below.block D h.map.lt)).look underlying284 PY y;rw[x]at a;simp only[Si,yu,GG]at a;unfold Fc at a;have I:=(zm ((d.o.below.block _ (zg h.mem)).trans h.mem) 1 _ rfl).1;have E:=(zm d.o.key 0 _ rfl).1;have F:=(zm d.o.key 1 _ rfl).1;have G:j.cell? ⟨w.heap.size,2,none⟩=some (.int .i64 p.2.2):=(zm d.o.key 2 _ rfl).1;have k:=ze ((d.o.below.block _ (zg (h.ring.link _ q))).trans (h.ring.link _ q));clear x y h q
 go_quiet (fail)
 have B:Hid ((j.drewN nq).rangeAt b 3 v):=zb9 k.o;have u:Hid ((j.drewN nq).heap[w.heap.size+1]?=some (.cells Wx.toArray 219 (0,0))):=d.o.cf;have A:Hid (zc w (j.drewN nq)):=DR d.o.below _;clear a I E F G k;generalize j.drewN nq=C at *;have f:Hid ((C.setRow (w.heap.size+1) v.toArray).heap[w.heap.size+1]?=some (.cells v.toArray 219 (0,0))):=Av _ _ _ _ _ _ u.o;have s:Hid (Wx.toArray.size=v.toArray.size):=by show _=_;rw[ql,ql,c.o,E8]
 have e:Hid ((prog.info? 219).map (·.size)=some v.toArray.size):=by show _=_;rw[Ds,ql,c.o]
 go_wp2_with (first
  |(show wpList _ _ _ ({dst:=_,op:=Op.load 219 _,type:=_,pos:=_,after:=_,guard:=_}::_) _ _;first|refine ldF rfl _ rfl b 3 rfl v c.o B.o ?_|refine ldF rfl _ rfl (w.heap.size+1) 0 rfl v c.o (vv f.o) ?_)
  |(show wpList _ _ _ ({dst:=none,op:=Op.store 219 _ _,type:=_,pos:=_,after:=_,guard:=_}::_) _ _;first|refine yw rfl 219 _ _ rfl (w.heap.size+1) v.toArray rfl rfl 219 _ u.o e.o s.o l.o ?_|refine yw rfl 219 _ _ rfl (w.heap.size+1) v.toArray rfl rfl 219 _ f.o e.o rfl l.o ?_))
 refine zv (v:=.tuple #[.agg v.toArray,.bool true]) (vb results276 _ _ (w.heap.size+1) 219 _ (0,0) _ rfl (Av _ _ _ _ _ _ f.o) underlying219 rfl e.o _ rfl) rfl ⟨rfl,?_⟩;exact Ag (Ag A.o (by omega) _) (by omega) _
def EJ.aX {L:EJ}{p:Pl}(h:L.get p=none):L.drop p=L:=by
 unfold EJ.drop;rw[Ay];intro x a;unfold EJ.get at h;cases e:L.find? (λx=>decide (x.2.1=p))with
 |some y=>rw[e]at h;simp at h
 |none=>simpa using Bj.1 e x a
def EJ.aY {L:EJ}{p:Pl}{b:Nat}{v:List Value}(f:(L.ks.map (·.1)).Nodup)(h:L.get p=some (b,v)):∃a c,L=a++(b,p,v)::c/\L.drop p=a++c:=by
 obtain⟨a,c,e⟩:=List.append_of_mem (U0 h);refine⟨a,c,e,?_⟩;rw[e]at f ⊢;unfold EJ.ks at f;rw[EG,yv,Aj]at f;obtain⟨-,d,g⟩:=f;rw[j4,AK]at d;unfold EJ.drop;rw[GF,Jn];have j:a.filter (λy=>!decide (y.2.1=p))=a:=by
  rw[Ay];intro y i;simpa using g y.2.1 (yi.2 ⟨y,i,rfl⟩) p (by simp)
 have k:c.filter (λy=>!decide (y.2.1=p))=c:=by
  rw[Ay];intro y i;have:y.2.1≠p:=λl=>d.1 (yi.2 ⟨y,i,l⟩);simpa using this
 rw[j,k];simp
def zg0 (L:EJ)(p:Pl):(L.drop p).ks=L.ks.drop p:=by
 unfold EJ.ks EJ.drop Ks.drop;rw[List.filter_map];rfl
def R5 {c d m:Nat}{q:Pl}{u:List Value}(a:u.length=44)(h:w.heap[c]?=some (.cells (Nz q u o (nx c)) Gu (0,0))):(w.setCell ⟨d,48,none⟩ (.pointer (some ⟨m,0,none⟩))).heap[c]?=some (.cells (Nz q u o (EY nx d m c)) Gu (0,0)):=by
 by_cases e:c=d
 ·subst e;rw[Aw h,Dh];exact congrArg (λx=>some (Obj.cells x Gu (0,0))) (zcb a)
 ·rw[yh _ _ _ _ e,Bi _ _ _ _ e];exact h
def YZ {c d m:Nat}{q:Pl}{u:List Value}(a:u.length=44){n:Nat}(h:w.heap[c]?=some (.cells (Nz q u (pv c) n) Gu (0,0))):(w.setCell ⟨d,47,none⟩ (.pointer (some ⟨m,0,none⟩))).heap[c]?=some (.cells (Nz q u (EY pv d m c) n) Gu (0,0)):=by
 by_cases e:c=d
 ·subst e;rw[Aw h,Dh];exact congrArg (λx=>some (Obj.cells x Gu (0,0))) (zca a)
 ·rw[yh _ _ _ _ e,Bi _ _ _ _ e];exact h
def KE.aU {b:Nat}{p:Pl}{v:List Value}{d f:EJ}(h:KE w eb (d++(b,p,v)::f) nx pv):
  KE ((w.setCell ⟨pv b,48,none⟩ (.pointer (some ⟨nx b,0,none⟩))).setCell ⟨nx b,47,none⟩ (.pointer (some ⟨pv b,0,none⟩))) eb (d++f) (EY nx (pv b) (nx b)) (EY pv (nx b) (pv b)):=by
 have g:=h.aD;rw[yv,j4]at g;have a:∀x∈d++f,x∈d++(b,p,v)::f:=λx c=>by
  rcases yj.1 c with e|e
  ·simp[e]
  ·simp[e]
 refine⟨YZ E8 (R5 E8 h.ends),λx c=>YZ (h.len x (a x c)).1 (R5 (h.len x (a x c)).1 (h.link x (a x c))),?_,λx c=>h.len x (a x c)⟩;rw[yv];exact g.aU.1
def KE.same {L:EJ}(h:KE w eb L nx pv)(e:∀(k:Nat) (c:Array Value),w.heap[k]?=some (Obj.cells c Gu (0,0))->w'.heap[k]?=w.heap[k]?):KE w' eb L nx pv:=
 ⟨(e _ _ h.ends).trans h.ends,λx a=>(e _ _ (h.link x a)).trans (h.link x a),h.aD,h.len⟩
def zbh (O:Nat->Prop)(I:Nat)(B:Int)(L:EJ)(p:Pl)(hp:FV p)(w:World)(h:G0 w O I B L)(b:Nat)(v:List Value)(hg:L.get p=some (b,v)):
  Calls prog 275 #[yu I,Fc p] w λr C=>r=.returned (.tuple #[])/\zl O [Gu] w C/\G0 C O I B (L.drop p):=by
 obtain⟨G,eb,f,g,h⟩:=h;have V:L.ks.get p=some b:=by rw[Nw,hg];rfl
 have hl:=U0 hg;obtain⟨D,-,-,ag,-⟩:=h.map;obtain⟨l1,l2,M,eD⟩:=EJ.aY ag hg;have hc:=h.ring.aD;rw[M,yv,j4]at hc;obtain⟨ae,np,nn,mp,mn⟩:=hc.aU;simp only at ae np nn mp mn
 -- the links around it
 have hP:∃q u,u.length=44/\w.heap[g b]?=some (.cells (Nz q u (g (g b)) (f (g b))) Gu (0,0)):=by
  rcases mp with e|e
  ·rw[e];exact⟨_,_,E8,h.ring.ends⟩
  ·obtain⟨x,z,N⟩:=yi.1 e;rw[<- N];exact⟨_,_,(h.ring.len x (by rw[M];simp[z])).1,h.ring.link x (by rw[M];simp[z])⟩
 have hN:∃q u,u.length=44/\w.heap[f b]?=some (.cells (Nz q u (g (f b)) (f (f b))) Gu (0,0)):=by
  rcases mn with e|e
  ·rw[e];exact⟨_,_,E8,h.ring.ends⟩
  ·obtain⟨x,z,N⟩:=yi.1 e;rw[<- N];exact⟨_,_,(h.ring.len x (by rw[M];simp[z])).1,h.ring.link x (by rw[M];simp[z])⟩
 obtain⟨qp,up,R,hP⟩:=hP;obtain⟨qn,un,Q,hN⟩:=hN;have P:=(h.ring.len _ hl).1;obtain⟨m0,-⟩:=zm h.mem 1 _ rfl;obtain⟨l4,-⟩:=zm (h.ring.link _ hl) 47 _ (SO P);obtain⟨l5,-⟩:=zm (h.ring.link _ hl) 48 _ (SN P);obtain⟨p5,g5⟩:=zm hP 48 _ (SN R);obtain⟨n4,g4⟩:=zm hN 47 _ (SO Q);have m:=λn o=>(h.map.same (w':=(w.alloc o).drewN n) (FD w o G h.map.lt)).look underlying284 PY hp;rw[V]at m;simp only[Si,yu,GG]at m;have y0:∀o,(w.alloc o).cell? ⟨I,1,none⟩=some (.map (some G)):=λo=>by rw[xg _ _ ⟨I,1,none⟩ (zg h.mem)];exact m0
 have l:=ze h;have HE:=ze (And.intro M eD);have HW:=ze (And.intro hP hN);have al:=ze (And.intro R Q);have HK:=ze V;have HP:=ze hp;have HM:=ze (And.intro mp mn);unfold Fc at m ⊢;unfold yu;have X:=ze l4;have Y:=ze l5;have F:=ze (And.intro p5 g5);have E:=ze (And.intro n4 g4);clear m0 l4 l5 p5 g5 n4 g4 V hl hg hp h M eD ae hP hN hc ag mp mn R Q P;go_enter func275,ntmps275
 go_wp2
 go_quiet (fail)
 clear m;have j:Hid (zc w ((w.alloc (.cells #[.int .i64 p.1,.int .i64 p.2.1,.int .i64 p.2.2] 215)).drewN nq)):=DR (zi w _) _;have K:Hid (((w.alloc (.cells #[.int .i64 p.1,.int .i64 p.2.1,.int .i64 p.2.2] 215)).drewN nq).heap[w.heap.size]?=some (.cells #[.int .i64 p.1,.int .i64 p.2.1,.int .i64 p.2.2] 215 (0,0))):=zf _ _;have hz:w.heap.size<((w.alloc (.cells #[.int .i64 p.1,.int .i64 p.2.1,.int .i64 p.2.2] 215)).drewN nq).heap.size:=zg K.o;clear y0;generalize (w.alloc (.cells #[.int .i64 p.1,.int .i64 p.2.1,.int .i64 p.2.2] 215)).drewN nq=t at *;have cc:∀{a:Addr}{x:Value},w.cell? a=some x->t.cell? a=some x:=fun {a x} e=>by rw[j.o.cell (yf e)];exact e
 have q4:t.cell? ⟨b,47,none⟩=some (.pointer (some ⟨g b,0,none⟩)):=cc X.o;have q5:t.cell? ⟨b,48,none⟩=some (.pointer (some ⟨f b,0,none⟩)):=cc Y.o;have r5:t.cell? ⟨g b,48,none⟩=some (.pointer (some ⟨f (g b),0,none⟩)):=cc F.o.1;have r4:t.cell? ⟨f b,47,none⟩=some (.pointer (some ⟨g (f b),0,none⟩)):=cc E.o.1;have s5:t.frozen? ⟨g b,48,none⟩=false:=by rw[j.o.frozen (p:=⟨g b,48,none⟩) (yf (p:=⟨g b,48,none⟩) F.o.1)];exact F.o.2
 have s4:t.frozen? ⟨f b,47,none⟩=false:=by rw[j.o.frozen (p:=⟨f b,47,none⟩) (yf (p:=⟨f b,47,none⟩) E.o.1)];exact E.o.2
 clear cc
 go_wp2
 go_region_held3 (λC=>C.cell? ⟨b,47,none⟩=some (.pointer (some ⟨g b,0,none⟩))/\C.cell? ⟨b,48,none⟩=some (.pointer (some ⟨f b,0,none⟩))) (go_keep) (fail)
 rename_i S;clear S
 -- what has come of the ring
 have HT:Hid (zl O [Gu] w ((t.setCell ⟨g b,48,none⟩ (.pointer (some ⟨f b,0,none⟩))).setCell ⟨f b,47,none⟩ (.pointer (some ⟨g b,0,none⟩))).drew/\KE ((t.setCell ⟨g b,48,none⟩ (.pointer (some ⟨f b,0,none⟩))).setCell ⟨f b,47,none⟩ (.pointer (some ⟨g b,0,none⟩))).drew eb (L.drop p) (EY f (g b) (f b)) (EY g (f b) (g b)) /\
   ∀k,k<w.heap.size+1->(∀c,t.heap[k]?≠some (.cells c Gu (0,0)))->((t.setCell ⟨g b,48,none⟩ (.pointer (some ⟨f b,0,none⟩))).setCell ⟨f b,47,none⟩ (.pointer (some ⟨g b,0,none⟩))).drew.heap[k]?=t.heap[k]?):=by
  have ah:=l.o.ring.same λk c e=>j.o.block k (zg e);have ad:=(j.o.block _ (zg HW.o.1)).trans HW.o.1;have ab:=(j.o.block _ (zg HW.o.2)).trans HW.o.2;have oP:O (g b):=by
   rcases HM.o.1 with e|e
   ·rw[e];exact l.o.own.2.2.1
   ·obtain⟨x,z,N⟩:=yi.1 e;rw[<- N];exact l.o.own.2.2.2 x (by rw[HE.o.1];simp[z])
  have oN:O (f b):=by
   rcases HM.o.2 with e|e
   ·rw[e];exact l.o.own.2.2.1
   ·obtain⟨x,z,N⟩:=yi.1 e;rw[<- N];exact l.o.own.2.2.2 x (by rw[HE.o.1];simp[z])
  refine⟨?_,?_,?_⟩
  ·have t1:zl O [Gu] w (t.setCell ⟨g b,48,none⟩ (.pointer (some ⟨f b,0,none⟩))):=(zl.aa j.o).set (.inl oP) ad (by simp) _;exact(t1.set (.inl oN) (R5 al.o.2 ab) (by simp) _).drew
  ·rw[HE.o.2];rw[HE.o.1]at ah;exact ah.aU.same λk c _=>rfl
  ·intro k _ V;have e1:k≠f b:=λe=>V _ (e▸ab);have e2:k≠g b:=λe=>V _ (e▸ad);show((t.setCell _ _).setCell _ _).heap[k]?=_;rw[yh _ _ _ _ e1,yh _ _ _ _ e2]
 generalize ((t.setCell ⟨g b,48,none⟩ (.pointer (some ⟨f b,0,none⟩))).setCell ⟨f b,47,none⟩ (.pointer (some ⟨g b,0,none⟩))).drew=W2 at *;clear q4 q5 r5 r4 s5 s4 F E X Y HW;have T:=(j.o.block _ (zg l.o.mem)).trans l.o.mem;have s:W2.heap[I]?=some (.cells #[.int .i64 B,.map (some G),yu eb] MeP (0,0)):=by
  rw[HT.o.2.2 I (Im (zg l.o.mem)) (λc e=>by rw[T]at e;simp only[zn,An]at e;exact absurd e.2.1 (by decide))];exact T
 have y:W2.heap[w.heap.size]?=some (.cells #[.int .i64 p.1,.int .i64 p.2.1,.int .i64 p.2.2] 215 (0,0)):=by
  rw[HT.o.2.2 w.heap.size (Nat.lt_succ_self _) (λc e=>by rw[K.o]at e;simp only[zn,An]at e;exact absurd e.2.1 (by decide))];exact K.o
 have i:BC W2.drew G L.ks:=by
  refine l.o.map.same ?_;show W2.heap[G]?=_;obtain⟨es,c,e⟩:=l.o.map.isMap;rw[HT.o.2.2 G (Im l.o.map.lt) (λc' J=>by rw[j.o.block _ l.o.map.lt,e]at J;simp at J),j.o.block _ l.o.map.lt]
 obtain⟨w3,ai,A,d⟩:=i.del underlying284 HP.o HK.o 0;unfold Fc at ai;obtain⟨a1,-⟩:=zm s 1 _ rfl;obtain⟨b0,-⟩:=zm y 0 _ rfl;obtain⟨b1,-⟩:=zm y 1 _ rfl;obtain⟨b2,-⟩:=zm y 2 _ rfl;have U:=(d.block I (zg s) (λe=>by
  simp only[zn]at e;obtain⟨es,c,J⟩:=i.isMap;rw[<- e]at J;have:=s.symm.trans J;simp at this)).trans s
 have H:=(d.block w.heap.size (zg y) (λe=>by
  simp only[zn]at e;obtain⟨es,c,J⟩:=i.isMap;rw[<- e]at J;have:=y.symm.trans J;simp at this)).trans y
 obtain⟨c1,-⟩:=zm U 1 _ rfl;obtain⟨d0,-⟩:=zm H 0 _ rfl;obtain⟨d1,-⟩:=zm H 1 _ rfl;obtain⟨d2,-⟩:=zm H 2 _ rfl;have ak:=ze A;have Z:=ze U;have W:Hid (W2.grownBy w3 (some G)):=⟨d.os,d.tape,d.output,d.size,d.block⟩;have aj:=ze i;clear T s y U H i A d
 go_wp2
 go_region_held3 (λC=>C.cell? ⟨I,1,none⟩=some (.map (some G))/\C.cell? ⟨w.heap.size,0,none⟩=some (.int .i64 p.1)/\C.cell? ⟨w.heap.size,1,none⟩=some (.int .i64 p.2.1)/\C.cell? ⟨w.heap.size,2,none⟩=some (.int .i64 p.2.2)) (go_keep) (fail)
 go_wp2
 go_end0
 have af:∀x∈L.drop p,x∈L:=λx z=>(CX.1 z).1;have s:=aj.o.same rfl;refine⟨rfl,HT.o.1.map (.inl l.o.own.2.1) s W.o,G,eb,EY f (g b) (f b),EY g (f b) (g b),⟨l.o.own.1,l.o.own.2.1,l.o.own.2.2.1,λx z=>l.o.own.2.2.2 x (af x z)⟩,Z.o,?_,?_,λx z=>l.o.ok x (af x z)⟩
 ·exact HT.o.2.1.same λk c e=>W.o.block k (zg e) (s.not e)
 ·rw[zg0];exact ak.o
def zf2 (O:Nat->Prop)(c:Nat)(b:Int)(L:EJ)(p:Pl)(g:FV p)(w:World)(h:G0 w O c b L)(e:L.get p=none):
  Calls prog 275 #[yu c,Fc p] w λr j=>r=.returned (.tuple #[])/\zc w j:=by
 obtain⟨d,l,m,q,h⟩:=h;have f:L.ks.get p=none:=by rw[Nw,e];rfl
 obtain⟨i,-⟩:=zm h.mem 1 _ rfl;have a:=λn o=>(h.map.same (w':=(w.alloc o).drewN n) (FD w o d h.map.lt)).look underlying284 PY g;rw[f]at a;simp only[Si,KY]at a;have k:=zg h.mem;have s:∀o,(w.alloc o).cell? ⟨c,1,none⟩=some (.map (some d)):=λo=>by rw[xg _ _ ⟨c,1,none⟩ k];exact i
 unfold Fc at a ⊢;unfold yu;go_enter func275,ntmps275
 go_wp2
 go_quiet (fail)
 go_wp2_with fail
 first|go_end0|refine zv (BA rfl _ _ _) rfl ?_
 exact⟨rfl,DR (zi w _) _⟩
def G0.stay {b:Int}{L:EJ}(h:G0 w O mb b L)(m:zl O1 T w w')(i:∀k,O k->¬O1 k)(d:∀k,O k->O' k):G0 w' O' mb b L:=by
 obtain⟨j,g,n,o,h⟩:=h;have a:∀k,O k->k<w.heap.size->w'.heap[k]?=w.heap[k]?:=λk l f=>by
  rcases m.block k f with e|⟨e,-⟩
  ·exact e
  ·exact absurd e (i k l)
 refine⟨j,g,n,o,⟨d _ h.own.1,d _ h.own.2.1,d _ h.own.2.2.1,λx c=>d _ (h.own.2.2.2 x c)⟩,(a _ h.own.1 (zg h.mem)).trans h.mem,?_,h.map.same (a _ h.own.2.1 h.map.lt),h.ok⟩;exact⟨(a _ h.own.2.2.1 (zg h.ring.ends)).trans h.ring.ends,λx c=>(a _ (h.own.2.2.2 x c) (zg (h.ring.link x c))).trans (h.ring.link x c),h.ring.aD,h.ring.len⟩
def G0.below {a:Int}{L:EJ}(h:G0 w O mb a L)(c:zc w w')(b:∀k,O k->O' k):G0 w' O' mb a L:=
 h.stay (O1:=λ_=>False) (T:=[]) (.aa c) (λ_ _ h=>h) b
def SF (O:Nat->Prop)(b:Nat)(a:Int)(L:EJ)(p:Pl)(f:FV p)(w:World)(h:G0 w O b a L):
  Calls prog 275 #[yu b,Fc p] w λr d=>r=.returned (.tuple #[])/\zl O [Gu] w d/\G0 d O b a (L.drop p):=by
 cases c:L.get p with
 |some x=>exact zbh O b a L p f w h x.1 x.2 c
 |none =>
  refine(zf2 O b a L p f w h c).mono ?_;rintro r d ⟨rfl,e⟩;rw[EJ.aX c];exact⟨rfl,.aa e,h.below e (λ_ h=>h)⟩
variable {nb:Nat}{v:Value}
def zl.bG {a:World}{n:Nat}(h:zl O T (a.drewN n) w):zl O T a w:=⟨h.os,h.tape,h.output,h.size,h.block⟩
def zde (a:Int)(L:Ek):Ek:=if a<(L.length:Int) then L.tail else L
def Yv (L:Ek)(b:Nat)(p:Pl)(v:Value):Ek.ks (L++[(b,p,v)])=L.ks++[(p,b)]:=by simp[Ek.ks]
def Uy (L:Ek)(p:Pl):(L.drop p).get p=none:=by
 unfold Ek.get Ek.drop;have:(L.filter λx=>!decide (x.2.1=p)).find? (λx=>decide (x.2.1=p))=none:=by
  rw[Bj];intro x a;have:=(CX.1 a).2;simpa using this
 rw[this]
def KD.add {p:Pl}{L:Ek}(h:KD w eb L nx pv)(k:w.heap[nb]?=some (.cells (XD p v (pv eb) eb) FC (0,0)))(a:nb∉eb::L.map (·.1)):
  KD ((w.setCell ⟨pv eb,5,none⟩ (.pointer (some ⟨nb,0,none⟩))).setCell ⟨eb,4,none⟩ (.pointer (some ⟨nb,0,none⟩))) eb (L++[(nb,p,v)]) (EY (EY nx (pv eb) nb) nb eb) (EY (EY pv eb nb) nb (pv eb)):=by
 have j:=h.aD;have g:nb≠pv eb:=λe=>a (e▸j.aO);have f:nb≠eb:=λe=>a (by simp[e]);have i:∀{c:Nat}{q:Pl}{u:Value},c≠nb->w.heap[c]?=some (.cells (XD q u (pv c) (nx c)) FC (0,0))->((w.setCell ⟨pv eb,5,none⟩ (.pointer (some ⟨nb,0,none⟩))).setCell ⟨eb,4,none⟩ (.pointer (some ⟨nb,0,none⟩))).heap[c]?=some (.cells (XD q u (EY (EY pv eb nb) nb (pv eb) c) (EY (EY nx (pv eb) nb) nb eb c)) FC (0,0)):=by
  intro c q u d e;rw[Bi _ nb _ c d,Bi _ nb _ c d];exact ziz (Xj e)
 refine⟨i f.symm h.ends,λx b=>?_,?_⟩
 ·rcases yj.1 b with b|b
  ·exact i (λe=>a (by rw[<- e];exact BV _ (yi.2 ⟨x,b,rfl⟩))) (h.link x b)
  ·obtain rfl:x=(nb,p,v):=by simpa using b
   simp only;rw[Dh,Dh,yh _ _ _ _ f,yh _ _ _ _ g];exact k
 ·rw[yv];exact j.add a
def zid (O:Nat->Prop)(E:Nat)(g:Int)(L:Ek)(p:Pl)(hp:FV p)(a:Option Addr)(w:World)(h:Dj w O E g L)(hn:L.length<=1000000000000):
  Calls prog 279 #[yu E,Fc p,.pointer a] w λr F=>r=.returned (.tuple #[])/\zl O [FC] w F/\∃f,w.heap.size<=f/\f<F.heap.size/\Dj F (qv O w F) E g (zde g (L.drop p++[(f,p,.pointer a)])):=by
 have HD:=ze (SE O E g L p hp (w.alloc (.cells #[.int .i64 p.1,.int .i64 p.2.1,.int .i64 p.2.2] 215)) (h.below (zi w _) (λ_ h=>h)));have HP:=ze hp;have HN:Hid ((L.drop p).length<=1000000000000):=zt (BL _ _) hn;have aq:=ze (Uy L p);clear h hp hn;generalize L.drop p=Y at *;unfold Fc yu at *;go_enter func279,ntmps279;go_wp2_with fail;refine HD.o.mono ?_;rintro r G ⟨rfl,al,aF⟩;have R:G.heap[w.heap.size]?=some (.cells #[.int .i64 p.1,.int .i64 p.2.1,.int .i64 p.2.2] 215 (0,0)):=al.keep (zf w _) (by decide);have ak:Hid (zl O [FC] w G):=(zl.aa (zi w _)).trans (al.mono (λk hk=>.inl hk) (λ_ h=>h));obtain⟨K,b,nx,j,M⟩:=aF;have HM:=ze M;have e2:G.cell? ⟨E,2,none⟩=some (.pointer (some ⟨b,0,none⟩)):=(zm M.mem 2 _ rfl).1;have e4:G.cell? ⟨b,4,none⟩=some (.pointer (some ⟨j b,0,none⟩)):=(zm M.ring.ends 4 _ rfl).1;have k0:G.cell? ⟨w.heap.size,0,none⟩=some (.int .i64 p.1):=(zm R 0 _ rfl).1;have k1:G.cell? ⟨w.heap.size,1,none⟩=some (.int .i64 p.2.1):=(zm R 1 _ rfl).1;have k2:G.cell? ⟨w.heap.size,2,none⟩=some (.int .i64 p.2.2):=(zm R 2 _ rfl).1;have ae:=ze R;have z0:¬E=G.heap.size:=by have:=zg M.mem;omega
 have z1:¬b=G.heap.size:=by have:=zg M.ring.ends;omega
 have z2:¬w.heap.size=G.heap.size:=by have:=zg R;omega
 clear HD M R al
 go_wp2
 go_region_held3 (λF=>F.cell? ⟨E,2,none⟩=some (.pointer (some ⟨b,0,none⟩))/\F.cell? ⟨b,4,none⟩=some (.pointer (some ⟨j b,0,none⟩))/\F.cell? ⟨w.heap.size,0,none⟩=some (.int .i64 p.1)/\F.cell? ⟨w.heap.size,1,none⟩=some (.int .i64 p.2.1)/\F.cell? ⟨w.heap.size,2,none⟩=some (.int .i64 p.2.2)) (go_keep) (fail)
 rename_i v;clear v z0 z1 z2 e2 e4 k0 k1 k2;have N:Hid (zc G (G.alloc (.cells #[.int .i64 p.1,.int .i64 p.2.1,.int .i64 p.2.2,.pointer a,.pointer (some ⟨j b,0,none⟩),.pointer (some ⟨b,0,none⟩)] FC)).drew):=(zi _ _).drew;have S:Hid ((G.alloc (.cells #[.int .i64 p.1,.int .i64 p.2.1,.int .i64 p.2.2,.pointer a,.pointer (some ⟨j b,0,none⟩),.pointer (some ⟨b,0,none⟩)] FC)).drew.heap[G.heap.size]?=some (.cells (XD p (.pointer a) (j b) b) FC (0,0))):=zf _ _;generalize (G.alloc (.cells #[.int .i64 p.1,.int .i64 p.2.1,.int .i64 p.2.2,.pointer a,.pointer (some ⟨j b,0,none⟩),.pointer (some ⟨b,0,none⟩)] FC)).drew=B at *;have ag:Hid (w.heap.size<=G.heap.size):=ak.o.size;have d:Hid (M7 B O E K b nx j g Y):=by
  have M:=HM.o;refine⟨M.own,(N.o.block _ (zg M.mem)).trans M.mem,M.ring.same λk c e=>N.o.block k (zg e),M.map.same (N.o.block _ M.map.lt),M.ok⟩
 have au:Hid (zl O [FC] w B):=ak.o.ah N.o;have af:Hid (B.heap[w.heap.size]?=some (.cells #[.int .i64 p.1,.int .i64 p.2.1,.int .i64 p.2.2] 215 (0,0))):=(N.o.block _ (zg ae.o)).trans ae.o;have X:Hid (G.heap.size∉b::Y.map (·.1)):=by
  intro s;rcases jl.1 s with e|e
  ·have:=zg HM.o.ring.ends;omega
  ·obtain⟨x,s,ex⟩:=yi.1 e;have:=zg (HM.o.ring.link x s);omega
 clear ak HM ae N;generalize G.heap.size=f at *;have Q:∃q u,B.heap[j b]?=some (.cells (XD q u (j (j b)) (nx (j b))) FC (0,0)):=by
  rcases jl.1 d.o.ring.aD.aO with e|e
  ·rw[e];exact⟨_,_,d.o.ring.ends⟩
  ·obtain⟨x,s,ex⟩:=yi.1 e;rw[<- ex];exact⟨_,_,d.o.ring.link x s⟩
 obtain⟨q,u,Q⟩:=Q;have oP:Hid (O (j b)):=by
  rcases jl.1 d.o.ring.aD.aO with e|e
  ·rw[e];exact d.o.own.2.2.1
  ·obtain⟨x,s,ex⟩:=yi.1 e;rw[<- ex];exact d.o.own.2.2.2 x s
 have n4:B.cell? ⟨f,4,none⟩=some (.pointer (some ⟨j b,0,none⟩)):=(zm S.o 4 _ rfl).1;have n5:B.cell? ⟨f,5,none⟩=some (.pointer (some ⟨b,0,none⟩)):=(zm S.o 5 _ rfl).1;have p5:B.cell? ⟨j b,5,none⟩=some (.pointer (some ⟨nx (j b),0,none⟩)):=(zm Q 5 _ rfl).1;have g5:B.frozen? ⟨j b,5,none⟩=false:=(zm Q 5 _ rfl).2;have e4:B.cell? ⟨b,4,none⟩=some (.pointer (some ⟨j b,0,none⟩)):=(zm d.o.ring.ends 4 _ rfl).1;have g4:B.frozen? ⟨b,4,none⟩=false:=(zm d.o.ring.ends 4 _ rfl).2;have z0:¬j b=f:=λe=>X.o (e▸d.o.ring.aD.aO);have z1:¬b=f:=λe=>X.o (by simp[e]);have aj:=ze Q;clear Q
 go_wp2
 go_region_held3 (λF=>F.cell? ⟨f,4,none⟩=some (.pointer (some ⟨j b,0,none⟩))/\F.cell? ⟨f,5,none⟩=some (.pointer (some ⟨b,0,none⟩))) (go_keep) (fail)
 rename_i v;clear v
 have HR:Hid (zl O [FC] w ((B.setCell ⟨j b,5,none⟩ (.pointer (some ⟨f,0,none⟩))).setCell ⟨b,4,none⟩ (.pointer (some ⟨f,0,none⟩))).drew/\KD ((B.setCell ⟨j b,5,none⟩ (.pointer (some ⟨f,0,none⟩))).setCell ⟨b,4,none⟩ (.pointer (some ⟨f,0,none⟩))).drew b (Y++[(f,p,.pointer a)]) (EY (EY nx (j b) f) f b) (EY (EY j b f) f (j b)) /\
   (f<((B.setCell ⟨j b,5,none⟩ (.pointer (some ⟨f,0,none⟩))).setCell ⟨b,4,none⟩ (.pointer (some ⟨f,0,none⟩))).drew.heap.size) /\
   ∀(k:Nat),(∀c:Array Value,B.heap[k]?≠some (Obj.cells c FC (0,0)))->((B.setCell ⟨j b,5,none⟩ (.pointer (some ⟨f,0,none⟩))).setCell ⟨b,4,none⟩ (.pointer (some ⟨f,0,none⟩))).drew.heap[k]?=B.heap[k]?):=by
  refine⟨?_,(d.o.ring.add S.o X.o).same λk c _=>rfl,?_,?_⟩
  ·have t1:zl O [FC] w (B.setCell ⟨j b,5,none⟩ (.pointer (some ⟨f,0,none⟩))):=au.o.set (.inl oP.out) aj.o (by simp) _;exact(t1.set (.inl d.o.own.2.2.1) (Xj d.o.ring.ends) (by simp) _).drew
  ·have:=zg S.o;simpa[World.setCell,World.drew]using this
  ·intro k hk;have e1:k≠b:=λe=>hk _ (e▸d.o.ring.ends);have e2:k≠j b:=λe=>hk _ (e▸aj.o);show((B.setCell _ _).setCell _ _).heap[k]?=_;rw[yh _ _ _ _ e1,yh _ _ _ _ e2]
 generalize ((B.setCell ⟨j b,5,none⟩ (.pointer (some ⟨f,0,none⟩))).setCell ⟨b,4,none⟩ (.pointer (some ⟨f,0,none⟩))).drew=W at *;clear n4 n5 p5 g5 e4 g4 z0 z1 aj oP;have z:W.heap[E]?=some (.cells #[.int .i64 g,.map (some K),yu b] MeN (0,0)):=by
  rw[HR.o.2.2.2 E (λc e=>by rw[d.o.mem]at e;simp only[zn,An]at e;exact absurd e.2.1 (by decide))];exact d.o.mem
 have l:W.heap[w.heap.size]?=some (.cells #[.int .i64 p.1,.int .i64 p.2.1,.int .i64 p.2.2] 215 (0,0)):=by
  rw[HR.o.2.2.2 w.heap.size (λc e=>by rw[af.o]at e;simp only[zn,An]at e;exact absurd e.2.1 (by decide))];exact af.o
 have I:BC W.drew K Y.ks:=by
  refine d.o.map.same ?_;show W.heap[K]?=_;refine HR.o.2.2.2 K (λc e=>d.o.map.not e rfl)
 have ax:Y.ks.get p=none:=by rw[Nv,aq.o];rfl
 obtain⟨A,ad,U,m⟩:=I.put underlying290 HP.o (by have:=HN.o;unfold maxLen;simp[Ek.ks];omega) ax f;unfold Fc yu at ad;have H:W.grownBy A (some K):=⟨m.os,m.tape,m.output,m.size,m.block⟩;have T:BC W K Y.ks:=I.same rfl;have J:=(H.block E (zg z) (T.not z)).trans z;have C:=(H.block w.heap.size (zg l) (T.not l)).trans l;have a1:W.cell? ⟨E,1,none⟩=some (.map (some K)):=(zm z 1 _ rfl).1;have b0:W.cell? ⟨w.heap.size,0,none⟩=some (.int .i64 p.1):=(zm l 0 _ rfl).1;have b1:W.cell? ⟨w.heap.size,1,none⟩=some (.int .i64 p.2.1):=(zm l 1 _ rfl).1;have b2:W.cell? ⟨w.heap.size,2,none⟩=some (.int .i64 p.2.2):=(zm l 2 _ rfl).1;have c1:A.cell? ⟨E,1,none⟩=some (.map (some K)):=(zm J 1 _ rfl).1;have d0:A.cell? ⟨w.heap.size,0,none⟩=some (.int .i64 p.1):=(zm C 0 _ rfl).1;have d1:A.cell? ⟨w.heap.size,1,none⟩=some (.int .i64 p.2.1):=(zm C 1 _ rfl).1;have d2:A.cell? ⟨w.heap.size,2,none⟩=some (.int .i64 p.2.2):=(zm C 2 _ rfl).1;have i:Hid (M7 A (qv O w A) E K b (EY (EY nx (j b) f) f b) (EY (EY j b f) f (j b)) g (Y++[(f,p,.pointer a)])):=by
  refine⟨⟨.inl d.o.own.1,.inl d.o.own.2.1,.inl d.o.own.2.2.1,λx s=>?_⟩,J,HR.o.2.1.same λk c e=>H.block k (zg e) (T.not e),by rw[Yv];exact U,λx s=>?_⟩
  ·rcases yj.1 s with s|s
   ·exact .inl (d.o.own.2.2.2 x s)
   ·obtain rfl:x=(f,p,.pointer a):=by simpa using s
    exact .inr ⟨ag.o,zq HR.o.2.2.1 H.size⟩
  ·rcases yj.1 s with s|s
   ·exact d.o.ok x s
   ·obtain rfl:x=(f,p,.pointer a):=by simpa using s
    exact⟨HP.o,a,rfl⟩
 have av:Hid (zl O [FC] w A):=HR.o.1.map (.inl d.o.own.2.1) T H;have ar:Hid (f<A.heap.size):=zq HR.o.2.2.1 H.size;clear z l I ax U m H T J C d au af X S HR
 go_wp2
 go_region_held3 (λF=>F.cell? ⟨E,1,none⟩=some (.map (some K))/\F.cell? ⟨w.heap.size,0,none⟩=some (.int .i64 p.1)/\F.cell? ⟨w.heap.size,1,none⟩=some (.int .i64 p.2.1)/\F.cell? ⟨w.heap.size,2,none⟩=some (.int .i64 p.2.2)) (go_keep) (fail)
 rename_i v;clear v ad a1 b0 b1 b2 d0 d1 d2 aq;generalize EY (EY nx (j b) f) f b=an at *;generalize EY (EY j b f) f (j b)=ay at *;have aA:Hid (Y++[(f,p,Value.pointer a)]≠[]):=by show _≠_;simp
 generalize aw:Y++[(f,p,Value.pointer a)]=P at *;have ap:=ze aw;clear aw;have aG:∀n ty,(Builtin.len_ #[290] ty #[.map (some K)]).run prog (A.drewN n)=.ok (.int .i64 (P.length:Int)) (A.drewN n):=λn ty=>by
  have:=(i.o.map.same (w':=A.drewN n) rfl).len underlying290 ty;rw[this];simp[Ek.ks]
 have r0:A.cell? ⟨E,0,none⟩=some (.int .i64 g):=(zm i.o.mem 0 _ rfl).1
 by_cases hc:g<(P.length:Int)
 ·have ai:Hid (zde g P=P.tail):=if_pos hc;have r2:A.cell? ⟨E,2,none⟩=some (.pointer (some ⟨b,0,none⟩)):=(zm i.o.mem 2 _ rfl).1;obtain⟨x,L5,eL⟩:∃x r,P=x::r:=by
   cases h:P with
   |nil=>exact absurd h aA.o
   |cons x r=>exact⟨x,r,rfl⟩
  have ab:an b=x.1:=by
   have:=i.o.ring.aD;rw[eL,j4]at this;exact this.first.1
  have s:=i.o.ring.link x (by rw[eL];simp);have r5:A.cell? ⟨b,5,none⟩=some (.pointer (some ⟨x.1,0,none⟩)):=by
   have:=(zm i.o.ring.ends 5 _ rfl).1;rw[ab]at this;exact this
  have x0:A.cell? ⟨x.1,0,none⟩=some (.int .i64 x.2.1.1):=(zm s 0 _ rfl).1;have x1:A.cell? ⟨x.1,1,none⟩=some (.int .i64 x.2.1.2.1):=(zm s 1 _ rfl).1;have x2:A.cell? ⟨x.1,2,none⟩=some (.int .i64 x.2.1.2.2):=(zm s 2 _ rfl).1;have aE:=ze (i.o.ok x (by rw[eL];simp)).1;have aC:Hid (P.drop x.2.1=P.tail):=by
   show _=_;obtain⟨D,-,-,Z,-⟩:=i.o.map;rw[eL]at Z ⊢;unfold Ek.ks at Z;rw[EG,j4,AK]at Z;unfold Ek.drop;rw[Jn];simp only[decide_true,Bool.not_true,vz,CM,List.tail_cons];rw[Ay];intro y hy;have:y.2.1≠x.2.1:=λe=>Z.1 (yi.2 ⟨y,hy,e⟩);simpa using this
  clear eL ab s;have ao:=ze (λn=>SE (qv O w A) E g P x.2.1 aE.o (A.drewN n) ⟨K,b,an,ay,⟨i.o.own,i.o.mem,i.o.ring.same λ_ _ _=>rfl,i.o.map.same rfl,i.o.ok⟩⟩);unfold Fc yu at ao;obtain⟨xb,⟨xl,xi,xw⟩,xv⟩:=x
  go_wp2
  go_quiet (fail)
  go_wp2_with fail;refine(ao.o _).mono ?_;rintro r w5 ⟨rfl,am,t⟩;rw[aC.o]at t;have aB:Hid (zl O [FC] w w5):=av.o.trans (am.mono (λ_ h=>h) (λ_ h=>h)).bG;have V:A.heap.size<=w5.heap.size:=am.size;obtain⟨h5,e5,n5,p5,t⟩:=t;have az:Hid (Dj w5 (qv O w w5) E g P.tail):=⟨h5,e5,n5,p5,⟨⟨qv.more V _ t.own.1,qv.more V _ t.own.2.1,qv.more V _ t.own.2.2.1,λx s=>qv.more V _ (t.own.2.2.2 x s)⟩,t.mem,t.ring,t.map,t.ok⟩⟩;clear am t
  go_wp2
  go_end0
  exact⟨rfl,aB.o,f,ag.o,zq ar.o V,by rw[ap.o,ai.o];exact az.o⟩
 ·have ai:Hid (zde g P=P):=if_neg hc;have aH:(P.length:Int)<=g:=by omega
  go_wp2
  go_quiet (fail)
  go_wp2
  go_end0
  exact⟨rfl,av.o.drewN _,f,ag.o,ar.o,by rw[ap.o,ai.o];exact⟨K,b,an,ay,⟨i.o.own,i.o.mem,i.o.ring.same λ_ _ _=>rfl,i.o.map.same rfl,i.o.ok⟩⟩⟩
end Go.Proofs.YtfdbeldiomkdiaaGreatDoor
