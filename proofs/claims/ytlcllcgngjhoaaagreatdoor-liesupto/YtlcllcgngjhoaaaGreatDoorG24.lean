import Derived.Test.YtlcllcgngjhoaaaGreatDoorG23
set_option maxHeartbeats 8000000
set_option maxRecDepth 100000
set_option linter.all false
namespace Go.Proofs.YtlcllcgngjhoaaaGreatDoor
open Go.RowKit Go.Proofs.Tryz
def xf:=@List.size_toArray
def jw:=@List.getElem?_toArray
def zac:=@List.getElem?_cons_succ
def zau:=@Array.getD_eq_getD_getElem?
def ziq:=@all_oneCell_toArray
variable {O O' O1:Nat→Prop}{T:List Nat}{b eb m mb o:Nat}{t:TypeId}{w w':World}
abbrev LkP:Nat:=205
abbrev MeP:Nat:=207
def lkP (p:Pl)(v:List Value)(o n:Nat):Array Value:=(.int .i64 p.1:: .int .i64 p.2.1:: .int .i64 p.2.2::(v++[yx o,yx n])).toArray
def yh9:List Value:=[.bool false,.bool false,.int .u8 0,.int .u8 0,.int .u8 0,.int .u8 0,.int .u8 0,.int .u8 0,.int .u8 0,.int .u8 0,.slice none 0 0]
def noV:List Value:=yh9++(yh9++(yh9++yh9))
abbrev za6:Array Value:=#[.bool false,.bool false,.int .u8 0,.int .u8 0,.int .u8 0,.int .u8 0,.int .u8 0,.int .u8 0,.int .u8 0,.int .u8 0,.slice none 0 0,.bool false,.bool false,.int .u8 0,.int .u8 0,.int .u8 0,.int .u8 0,.int .u8 0,.int .u8 0,.int .u8 0,.int .u8 0,.slice none 0 0,.bool false,.bool false,.int .u8 0,.int .u8 0,.int .u8 0,.int .u8 0,.int .u8 0,.int .u8 0,.int .u8 0,.int .u8 0,.slice none 0 0,.bool false,.bool false,.int .u8 0,.int .u8 0,.int .u8 0,.int .u8 0,.int .u8 0,.int .u8 0,.int .u8 0,.int .u8 0,.slice none 0 0]
theorem zgn:noV.length=44:=rfl
theorem zy7 {p:Pl}{v:List Value}{n:Nat}(h:v.length=44):(lkP p v o n)[47]?=some (yx o):=by
 simp [lkP,h]
theorem zy6 {p:Pl}{v:List Value}{n:Nat}(h:v.length=44):(lkP p v o n)[48]?=some (yx n):=by
 simp [lkP,h]
theorem ycu {p:Pl}{v:List Value}{n:Nat}(h:v.length=44):(lkP p v o n).setIfInBounds 47 (yx m)=lkP p v m n:=by
 simp [lkP,h]
theorem ycv {p:Pl}{v:List Value}{n:Nat}(h:v.length=44):(lkP p v o n).setIfInBounds 48 (yx m)=lkP p v o m:=by
 simp [lkP,h]
abbrev LsP:=List (Nat×Pl×List Value)
def LsP.ks (L:LsP):Ks:=L.map fun x=>(x.2.1,x.1)
def LsP.drop (L:LsP)(p:Pl):LsP:=L.filter fun x=>!decide (x.2.1=p)
structure zl8 (w:World)(eb:Nat)(L:LsP)(nx pv:Nat→Nat):Prop where
 ends:w.heap[eb]?=some (.cells (lkP (0,0,0) noV (pv eb) (nx eb)) LkP (0,0))
 link:∀ x∈L,w.heap[x.1]?=some (.cells (lkP x.2.1 x.2.2 (pv x.1) (nx x.1)) LkP (0,0))
 circ:zn7 eb (L.map (·.1)) nx pv
 len:∀ x∈L,x.2.2.length=44∧∀ v∈x.2.2,v.oneCell'=true
structure zhg (w:World)(O:Nat→Prop)(mb hb eb:Nat)(nx pv:Nat→Nat)(room:Int)(L:LsP):Prop where
 own:O mb∧O hb∧O eb∧∀ x∈L,O x.1
 mem:w.heap[mb]?=some (.cells #[.int .i64 room,.map (some hb),yx eb] MeP (0,0))
 ring:zl8 w eb L nx pv
 map:zb6 w hb L.ks
 ok:∀ x∈L,zip x.2.1
def zjg (w:World)(O:Nat→Prop)(d:Nat)(a:Int)(L:LsP):Prop:=∃ c b e f,zhg w O d c b e f a L
def LsP.get (L:LsP)(p:Pl):Option (Nat×List Value):=match L.find? (fun x=>decide (x.2.1=p)) with
 | some x=>some (x.1,x.2.2)
 | none=>none
theorem zrt (L:LsP)(p:Pl):L.ks.get p=(L.get p).map (·.1):=by
 unfold LsP.ks Ks.get LsP.get;rw [List.find?_map];have:((fun x:Pl×Nat=>decide (x.1=p))∘fun x:Nat×Pl×List Value=>(x.2.1,x.1))=fun x=>decide (x.2.1=p):=rfl;rw [this];cases L.find? (fun x=>decide (x.2.1=p))<;>rfl
theorem z06 {L:LsP}{p:Pl}{v:List Value}(h:L.get p=some (b,v)):(b,p,v)∈L:=by
 unfold LsP.get at h;cases e:L.find? (fun x=>decide (x.2.1=p)) with
 | none=>rw [e] at h;simp at h
 | some x =>
  rw [e] at h;simp only [zr,ye] at h;have d:=zju e;have f:=zdm e;simp only [vj] at d;obtain⟨a,g,c⟩:=x;simp only at h d;obtain⟨rfl,rfl⟩:=h;subst d;exact f
theorem zu5 (w:World):(zeroValue 203).run prog w= .ok (.pointer none) w:=by kernel_rfl
theorem yct {p:Pl}{v:List Value}{n:Nat}(h:w.heap[b]?=some (.cells (lkP p v o n) LkP (0,0))):w.rangeAt b 3 v:=by
 intro j x a;rw [yq _ _ _ _ _ _ h];have c:j < v.length:=(xy.1 a).1;unfold lkP;rw [show 3+j=j+1+1+1 by omega];simp only [jw,zac,qd c];exact a
theorem zcs:(prog.info? 154).map (·.size)=some 44:=by kernel_rfl
theorem qa {P:Program}{fn:Func}{p u:Tmp}{ty:TypeId}(h:fn.results=#[.cell p ty,.tmp u])(tmps:Array Value)(w:World)(g:Nat)(t:TypeId)(cs:Array Value)(fr:Nat×Nat)(d:TypeDesc)
  (hp:tmps.getD p undef= .pointer (some ⟨g,0,none⟩)) (hg:w.heap[g]?=some (.cells cs t fr))
  (hu:P.underlying ty=some d) (hd:(match d with | .struct _ | .array _ _=>true | _=>false)=true) (hi:(P.info? ty).map (·.size)=some cs.size) (x:Value) (hx:tmps.getD u undef=x) :
  (results fn tmps).run P w= .ok (.tuple #[.agg cs,x]) w:=by
 have a:=zdi (P:=P) w g t ty cs fr d hg hu hd hi;simp only [zau] at hp hx;simp [results,h,hp,hx,asAddr,a]
theorem ldF {ops:Array Oper}{rest:List Oper}{d:Oper}{a:Act}{Q:Exit→Act→World→Prop}(e:d.guard=none)(x:Operand)(i:d.op= .load 154 x)
 (b o:Nat) (j:a.eval x= .pointer (some ⟨b,o,none⟩)) (c:List Value) (g:c.length=44) (f:w.rangeAt b o c) (h:wpList prog ops Q rest (a.put d.dst (.agg c.toArray)) w):wpList prog ops Q (d::rest) a w :=
 wpList_load_mid e _ x i b o j c _ f underlying154 rfl (by rw [zcs,g]) h
theorem j6 {cs:List Value}{a:Nat×Nat}(h:w.heap[b]?=some (.cells cs.toArray t a)):w.rangeAt b 0 cs:=by
 intro j x c;rw [yq _ _ _ _ _ _ h];simpa using c
structure you (w W0:World)(p:Pl):Prop where
 below:Below w.heap.size w W0
 key:W0.heap[w.heap.size]?=some (.cells #[.int .i64 p.1,.int .i64 p.2.1,.int .i64 p.2.2] 150 (0,0))
 ans:W0.heap[w.heap.size+1]?=some (.cells noV.toArray 154 (0,0))
theorem zvh (w:World)(p:Pl):you w ((w.alloc (.cells #[.int .i64 p.1,.int .i64 p.2.1,.int .i64 p.2.2] 150)).alloc (.cells za6 154)) p:=by
 refine⟨xu _ _ _,zj (zg _ _),?_⟩;have:=zg (w.alloc (.cells #[.int .i64 p.1,.int .i64 p.2.1,.int .i64 p.2.2] 150)) (.cells za6 154);rw [show(w.alloc (.cells #[.int .i64 p.1,.int .i64 p.2.1,.int .i64 p.2.2] 150)).heap.size=w.heap.size+1 by simp] at this;exact this
theorem ylr:noV.toArray.all (·.oneCell') =true:=by simp [noV,yh9,Value.oneCell']
theorem yk7 (O:Nat→Prop)(e:Nat)(d:Int)(L:LsP)(p:Pl)(k:zip p)(w:World)(h:zjg w O e d L)(i:L.get p=none):
  Calls prog 180 #[yx e,plV p] w fun r u=>r= .returned (.tuple #[.agg noV.toArray,.bool false])∧Below w.heap.size w u:=by
 obtain⟨g,z,A,B,h⟩:=h;have j:L.ks.get p=none:=by rw [zrt,i];rfl
 have c:=zf (zvh w p);unfold plV;unfold yx;clear i;go_enter func180,ntmps180;go_wp2_with fail;generalize (w.alloc (.cells #[.int .i64 p.1,.int .i64 p.2.1,.int .i64 p.2.2] 150)).alloc (.cells za6 154)=b at *;have a:=fun n=>(h.map.same (w':=b.drewN n) (c.o.below.block g h.map.lt)).look underlying202 zu5 k;rw [j] at a;simp only [zx9,zoe] at a;unfold plV at a;have x:b.cell? ⟨e,1,none⟩=some (.map (some g)):=(zw ((c.o.below.block _ (zi h.mem)).trans h.mem) 1 _ rfl).1;have q:b.cell? ⟨w.heap.size,0,none⟩=some (.int .i64 p.1):=(zw c.o.key 0 _ rfl).1;have s:b.cell? ⟨w.heap.size,1,none⟩=some (.int .i64 p.2.1):=(zw c.o.key 1 _ rfl).1;have t:b.cell? ⟨w.heap.size,2,none⟩=some (.int .i64 p.2.2):=(zw c.o.key 2 _ rfl).1;clear j k h
 go_quiet (fail)
 have m:Hid ((b.drewN nq).rangeAt (w.heap.size+1) 0 noV):=j6 c.o.ans;have f:Hid ((b.drewN nq).heap[w.heap.size+1]?=some (.cells noV.toArray 154 (0,0))):=c.o.ans;have l:Hid (Below w.heap.size w (b.drewN nq)):=zhz c.o.below _;clear a x q s t;generalize b.drewN nq=y at *;go_wp2_with (first
  | (show wpList _ _ _ ({ dst:=_,op:=Op.load 154 _,type:=_,pos:=_,after:=_,guard:=_ }::_) _ _;refine ldF rfl _ rfl _ _ rfl noV zgn m.o ?_)
  | (show wpList _ _ _ ({ dst:=none,op:=Op.store 154 _ _,type:=_,pos:=_,after:=_,guard:=_ }::_) _ _;refine xe rfl 154 _ _ rfl (w.heap.size+1) noV.toArray rfl rfl 154 _ f.o zcs rfl ylr ?_))
 refine z8 (v:= .tuple #[.agg noV.toArray,.bool false]) (qa results180 _ _ (w.heap.size+1) 154 noV.toArray (0,0) _ rfl (za0 _ _ _ _ _ _ f.o) underlying154 rfl zcs _ rfl) rfl ⟨rfl,?_⟩;exact za2 l.o (by omega) _
theorem yg2 (O:Nat→Prop)(u:Nat)(m:Int)(L:LsP)(p:Pl)(A:zip p)(w:World)(h:zjg w O u m L)(b:Nat)(v:List Value)(t:L.get p=some (b,v)):
  Calls prog 180 #[yx u,plV p] w fun r H=>r= .returned (.tuple #[.agg v.toArray,.bool true])∧Below w.heap.size w H:=by
 obtain⟨y,J,K,M,h⟩:=h;have z:L.ks.get p=some b:=by rw [zrt,t];rfl
 have q:=z06 t;have e:=zf (zvh w p);obtain⟨j,i⟩:=h.ring.len _ q;simp only at j i;have c:=zf j;have l:Hid (v.toArray.all (·.oneCell')=true):=ziq i;unfold plV;unfold yx;clear t j i;go_enter func180,ntmps180;go_wp2_with fail;generalize (w.alloc (.cells #[.int .i64 p.1,.int .i64 p.2.1,.int .i64 p.2.2] 150)).alloc (.cells za6 154)=d at *;have a:=fun n=>(h.map.same (w':=d.drewN n) (e.o.below.block y h.map.lt)).look underlying202 zu5 A;rw [z] at a;simp only [zx9,yx,zjw] at a;unfold plV at a;have I:d.cell? ⟨u,1,none⟩=some (.map (some y)):=(zw ((e.o.below.block _ (zi h.mem)).trans h.mem) 1 _ rfl).1;have E:d.cell? ⟨w.heap.size,0,none⟩=some (.int .i64 p.1):=(zw e.o.key 0 _ rfl).1;have F:d.cell? ⟨w.heap.size,1,none⟩=some (.int .i64 p.2.1):=(zw e.o.key 1 _ rfl).1;have G:d.cell? ⟨w.heap.size,2,none⟩=some (.int .i64 p.2.2):=(zw e.o.key 2 _ rfl).1;have k:=zf ((e.o.below.block _ (zi (h.ring.link _ q))).trans (h.ring.link _ q));clear z A h q
 go_quiet (fail)
 have C:Hid ((d.drewN nq).rangeAt b 3 v):=yct k.o;have x:Hid ((d.drewN nq).heap[w.heap.size+1]?=some (.cells noV.toArray 154 (0,0))):=e.o.ans;have B:Hid (Below w.heap.size w (d.drewN nq)):=zhz e.o.below _;clear a I E F G k;generalize d.drewN nq=D at *;have g:Hid ((D.setRow (w.heap.size+1) v.toArray).heap[w.heap.size+1]?=some (.cells v.toArray 154 (0,0))):=za0 _ _ _ _ _ _ x.o;have s:Hid (noV.toArray.size=v.toArray.size):=by show _=_;rw [xf,xf,c.o,zgn]
 have f:Hid ((prog.info? 154).map (·.size)=some v.toArray.size):=by show _=_;rw [zcs,xf,c.o]
 go_wp2_with (first
  | (show wpList _ _ _ ({ dst:=_,op:=Op.load 154 _,type:=_,pos:=_,after:=_,guard:=_ }::_) _ _;first | refine ldF rfl _ rfl b 3 rfl v c.o C.o ?_ | refine ldF rfl _ rfl (w.heap.size+1) 0 rfl v c.o (j6 g.o) ?_)
  | (show wpList _ _ _ ({ dst:=none,op:=Op.store 154 _ _,type:=_,pos:=_,after:=_,guard:=_ }::_) _ _;first | refine xe rfl 154 _ _ rfl (w.heap.size+1) v.toArray rfl rfl 154 _ x.o f.o s.o l.o ?_ | refine xe rfl 154 _ _ rfl (w.heap.size+1) v.toArray rfl rfl 154 _ g.o f.o rfl l.o ?_))
 refine z8 (v:= .tuple #[.agg v.toArray,.bool true]) (qa results180 _ _ (w.heap.size+1) 154 _ (0,0) _ rfl (za0 _ _ _ _ _ _ g.o) underlying154 rfl f.o _ rfl) rfl ⟨rfl,?_⟩;exact za2 (za2 B.o (by omega) _) (by omega) _
theorem LsP.drop_none {L:LsP}{p:Pl}(h:L.get p=none):L.drop p=L:=by
 unfold LsP.drop;rw [za1];intro x a;unfold LsP.get at h;cases e:L.find? (fun x=>decide (x.2.1=p)) with
 | some y=>rw [e] at h;simp at h
 | none=>simpa using vx.1 e x a
theorem LsP.drop_some {L:LsP}{p:Pl}{v:List Value}(f:(L.ks.map (·.1)).Nodup)(h:L.get p=some (b,v)):∃ a c,L=a++(b,p,v)::c∧L.drop p=a++c:=by
 obtain⟨a,c,e⟩:=List.append_of_mem (z06 h);refine⟨a,c,e,?_⟩;rw [e] at f ⊢;unfold LsP.ks at f;rw [zgv,yy,zao] at f;obtain⟨-,d,g⟩:=f;rw [ve,zbj] at d;unfold LsP.drop;rw [zn9,zl1];have j:a.filter (fun y=>!decide (y.2.1=p))=a:=by
  rw [za1];intro y i;simpa using g y.2.1 (yl.2 ⟨y,i,rfl⟩) p (by simp)
 have k:c.filter (fun y=>!decide (y.2.1=p))=c:=by
  rw [za1];intro y i;have:y.2.1≠p:=fun l=>d.1 (yl.2 ⟨y,i,l⟩);simpa using this
 rw [j,k];simp
theorem yhj (L:LsP)(p:Pl):(L.drop p).ks=L.ks.drop p:=by
 unfold LsP.ks LsP.drop Ks.drop;rw [List.filter_map];rfl
theorem zxj {c d:Nat}{q:Pl}{u:List Value}(b:u.length=44){a:Nat→Nat}(h:w.heap[c]?=some (.cells (lkP q u o (a c)) LkP (0,0))):(w.setCell ⟨d,48,none⟩ (.pointer (some ⟨m,0,none⟩))).heap[c]?=some (.cells (lkP q u o (upd a d m c)) LkP (0,0)):=by
 by_cases e:c=d
 ·subst e;rw [zav h,zem];exact congrArg (fun x=>some (Obj.cells x LkP (0,0))) (ycv b)
 ·rw [yh _ _ _ _ e,zb3 _ _ _ _ e];exact h
theorem z88 {c d:Nat}{q:Pl}{u:List Value}(b:u.length=44){n:Nat}{a:Nat→Nat}(h:w.heap[c]?=some (.cells (lkP q u (a c) n) LkP (0,0))):(w.setCell ⟨d,47,none⟩ (.pointer (some ⟨m,0,none⟩))).heap[c]?=some (.cells (lkP q u (upd a d m c) n) LkP (0,0)):=by
 by_cases e:c=d
 ·subst e;rw [zav h,zem];exact congrArg (fun x=>some (Obj.cells x LkP (0,0))) (ycu b)
 ·rw [yh _ _ _ _ e,zb3 _ _ _ _ e];exact h
theorem zl8.strike {p:Pl}{v:List Value}{g i:LsP}{d f:Nat→Nat}(h:zl8 w eb (g++(b,p,v)::i) d f):
  zl8 ((w.setCell ⟨f b,48,none⟩ (.pointer (some ⟨d b,0,none⟩))).setCell ⟨d b,47,none⟩ (.pointer (some ⟨f b,0,none⟩))) eb (g++i) (upd d (f b) (d b)) (upd f (d b) (f b)):=by
 have j:=h.circ;rw [yy,ve] at j;have a:∀ x∈g++i,x∈g++(b,p,v)::i:=fun x c=>by
  rcases yt.1 c with e | e
  ·simp [e]
  ·simp [e]
 refine⟨z88 zgn (zxj zgn h.ends),fun x c=>z88 (h.len x (a x c)).1 (zxj (h.len x (a x c)).1 (h.link x (a x c))),?_,fun x c=>h.len x (a x c)⟩;rw [yy];exact j.strike.1
theorem zl8.same {L:LsP}{b d:Nat→Nat}(h:zl8 w eb L b d)(e:∀(k:Nat) (c:Array Value),w.heap[k]?=some (Obj.cells c LkP (0,0))→w'.heap[k]?=w.heap[k]?):zl8 w' eb L b d :=
 ⟨(e _ _ h.ends).trans h.ends,fun x a=>(e _ _ (h.link x a)).trans (h.link x a),h.circ,h.len⟩
theorem yb1 (O:Nat→Prop)(E:Nat)(y:Int)(L:LsP)(p:Pl)(hp:zip p)(w:World)(h:zjg w O E y L)(b:Nat)(v:List Value)(hg:L.get p=some (b,v)):
  Calls prog 221 #[yx E,plV p] w fun r F=>r= .returned (.tuple #[])∧zq O [LkP] w F∧zjg F O E y (L.drop p):=by
 obtain⟨B,X,f,g,h⟩:=h;have Y:L.ks.get p=some b:=by rw [zrt,hg];rfl
 have hl:=z06 hg;obtain⟨D,-,-,ah,-⟩:=h.map;obtain⟨l1,l2,M,eD⟩:=LsP.drop_some ah hg;have hc:=h.ring.circ;rw [M,yy,ve] at hc;obtain⟨S,np,nn,mp,mn⟩:=hc.strike;simp only at S np nn mp mn
 -- the links around it
 have hP:∃ q u,u.length=44∧w.heap[g b]?=some (.cells (lkP q u (g (g b)) (f (g b))) LkP (0,0)):=by
  rcases mp with e | e
  ·rw [e];exact⟨_,_,zgn,h.ring.ends⟩
  ·obtain⟨x,A,N⟩:=yl.1 e;rw [← N];exact⟨_,_,(h.ring.len x (by rw [M];simp [A])).1,h.ring.link x (by rw [M];simp [A])⟩
 have hN:∃ q u,u.length=44∧w.heap[f b]?=some (.cells (lkP q u (g (f b)) (f (f b))) LkP (0,0)):=by
  rcases mn with e | e
  ·rw [e];exact⟨_,_,zgn,h.ring.ends⟩
  ·obtain⟨x,A,N⟩:=yl.1 e;rw [← N];exact⟨_,_,(h.ring.len x (by rw [M];simp [A])).1,h.ring.link x (by rw [M];simp [A])⟩
 obtain⟨qp,up,R,hP⟩:=hP;obtain⟨qn,un,Q,hN⟩:=hN;have P:=(h.ring.len _ hl).1;obtain⟨m0,-⟩:=zw h.mem 1 _ rfl;obtain⟨l4,-⟩:=zw (h.ring.link _ hl) 47 _ (zy7 P);obtain⟨l5,-⟩:=zw (h.ring.link _ hl) 48 _ (zy6 P);obtain⟨p5,g5⟩:=zw hP 48 _ (zy6 R);obtain⟨n4,g4⟩:=zw hN 47 _ (zy7 Q);have m:=fun n o=>(h.map.same (w':=(w.alloc o).drewN n) (zia w o B h.map.lt)).look underlying202 zu5 hp;rw [Y] at m;simp only [zx9,yx,zjw] at m;have y0:∀ o,(w.alloc o).cell? ⟨E,1,none⟩=some (.map (some B)):=fun o=>by rw [yp _ _ ⟨E,1,none⟩ (zi h.mem)];exact m0
 have l:=zf h;have HL:=zf hl;have HE:=zf (And.intro M eD);have HC:=zf S;have HW:=zf (And.intro hP hN);have am:=zf (And.intro R Q);have HK:=zf Y;have HG:=zf hg;have HP:=zf hp;have HM:=zf (And.intro mp mn);unfold plV at m ⊢;unfold yx;have aa:=zf l4;have ab:=zf l5;have H:=zf (And.intro p5 g5);have G:=zf (And.intro n4 g4);clear m0 l4 l5 p5 g5 n4 g4 Y hl hg hp h M eD S hP hN hc ah mp mn R Q P;go_enter func221,ntmps221;go_wp2_with fail
 go_quiet (fail)
 clear m;have j:Hid (Below w.heap.size w ((w.alloc (.cells #[.int .i64 p.1,.int .i64 p.2.1,.int .i64 p.2.2] 150)).drewN nq)):=zhz (zk w _) _;have K:Hid (((w.alloc (.cells #[.int .i64 p.1,.int .i64 p.2.1,.int .i64 p.2.2] 150)).drewN nq).heap[w.heap.size]?=some (.cells #[.int .i64 p.1,.int .i64 p.2.1,.int .i64 p.2.2] 150 (0,0))):=zg _ _;have hz:w.heap.size < ((w.alloc (.cells #[.int .i64 p.1,.int .i64 p.2.1,.int .i64 p.2.2] 150)).drewN nq).heap.size:=zi K.o;clear y0;generalize (w.alloc (.cells #[.int .i64 p.1,.int .i64 p.2.1,.int .i64 p.2.2] 150)).drewN nq=s at *;have cc:∀ {a:Addr} {x:Value},w.cell? a=some x→s.cell? a=some x:=fun {a x} e=>by rw [j.o.cell (yg e)];exact e
 have q4:s.cell? ⟨b,47,none⟩=some (.pointer (some ⟨g b,0,none⟩)):=cc aa.o;have q5:s.cell? ⟨b,48,none⟩=some (.pointer (some ⟨f b,0,none⟩)):=cc ab.o;have r5:s.cell? ⟨g b,48,none⟩=some (.pointer (some ⟨f (g b),0,none⟩)):=cc H.o.1;have r4:s.cell? ⟨f b,47,none⟩=some (.pointer (some ⟨g (f b),0,none⟩)):=cc G.o.1;have s5:s.frozen? ⟨g b,48,none⟩=false:=by rw [j.o.frozen (p:=⟨g b,48,none⟩) (yg (p:=⟨g b,48,none⟩) H.o.1)];exact H.o.2
 have s4:s.frozen? ⟨f b,47,none⟩=false:=by rw [j.o.frozen (p:=⟨f b,47,none⟩) (yg (p:=⟨f b,47,none⟩) G.o.1)];exact G.o.2
 clear cc;go_wp2_with fail
 go_region_held3 (fun F=>F.cell? ⟨b,47,none⟩=some (.pointer (some ⟨g b,0,none⟩))∧F.cell? ⟨b,48,none⟩=some (.pointer (some ⟨f b,0,none⟩))) (go_keep) (fail)
 rename_i T;clear T
 -- what has come of the ring
 have HT:Hid (zq O [LkP] w ((s.setCell ⟨g b,48,none⟩ (.pointer (some ⟨f b,0,none⟩))).setCell ⟨f b,47,none⟩ (.pointer (some ⟨g b,0,none⟩))).drew∧zl8 ((s.setCell ⟨g b,48,none⟩ (.pointer (some ⟨f b,0,none⟩))).setCell ⟨f b,47,none⟩ (.pointer (some ⟨g b,0,none⟩))).drew X (L.drop p) (upd f (g b) (f b)) (upd g (f b) (g b)) ∧
   ∀ k,k < w.heap.size+1→(∀ c,s.heap[k]?≠some (.cells c LkP (0,0)))→((s.setCell ⟨g b,48,none⟩ (.pointer (some ⟨f b,0,none⟩))).setCell ⟨f b,47,none⟩ (.pointer (some ⟨g b,0,none⟩))).drew.heap[k]?=s.heap[k]?):=by
  have ai:zl8 s X L f g:=l.o.ring.same fun k c e=>j.o.block k (zi e);have af:=(j.o.block _ (zi HW.o.1)).trans HW.o.1;have ae:=(j.o.block _ (zi HW.o.2)).trans HW.o.2;have oP:O (g b):=by
   rcases HM.o.1 with e | e
   ·rw [e];exact l.o.own.2.2.1
   ·obtain⟨x,A,N⟩:=yl.1 e;rw [← N];exact l.o.own.2.2.2 x (by rw [HE.o.1];simp [A])
  have oN:O (f b):=by
   rcases HM.o.2 with e | e
   ·rw [e];exact l.o.own.2.2.1
   ·obtain⟨x,A,N⟩:=yl.1 e;rw [← N];exact l.o.own.2.2.2 x (by rw [HE.o.1];simp [A])
  refine⟨?_,?_,?_⟩
  ·have t1:zq O [LkP] w (s.setCell ⟨g b,48,none⟩ (.pointer (some ⟨f b,0,none⟩))):=(zq.of_below j.o).set (.inl oP) af (by simp) _;exact(t1.set (.inl oN) (zxj am.o.2 ae) (by simp) _).drew
  ·rw [HE.o.2];rw [HE.o.1] at ai;exact ai.strike.same fun k c _=>rfl
  ·intro k _ Y;have e1:k≠f b:=fun e=>Y _ (e▸ae);have e2:k≠g b:=fun e=>Y _ (e▸af);show((s.setCell _ _).setCell _ _).heap[k]?=_;rw [yh _ _ _ _ e1,yh _ _ _ _ e2]
 generalize ((s.setCell ⟨g b,48,none⟩ (.pointer (some ⟨f b,0,none⟩))).setCell ⟨f b,47,none⟩ (.pointer (some ⟨g b,0,none⟩))).drew=W at *;clear q4 q5 r5 r4 s5 s4 H G aa ab HW;have U:s.heap[E]?=some (.cells #[.int .i64 y,.map (some B),yx X] MeP (0,0)):=(j.o.block _ (zi l.o.mem)).trans l.o.mem;have t:W.heap[E]?=some (.cells #[.int .i64 y,.map (some B),yx X] MeP (0,0)):=by
  rw [HT.o.2.2 E (zqd (zi l.o.mem)) (fun c e=>by rw [U] at e;simp only [zr,vw] at e;exact absurd e.2.1 (by decide))];exact U
 have z:W.heap[w.heap.size]?=some (.cells #[.int .i64 p.1,.int .i64 p.2.1,.int .i64 p.2.2] 150 (0,0)):=by
  rw [HT.o.2.2 w.heap.size (Nat.lt_succ_self _) (fun c e=>by rw [K.o] at e;simp only [zr,vw] at e;exact absurd e.2.1 (by decide))];exact K.o
 have i:zb6 W.drew B L.ks:=by
  refine l.o.map.same ?_;show W.heap[B]?=_;obtain⟨es,c,e⟩:=l.o.map.isMap;rw [HT.o.2.2 B (zqd l.o.map.lt) (fun c' J=>by rw [j.o.block _ l.o.map.lt,e] at J;simp at J),j.o.block _ l.o.map.lt]
 obtain⟨w3,aj,C,d⟩:=i.del underlying202 HP.o HK.o 0;unfold plV at aj;obtain⟨a1,-⟩:=zw t 1 _ rfl;obtain⟨b0,-⟩:=zw z 0 _ rfl;obtain⟨b1,-⟩:=zw z 1 _ rfl;obtain⟨b2,-⟩:=zw z 2 _ rfl;have V:w3.heap[E]?=some (.cells #[.int .i64 y,.map (some B),yx X] MeP (0,0)):=(d.block E (zi t) (fun e=>by
  simp only [zr] at e;obtain⟨es,c,J⟩:=i.isMap;rw [← e] at J;have:some (Obj.cells _ _ _)=some (Obj.map es c):=t.symm.trans J;simp at this)).trans t
 have I:w3.heap[w.heap.size]?=some (.cells #[.int .i64 p.1,.int .i64 p.2.1,.int .i64 p.2.2] 150 (0,0)):=(d.block w.heap.size (zi z) (fun e=>by
  simp only [zr] at e;obtain⟨es,c,J⟩:=i.isMap;rw [← e] at J;have:some (Obj.cells _ _ _)=some (Obj.map es c):=z.symm.trans J;simp at this)).trans z
 obtain⟨c1,-⟩:=zw V 1 _ rfl;obtain⟨d0,-⟩:=zw I 0 _ rfl;obtain⟨d1,-⟩:=zw I 1 _ rfl;obtain⟨d2,-⟩:=zw I 2 _ rfl;have al:=zf C;have ad:=zf V;have Z:Hid (W.grownBy w3 (some B)):=⟨d.os,d.tape,d.output,d.size,d.block⟩;have ak:=zf i;clear U t z V I i C d;go_wp2_with fail
 go_region_held3 (fun F=>F.cell? ⟨E,1,none⟩=some (.map (some B))∧F.cell? ⟨w.heap.size,0,none⟩=some (.int .i64 p.1)∧F.cell? ⟨w.heap.size,1,none⟩=some (.int .i64 p.2.1)∧F.cell? ⟨w.heap.size,2,none⟩=some (.int .i64 p.2.2)) (go_keep) (fail)
 go_wp2_with fail
 go_end0
 have ag:∀ x∈L.drop p,x∈L:=fun x A=>(zfd.1 A).1;have t:zb6 W B L.ks:=ak.o.same rfl;refine⟨rfl,HT.o.1.map (.inl l.o.own.2.1) t Z.o,B,X,upd f (g b) (f b),upd g (f b) (g b),⟨l.o.own.1,l.o.own.2.1,l.o.own.2.2.1,fun x A=>l.o.own.2.2.2 x (ag x A)⟩,ad.o,?_,?_,fun x A=>l.o.ok x (ag x A)⟩
 ·exact HT.o.2.1.same fun k c e=>Z.o.block k (zi e) (t.not e)
 ·rw [yhj];exact al.o
theorem ygj (O:Nat→Prop)(b:Nat)(c:Int)(L:LsP)(p:Pl)(g:zip p)(w:World)(h:zjg w O b c L)(e:L.get p=none):
  Calls prog 221 #[yx b,plV p] w fun r j=>r= .returned (.tuple #[])∧Below w.heap.size w j:=by
 obtain⟨d,l,m,q,h⟩:=h;have f:L.ks.get p=none:=by rw [zrt,e];rfl
 obtain⟨i,-⟩:=zw h.mem 1 _ rfl;have a:=fun n o=>(h.map.same (w':=(w.alloc o).drewN n) (zia w o d h.map.lt)).look underlying202 zu5 g;rw [f] at a;simp only [zx9,zoe] at a;have k:b < w.heap.size:=zi h.mem;have s:∀ o,(w.alloc o).cell? ⟨b,1,none⟩=some (.map (some d)):=fun o=>by rw [yp _ _ ⟨b,1,none⟩ k];exact i
 unfold plV at a ⊢;unfold yx;clear i f e g h;go_enter func221,ntmps221;go_wp2_with fail
 go_quiet (fail)
 go_wp2_with fail
 first | go_end0 | refine z8 (zcg rfl _ _ _) rfl ?_
 exact⟨rfl,zhz (zk w _) _⟩
theorem zjg.stay {b:Int}{L:LsP}(h:zjg w O mb b L)(m:zq O1 T w w')(i:∀ k,O k→¬ O1 k)(d:∀ k,O k→O' k):zjg w' O' mb b L:=by
 obtain⟨j,g,n,o,h⟩:=h;have a:∀ k,O k→k < w.heap.size→w'.heap[k]?=w.heap[k]?:=fun k l f=>by
  rcases m.block k f with e | ⟨e,-⟩
  ·exact e
  ·exact absurd e (i k l)
 refine⟨j,g,n,o,⟨d _ h.own.1,d _ h.own.2.1,d _ h.own.2.2.1,fun x c=>d _ (h.own.2.2.2 x c)⟩,(a _ h.own.1 (zi h.mem)).trans h.mem,?_,h.map.same (a _ h.own.2.1 h.map.lt),h.ok⟩;exact⟨(a _ h.own.2.2.1 (zi h.ring.ends)).trans h.ring.ends,fun x c=>(a _ (h.own.2.2.2 x c) (zi (h.ring.link x c))).trans (h.ring.link x c),h.ring.circ,h.ring.len⟩
theorem zjg.below {a:Int}{L:LsP}(h:zjg w O mb a L)(c:Below w.heap.size w w')(b:∀ k,O k→O' k):zjg w' O' mb a L :=
 h.stay (O1:=fun _=>False) (T:=[]) (.of_below c) (fun _ _ h=>h) b
theorem zyv (O:Nat→Prop)(b:Nat)(a:Int)(L:LsP)(p:Pl)(f:zip p)(w:World)(h:zjg w O b a L):
  Calls prog 221 #[yx b,plV p] w fun r d=>r= .returned (.tuple #[])∧zq O [LkP] w d∧zjg d O b a (L.drop p):=by
 cases c:L.get p with
 | some x=>exact yb1 O b a L p f w h x.1 x.2 c
 | none =>
  refine(ygj O b a L p f w h c).mono ?_;rintro r d ⟨rfl,e⟩;rw [LsP.drop_none c];exact⟨rfl,.of_below e,h.below e (fun _ h=>h)⟩
variable {a:World}{nb:Nat}{v:Value}
theorem zq.undrewK {n:Nat}(h:zq O T (a.drewN n) w):zq O T a w:=⟨h.os,h.tape,h.output,h.size,h.block⟩
def ydu (a:Int)(L:LsN):LsN:=if a < (L.length:Int) then L.tail else L
theorem z7h (L:LsN)(b:Nat)(p:Pl)(v:Value):LsN.ks (L++[(b,p,v)])=L.ks++[(p,b)]:=by simp [LsN.ks]
theorem z04 (L:LsN)(p:Pl):(L.drop p).get p=none:=by
 unfold LsN.get LsN.drop;have:(L.filter fun x=>!decide (x.2.1=p)).find? (fun x=>decide (x.2.1=p))=none:=by
  rw [vx];intro x a;have:=(zfd.1 a).2;simpa using this
 rw [this]
theorem zl7.add {p:Pl}{L:LsN}{j b:Nat→Nat}(h:zl7 w eb L j b)(m:w.heap[nb]?=some (.cells (lkN p v (b eb) eb) LkN (0,0)))(a:nb∉eb::L.map (·.1)):
  zl7 ((w.setCell ⟨b eb,5,none⟩ (.pointer (some ⟨nb,0,none⟩))).setCell ⟨eb,4,none⟩ (.pointer (some ⟨nb,0,none⟩))) eb (L++[(nb,p,v)]) (upd (upd j (b eb) nb) nb eb) (upd (upd b eb nb) nb (b eb)):=by
 have l:=h.circ;have k:nb≠b eb:=fun e=>a (e▸l.pv_mem);have g:nb≠eb:=fun e=>a (by simp [e]);have i:∀ {c:Nat} {q:Pl} {u:Value},c≠nb→w.heap[c]?=some (.cells (lkN q u (b c) (j c)) LkN (0,0))→((w.setCell ⟨b eb,5,none⟩ (.pointer (some ⟨nb,0,none⟩))).setCell ⟨eb,4,none⟩ (.pointer (some ⟨nb,0,none⟩))).heap[c]?=some (.cells (lkN q u (upd (upd b eb nb) nb (b eb) c) (upd (upd j (b eb) nb) nb eb c)) LkN (0,0)):=by
  intro c q u f e;rw [zb3 _ nb _ c f,zb3 _ nb _ c f];exact yjo (z5h e)
 refine⟨i g.symm h.ends,fun x d=>?_,?_⟩
 ·rcases yt.1 d with d | d
  ·exact i (fun e=>a (by rw [← e];exact zc0 _ (yl.2 ⟨x,d,rfl⟩))) (h.link x d)
  ·obtain rfl:x=(nb,p,v):=by simpa using d
   simp only;rw [zem,zem,yh _ _ _ _ g,yh _ _ _ _ k];exact m
 ·rw [yy];exact l.add a
theorem yi3 (O:Nat→Prop)(E:Nat)(g:Int)(L:LsN)(p:Pl)(hp:zip p)(a:Option Addr)(w:World)(h:zen w O E g L)(hn:L.length≤1000000000000):
  Calls prog 183 #[yx E,plV p,.pointer a] w fun r G=>r= .returned (.tuple #[])∧zq O [LkN] w G∧∃ f,w.heap.size≤f∧f < G.heap.size∧zen G (jz O w G) E g (ydu g (L.drop p++[(f,p,.pointer a)])):=by
 have HD:=zf (zyu O E g L p hp (w.alloc (.cells #[.int .i64 p.1,.int .i64 p.2.1,.int .i64 p.2.2] 150)) (h.below (zk w _) (fun _ h=>h)));have HP:=zf hp;have HN:Hid ((L.drop p).length≤1000000000000):=zu (zcp _ _) hn;have ao:=zf (z04 L p);clear h hp hn;generalize L.drop p=T at *;unfold plV yx at *;go_enter func183,ntmps183;go_wp2_with fail;refine HD.o.mono ?_;rintro r F ⟨rfl,aj,aC⟩;have R:F.heap[w.heap.size]?=some (.cells #[.int .i64 p.1,.int .i64 p.2.1,.int .i64 p.2.2] 150 (0,0)):=aj.keep (zg w _) (by decide);have ai:Hid (zq O [LkN] w F):=(zq.of_below (zk w _)).trans (aj.mono (fun k hk=> .inl hk) (fun _ h=>h));obtain⟨K,b,nx,j,M⟩:=aC;have HM:=zf M;have e2:F.cell? ⟨E,2,none⟩=some (.pointer (some ⟨b,0,none⟩)):=(zw M.mem 2 _ rfl).1;have e4:F.cell? ⟨b,4,none⟩=some (.pointer (some ⟨j b,0,none⟩)):=(zw M.ring.ends 4 _ rfl).1;have k0:F.cell? ⟨w.heap.size,0,none⟩=some (.int .i64 p.1):=(zw R 0 _ rfl).1;have k1:F.cell? ⟨w.heap.size,1,none⟩=some (.int .i64 p.2.1):=(zw R 1 _ rfl).1;have k2:F.cell? ⟨w.heap.size,2,none⟩=some (.int .i64 p.2.2):=(zw R 2 _ rfl).1;have ad:=zf R;have z0:¬ E=F.heap.size:=by have:=zi M.mem;omega
 have z1:¬ b=F.heap.size:=by have:=zi M.ring.ends;omega
 have z2:¬ w.heap.size=F.heap.size:=by have:=zi R;omega
 clear HD M R aj;go_wp2_with fail
 go_region_held3 (fun G=>G.cell? ⟨E,2,none⟩=some (.pointer (some ⟨b,0,none⟩))∧G.cell? ⟨b,4,none⟩=some (.pointer (some ⟨j b,0,none⟩))∧G.cell? ⟨w.heap.size,0,none⟩=some (.int .i64 p.1)∧G.cell? ⟨w.heap.size,1,none⟩=some (.int .i64 p.2.1)∧G.cell? ⟨w.heap.size,2,none⟩=some (.int .i64 p.2.2)) (go_keep) (fail)
 rename_i v;clear v z0 z1 z2 e2 e4 k0 k1 k2;have N:Hid (Below F.heap.size F (F.alloc (.cells #[.int .i64 p.1,.int .i64 p.2.1,.int .i64 p.2.2,.pointer a,.pointer (some ⟨j b,0,none⟩),.pointer (some ⟨b,0,none⟩)] LkN)).drew):=(zk _ _).drew;have S:Hid ((F.alloc (.cells #[.int .i64 p.1,.int .i64 p.2.1,.int .i64 p.2.2,.pointer a,.pointer (some ⟨j b,0,none⟩),.pointer (some ⟨b,0,none⟩)] LkN)).drew.heap[F.heap.size]?=some (.cells (lkN p (.pointer a) (j b) b) LkN (0,0))):=zg _ _;generalize (F.alloc (.cells #[.int .i64 p.1,.int .i64 p.2.1,.int .i64 p.2.2,.pointer a,.pointer (some ⟨j b,0,none⟩),.pointer (some ⟨b,0,none⟩)] LkN)).drew=B at *;have af:Hid (w.heap.size≤F.heap.size):=ai.o.size;have d:Hid (zqp B O E K b nx j g T):=by
  have M:=HM.o;refine⟨M.own,(N.o.block _ (zi M.mem)).trans M.mem,M.ring.same fun k c e=>N.o.block k (zi e),M.map.same (N.o.block _ M.map.lt),M.ok⟩
 have aq:Hid (zq O [LkN] w B):=ai.o.then_below N.o;have ae:Hid (B.heap[w.heap.size]?=some (.cells #[.int .i64 p.1,.int .i64 p.2.1,.int .i64 p.2.2] 150 (0,0))):=(N.o.block _ (zi ad.o)).trans ad.o;have Y:Hid (F.heap.size∉b::T.map (·.1)):=by
  intro s;rcases jr.1 s with e | e
  ·have:=zi HM.o.ring.ends;omega
  ·obtain⟨x,s,ex⟩:=yl.1 e;have:=zi (HM.o.ring.link x s);omega
 clear ai HM ad N;generalize F.heap.size=f at *;have Q:∃ q u,B.heap[j b]?=some (.cells (lkN q u (j (j b)) (nx (j b))) LkN (0,0)):=by
  rcases jr.1 d.o.ring.circ.pv_mem with e | e
  ·rw [e];exact⟨_,_,d.o.ring.ends⟩
  ·obtain⟨x,s,ex⟩:=yl.1 e;rw [← ex];exact⟨_,_,d.o.ring.link x s⟩
 obtain⟨q,u,Q⟩:=Q;have oP:Hid (O (j b)):=by
  rcases jr.1 d.o.ring.circ.pv_mem with e | e
  ·rw [e];exact d.o.own.2.2.1
  ·obtain⟨x,s,ex⟩:=yl.1 e;rw [← ex];exact d.o.own.2.2.2 x s
 have n4:B.cell? ⟨f,4,none⟩=some (.pointer (some ⟨j b,0,none⟩)):=(zw S.o 4 _ rfl).1;have n5:B.cell? ⟨f,5,none⟩=some (.pointer (some ⟨b,0,none⟩)):=(zw S.o 5 _ rfl).1;have p5:B.cell? ⟨j b,5,none⟩=some (.pointer (some ⟨nx (j b),0,none⟩)):=(zw Q 5 _ rfl).1;have g5:B.frozen? ⟨j b,5,none⟩=false:=(zw Q 5 _ rfl).2;have e4:B.cell? ⟨b,4,none⟩=some (.pointer (some ⟨j b,0,none⟩)):=(zw d.o.ring.ends 4 _ rfl).1;have g4:B.frozen? ⟨b,4,none⟩=false:=(zw d.o.ring.ends 4 _ rfl).2;have z0:¬ j b=f:=fun e=>Y.o (e▸d.o.ring.circ.pv_mem);have z1:¬ b=f:=fun e=>Y.o (by simp [e]);have ah:=zf Q;clear Q;go_wp2_with fail
 go_region_held3 (fun G=>G.cell? ⟨f,4,none⟩=some (.pointer (some ⟨j b,0,none⟩))∧G.cell? ⟨f,5,none⟩=some (.pointer (some ⟨b,0,none⟩))) (go_keep) (fail)
 rename_i v;clear v
 have HR:Hid (zq O [LkN] w ((B.setCell ⟨j b,5,none⟩ (.pointer (some ⟨f,0,none⟩))).setCell ⟨b,4,none⟩ (.pointer (some ⟨f,0,none⟩))).drew∧zl7 ((B.setCell ⟨j b,5,none⟩ (.pointer (some ⟨f,0,none⟩))).setCell ⟨b,4,none⟩ (.pointer (some ⟨f,0,none⟩))).drew b (T++[(f,p,.pointer a)]) (upd (upd nx (j b) f) f b) (upd (upd j b f) f (j b)) ∧
   (f < ((B.setCell ⟨j b,5,none⟩ (.pointer (some ⟨f,0,none⟩))).setCell ⟨b,4,none⟩ (.pointer (some ⟨f,0,none⟩))).drew.heap.size) ∧
   ∀(k:Nat),(∀ c:Array Value,B.heap[k]?≠some (Obj.cells c LkN (0,0)))→((B.setCell ⟨j b,5,none⟩ (.pointer (some ⟨f,0,none⟩))).setCell ⟨b,4,none⟩ (.pointer (some ⟨f,0,none⟩))).drew.heap[k]?=B.heap[k]?):=by
  refine⟨?_,(d.o.ring.add S.o Y.o).same fun k c _=>rfl,?_,?_⟩
  ·have t1:zq O [LkN] w (B.setCell ⟨j b,5,none⟩ (.pointer (some ⟨f,0,none⟩))):=aq.o.set (.inl oP.out) ah.o (by simp) _;exact(t1.set (.inl d.o.own.2.2.1) (z5h d.o.ring.ends) (by simp) _).drew
  ·have:=zi S.o;simpa [World.setCell,World.drew] using this
  ·intro k hk;have e1:k≠b:=fun e=>hk _ (e▸d.o.ring.ends);have e2:k≠j b:=fun e=>hk _ (e▸ah.o);show((B.setCell _ _).setCell _ _).heap[k]?=_;rw [yh _ _ _ _ e1,yh _ _ _ _ e2]
 generalize ((B.setCell ⟨j b,5,none⟩ (.pointer (some ⟨f,0,none⟩))).setCell ⟨b,4,none⟩ (.pointer (some ⟨f,0,none⟩))).drew=X at *;clear n4 n5 p5 g5 e4 g4 z0 z1 ah oP;have z:X.heap[E]?=some (.cells #[.int .i64 g,.map (some K),yx b] MeN (0,0)):=by
  rw [HR.o.2.2.2 E (fun c e=>by rw [d.o.mem] at e;simp only [zr,vw] at e;exact absurd e.2.1 (by decide))];exact d.o.mem
 have l:X.heap[w.heap.size]?=some (.cells #[.int .i64 p.1,.int .i64 p.2.1,.int .i64 p.2.2] 150 (0,0)):=by
  rw [HR.o.2.2.2 w.heap.size (fun c e=>by rw [ae.o] at e;simp only [zr,vw] at e;exact absurd e.2.1 (by decide))];exact ae.o
 have I:zb6 X.drew K T.ks:=by
  refine d.o.map.same ?_;show X.heap[K]?=_;refine HR.o.2.2.2 K (fun c e=>d.o.map.not e rfl)
 have av:T.ks.get p=none:=by rw [zrs,ao.o];rfl
 obtain⟨A,ab,V,m⟩:=I.put underlying208 HP.o (by have:=HN.o;unfold maxLen;simp [LsN.ks];omega) av f;unfold plV yx at ab;have H:X.grownBy A (some K):=⟨m.os,m.tape,m.output,m.size,m.block⟩;have U:zb6 X K T.ks:=I.same rfl;have J:=(H.block E (zi z) (U.not z)).trans z;have C:=(H.block w.heap.size (zi l) (U.not l)).trans l;have a1:X.cell? ⟨E,1,none⟩=some (.map (some K)):=(zw z 1 _ rfl).1;have b0:X.cell? ⟨w.heap.size,0,none⟩=some (.int .i64 p.1):=(zw l 0 _ rfl).1;have b1:X.cell? ⟨w.heap.size,1,none⟩=some (.int .i64 p.2.1):=(zw l 1 _ rfl).1;have b2:X.cell? ⟨w.heap.size,2,none⟩=some (.int .i64 p.2.2):=(zw l 2 _ rfl).1;have c1:A.cell? ⟨E,1,none⟩=some (.map (some K)):=(zw J 1 _ rfl).1;have d0:A.cell? ⟨w.heap.size,0,none⟩=some (.int .i64 p.1):=(zw C 0 _ rfl).1;have d1:A.cell? ⟨w.heap.size,1,none⟩=some (.int .i64 p.2.1):=(zw C 1 _ rfl).1;have d2:A.cell? ⟨w.heap.size,2,none⟩=some (.int .i64 p.2.2):=(zw C 2 _ rfl).1;have i:Hid (zqp A (jz O w A) E K b (upd (upd nx (j b) f) f b) (upd (upd j b f) f (j b)) g (T++[(f,p,.pointer a)])):=by
  refine⟨⟨.inl d.o.own.1,.inl d.o.own.2.1,.inl d.o.own.2.2.1,fun x s=>?_⟩,J,HR.o.2.1.same fun k c e=>H.block k (zi e) (U.not e),by rw [z7h];exact V,fun x s=>?_⟩
  ·rcases yt.1 s with s | s
   ·exact .inl (d.o.own.2.2.2 x s)
   ·obtain rfl:x=(f,p,.pointer a):=by simpa using s
    exact .inr ⟨af.o,zx HR.o.2.2.1 H.size⟩
  ·rcases yt.1 s with s | s
   ·exact d.o.ok x s
   ·obtain rfl:x=(f,p,.pointer a):=by simpa using s
    exact⟨HP.o,a,rfl⟩
 have ar:Hid (zq O [LkN] w A):=HR.o.1.map (.inl d.o.own.2.1) U H;have ap:Hid (f < A.heap.size):=zx HR.o.2.2.1 H.size;clear z l I av V m H U J C d aq ae Y S HR;go_wp2_with fail
 go_region_held3 (fun G=>G.cell? ⟨E,1,none⟩=some (.map (some K))∧G.cell? ⟨w.heap.size,0,none⟩=some (.int .i64 p.1)∧G.cell? ⟨w.heap.size,1,none⟩=some (.int .i64 p.2.1)∧G.cell? ⟨w.heap.size,2,none⟩=some (.int .i64 p.2.2)) (go_keep) (fail)
 rename_i v;clear v ab a1 b0 b1 b2 d0 d1 d2 ao;generalize upd (upd nx (j b) f) f b=al at *;generalize upd (upd j b f) f (j b)=aw at *;have aG:Hid ((T++[(f,p,Value.pointer a)]).length=T.length+1):=by show _=_;simp
 have ay:Hid (T++[(f,p,Value.pointer a)]≠[]):=by show _≠_;simp
 generalize au:T++[(f,p,Value.pointer a)]=P at *;have an:=zf au;clear au;have aD:∀ n ty,(Builtin.len_ #[208] ty #[.map (some K)]).run prog (A.drewN n)= .ok (.int .i64 (P.length:Int)) (A.drewN n):=fun n ty=>by
  have:=(i.o.map.same (w':=A.drewN n) rfl).len underlying208 ty;rw [this];simp [LsN.ks]
 have r0:A.cell? ⟨E,0,none⟩=some (.int .i64 g):=(zw i.o.mem 0 _ rfl).1;have aF:=zf HN.o
 by_cases hc:g < (P.length:Int)
 ·have ag:Hid (ydu g P=P.tail):=if_pos hc;have r2:A.cell? ⟨E,2,none⟩=some (.pointer (some ⟨b,0,none⟩)):=(zw i.o.mem 2 _ rfl).1;obtain⟨x,L5,eL⟩:∃ x r,P=x::r:=by
   cases h:P with
   | nil=>exact absurd h ay.o
   | cons x r=>exact⟨x,r,rfl⟩
  have aE:=zf eL;have aa:al b=x.1:=by
   have:=i.o.ring.circ;rw [eL,ve] at this;exact this.first.1
  have s:=i.o.ring.link x (by rw [eL];simp);have r5:A.cell? ⟨b,5,none⟩=some (.pointer (some ⟨x.1,0,none⟩)):=by
   have:=(zw i.o.ring.ends 5 _ rfl).1;rw [aa] at this;exact this
  have x0:A.cell? ⟨x.1,0,none⟩=some (.int .i64 x.2.1.1):=(zw s 0 _ rfl).1;have x1:A.cell? ⟨x.1,1,none⟩=some (.int .i64 x.2.1.2.1):=(zw s 1 _ rfl).1;have x2:A.cell? ⟨x.1,2,none⟩=some (.int .i64 x.2.1.2.2):=(zw s 2 _ rfl).1;have aB:=zf (i.o.ok x (by rw [eL];simp)).1;have aA:Hid (P.drop x.2.1=P.tail):=by
   show _=_;obtain⟨D,-,-,Z,-⟩:=i.o.map;rw [eL] at Z ⊢;unfold LsN.ks at Z;rw [zgv,ve,zbj] at Z;unfold LsN.drop;rw [zl1];simp only [decide_true,Bool.not_true,zas,zd3,List.tail_cons];rw [za1];intro y hy;have:y.2.1≠x.2.1:=fun e=>Z.1 (yl.2 ⟨y,hy,e⟩);simpa using this
  clear eL aa s;have am:=zf (fun n=>zyu (jz O w A) E g P x.2.1 aB.o (A.drewN n) ⟨K,b,al,aw,⟨i.o.own,i.o.mem,i.o.ring.same fun _ _ _=>rfl,i.o.map.same rfl,i.o.ok⟩⟩);unfold plV yx at am;obtain⟨xb,⟨xl,xi,xw⟩,xv⟩:=x;go_wp2_with fail
  go_quiet (fail)
  go_wp2_with fail;refine(am.o _).mono ?_;rintro r w5 ⟨rfl,ak,t⟩;rw [aA.o] at t;have az:Hid (zq O [LkN] w w5):=ar.o.trans (ak.mono (fun _ h=>h) (fun _ h=>h)).undrewK;have W:A.heap.size≤w5.heap.size:=ak.size;obtain⟨h5,e5,n5,p5,t⟩:=t;have ax:Hid (zen w5 (jz O w w5) E g P.tail):=⟨h5,e5,n5,p5,⟨⟨jz.more W _ t.own.1,jz.more W _ t.own.2.1,jz.more W _ t.own.2.2.1,fun x s=>jz.more W _ (t.own.2.2.2 x s)⟩,t.mem,t.ring,t.map,t.ok⟩⟩;clear ak t;go_wp2_with fail
  go_end0
  exact⟨rfl,az.o,f,af.o,zx ap.o W,by rw [an.o,ag.o];exact ax.o⟩
 ·have ag:Hid (ydu g P=P):=if_neg hc;have aH:(P.length:Int)≤g:=by omega
  go_wp2_with fail
  go_quiet (fail)
  go_wp2_with fail
  go_end0
  exact⟨rfl,ar.o.drewN _,f,af.o,ap.o,by rw [an.o,ag.o];exact⟨K,b,al,aw,⟨i.o.own,i.o.mem,i.o.ring.same fun _ _ _=>rfl,i.o.map.same rfl,i.o.ok⟩⟩⟩
end Go.Proofs.YtlcllcgngjhoaaaGreatDoor
