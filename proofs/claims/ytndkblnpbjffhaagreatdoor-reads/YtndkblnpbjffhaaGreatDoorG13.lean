import Derived.Test.YtndkblnpbjffhaaGreatDoorG12
set_option maxHeartbeats 8000000
set_option maxRecDepth 100000
open Go.RowKit
namespace Go.Proofs.YtndkblnpbjffhaaGreatDoor
abbrev LkP:Nat:=164
abbrev MeP:Nat:=166
def lkP (p:Pl)(v:List Value)(o n:Nat):Array Value:=(.int .i64 p.1:: .int .i64 p.2.1:: .int .i64 p.2.2::(v++[zo o,zo n])).toArray
def z6y:List Value:=[.bool false,.bool false,.int .u8 0,.int .u8 0,.int .u8 0,.int .u8 0,.int .u8 0,.int .u8 0,.int .u8 0,.int .u8 0,.slice none 0 0]
def noV:List Value:=z6y++(z6y++(z6y++z6y))
abbrev qt:Array Value:=#[.bool false,.bool false,.int .u8 0,.int .u8 0,.int .u8 0,.int .u8 0,.int .u8 0,.int .u8 0,.int .u8 0,.int .u8 0,.slice none 0 0,.bool false,.bool false,.int .u8 0,.int .u8 0,.int .u8 0,.int .u8 0,.int .u8 0,.int .u8 0,.int .u8 0,.int .u8 0,.slice none 0 0,.bool false,.bool false,.int .u8 0,.int .u8 0,.int .u8 0,.int .u8 0,.int .u8 0,.int .u8 0,.int .u8 0,.int .u8 0,.slice none 0 0,.bool false,.bool false,.int .u8 0,.int .u8 0,.int .u8 0,.int .u8 0,.int .u8 0,.int .u8 0,.int .u8 0,.int .u8 0,.slice none 0 0]
theorem zbf:noV.length=44:=rfl
theorem zpz {p:Pl}{v:List Value}{o n:Nat}(h:v.length=44):(lkP p v o n)[47]?=some (zo o):=by
 simp [lkP,h]
theorem zpb {p:Pl}{v:List Value}{o n:Nat}(h:v.length=44):(lkP p v o n)[48]?=some (zo n):=by
 simp [lkP,h]
theorem z1e {p:Pl}{v:List Value}{o n m:Nat}(h:v.length=44):(lkP p v o n).setIfInBounds 47 (zo m)=lkP p v m n:=by
 simp [lkP,h]
theorem z0j {p:Pl}{v:List Value}{o n m:Nat}(h:v.length=44):(lkP p v o n).setIfInBounds 48 (zo m)=lkP p v o m:=by
 simp [lkP,h]
abbrev LsP:=List (Nat×Pl×List Value)
def LsP.ks (L:LsP):Ks:=L.map fun x=>(x.2.1,x.1)
def LsP.drop (L:LsP)(p:Pl):LsP:=L.filter fun x=>!decide (x.2.1=p)
structure zfo (w:World)(eb:Nat)(L:LsP)(nx pv:Nat→Nat):Prop where
 ends:w.heap[eb]?=some (.cells (lkP (0,0,0) noV (pv eb) (nx eb)) LkP (0,0))
 link:∀ x∈L,w.heap[x.1]?=some (.cells (lkP x.2.1 x.2.2 (pv x.1) (nx x.1)) LkP (0,0))
 circ:zio eb (L.map (·.1)) nx pv
 len:∀ x∈L,x.2.2.length=44∧∀ v∈x.2.2,v.oneCell'=true
structure zbu (w:World)(O:Nat→Prop)(mb hb eb:Nat)(nx pv:Nat→Nat)(room:Int)(L:LsP):Prop where
 own:O mb∧O hb∧O eb∧∀ x∈L,O x.1
 mem:w.heap[mb]?=some (.cells #[.int .i64 room,.map (some hb),zo eb] MeP (0,0))
 ring:zfo w eb L nx pv
 map:jq w hb L.ks
 ok:∀ x∈L,zct x.2.1
def zdh (w:World)(O:Nat→Prop)(A:Nat)(room:Int)(L:LsP):Prop:=∃ r h nx pv,zbu w O A r h nx pv room L
def LsP.get (L:LsP)(p:Pl):Option (Nat×List Value):=match L.find? (fun x=>decide (x.2.1=p)) with
 | some x=>some (x.1,x.2.2)
 | none=>none
theorem zi6 (L:LsP)(p:Pl):L.ks.get p=(L.get p).map (·.1):=by
 unfold LsP.ks Ks.get LsP.get;rw [List.find?_map];have:((fun x:Pl×Nat=>decide (x.1=p))∘fun x:Nat×Pl×List Value=>(x.2.1,x.1))=fun x=>decide (x.2.1=p):=rfl;rw [this];cases L.find? (fun x=>decide (x.2.1=p))<;>rfl
theorem zqj {L:LsP}{p:Pl}{b:Nat}{v:List Value}(h:L.get p=some (b,v)):(b,p,v)∈L:=by
 unfold LsP.get at h;cases e:L.find? (fun x=>decide (x.2.1=p)) with
 | none=>rw [e] at h;simp at h
 | some x =>
  rw [e] at h;simp only [Option.some.injEq,Prod.mk.injEq] at h;have h1:=List.find?_some e;have h2:=List.mem_of_find?_eq_some e;simp only [decide_eq_true_eq] at h1;obtain⟨a,r,c⟩:=x;simp only at h h1;obtain⟨rfl,rfl⟩:=h;subst h1;exact h2
theorem zlz (w:World):(zeroValue 162).run Tryz.prog w= .ok (.pointer none) w:=by kernel_rfl
theorem z2j {p:Pl}{v:List Value}{o n:Nat}{w:World}{b:Nat}(h:w.heap[b]?=some (.cells (lkP p v o n) LkP (0,0))):w.rangeAt b 3 v:=by
 intro j x r;rw [cell_of_row _ _ _ _ _ _ h];have A:j < v.length:=(List.getElem?_eq_some_iff.1 r).1;unfold lkP;rw [show 3+j=j+1+1+1 by omega];simp only [List.getElem?_toArray,List.getElem?_cons_succ,List.getElem?_append_left A];exact r
theorem jt:(Tryz.prog.info? 104).map (·.size)=some 44:=by kernel_rfl
theorem zv {P:Program}{A:Func}{p u:Tmp}{r:TypeId}(h:A.results=#[.cell p r,.tmp u])(tmps:Array Value)(w:World)(g:Nat)(t:TypeId)(cs:Array Value)(D:Nat×Nat)(d:TypeDesc)
  (E:tmps.getD p undef= .pointer (some ⟨g,0,none⟩)) (J:w.heap[g]?=some (.cells cs t D))
  (hu:P.underlying r=some d) (I:(match d with | .struct _ | .array _ _=>true | _=>false)=true) (K:(P.info? r).map (·.size)=some cs.size) (x:Value) (H:tmps.getD u undef=x) :
  (results A tmps).run P w= .ok (.tuple #[.agg cs,x]) w:=by
 have L:=run_loadVar_row (P:=P) w g t r cs D d J hu I K;simp only [Array.getD_eq_getD_getElem?] at E H;simp [results,h,E,H,asAddr,L]
theorem ldF {r:Array Oper}{rest:List Oper}{op:Oper}{a:Act}{w:World}{Q:Exit→Act→World→Prop}(A:op.guard=none)(x:Operand)(H:op.op= .load 104 x)
  (b o:Nat) (I:a.eval x= .pointer (some ⟨b,o,none⟩)) (cs:List Value) (E:cs.length=44) (D:w.rangeAt b o cs) (h:wpList Tryz.prog r Q rest (a.put op.dst (.agg cs.toArray)) w):wpList Tryz.prog r Q (op::rest) a w :=
 wpList_load_mid A _ x H b o I cs _ D Tryz.underlying104 rfl (by rw [jt,E]) h
theorem y9 {w:World}{b:Nat}{cs:List Value}{t:TypeId}{r:Nat×Nat}(h:w.heap[b]?=some (.cells cs.toArray t r)):w.rangeAt b 0 cs:=by
 intro j x A;rw [cell_of_row _ _ _ _ _ _ h];simpa using A
structure yar (w W0:World)(p:Pl):Prop where
 below:Below w.heap.size w W0
 key:W0.heap[w.heap.size]?=some (.cells #[.int .i64 p.1,.int .i64 p.2.1,.int .i64 p.2.2] 99 (0,0))
 ans:W0.heap[w.heap.size+1]?=some (.cells noV.toArray 104 (0,0))
theorem zmz (w:World)(p:Pl):yar w ((w.alloc (.cells #[.int .i64 p.1,.int .i64 p.2.1,.int .i64 p.2.2] 99)).alloc (.cells qt 104)) p:=by
 refine⟨zz _ _ _,zc (heap_alloc_last _ _),?_⟩;have:=heap_alloc_last (w.alloc (.cells #[.int .i64 p.1,.int .i64 p.2.1,.int .i64 p.2.2] 99)) (.cells qt 104);rw [show(w.alloc (.cells #[.int .i64 p.1,.int .i64 p.2.1,.int .i64 p.2.2] 99)).heap.size=w.heap.size+1 by simp] at this;exact this
theorem z8e:noV.toArray.all (·.oneCell') =true:=by simp [noV,z6y,Value.oneCell']
theorem z60 (O:Nat→Prop)(H:Nat)(room:Int)(L:LsP)(p:Pl)(R:zct p)(w:World)(h:zdh w O H room L)(K:L.get p=none):
  Calls Tryz.prog 196 #[zo H,plV p] w fun r w'=>r= .returned (.tuple #[.agg noV.toArray,.bool false])∧Below w.heap.size w w':=by
 obtain⟨J,eb,nx,pv,h⟩:=h;have Q:L.ks.get p=none:=by rw [zi6,K];rfl
 have E:=za (zmz w p);unfold plV;unfold zo;clear K;go_enter Tryz.func196,Tryz.ntmps196;go_wp2_with fail;generalize (w.alloc (.cells #[.int .i64 p.1,.int .i64 p.2.1,.int .i64 p.2.2] 99)).alloc (.cells qt 104)=A at *
 have D:=fun n=>(h.map.same (w':=A.drewN n) (E.o.below.block J h.map.lt)).look Tryz.underlying161 zlz R;rw [Q] at D;simp only [zom,Option.isSome_none] at D;unfold plV at D;have Y:A.cell? ⟨H,1,none⟩=some (.map (some J)):=(zf ((E.o.below.block _ (zb h.mem)).trans h.mem) 1 _ rfl).1;have V:A.cell? ⟨w.heap.size,0,none⟩=some (.int .i64 p.1):=(zf E.o.key 0 _ rfl).1;have W:A.cell? ⟨w.heap.size,1,none⟩=some (.int .i64 p.2.1):=(zf E.o.key 1 _ rfl).1;have X:A.cell? ⟨w.heap.size,2,none⟩=some (.int .i64 p.2.2):=(zf E.o.key 2 _ rfl).1;clear Q R h;go_quiet (fail);have U:Hid ((A.drewN nq).rangeAt (w.heap.size+1) 0 noV):=y9 E.o.ans;have I:Hid ((A.drewN nq).heap[w.heap.size+1]?=some (.cells noV.toArray 104 (0,0))):=E.o.ans;have S:Hid (Below w.heap.size w (A.drewN nq)):=below_drewN E.o.below _;clear D Y V W X;generalize A.drewN nq=Z at *
 go_wp2_with (first
  | (show wpList _ _ _ ({ dst:=_,op:=Op.load 104 _,type:=_,pos:=_,after:=_,guard:=_ }::_) _ _;refine ldF rfl _ rfl _ _ rfl noV zbf U.o ?_)
  | (show wpList _ _ _ ({ dst:=none,op:=Op.store 104 _ _,type:=_,pos:=_,after:=_,guard:=_ }::_) _ _;refine wpList_store_row rfl 104 _ _ rfl (w.heap.size+1) noV.toArray rfl rfl 104 _ I.o jt rfl z8e ?_))
 refine bodyPost_ret (v:= .tuple #[.agg noV.toArray,.bool false]) (zv Tryz.results196 _ _ (w.heap.size+1) 104 noV.toArray (0,0) _ rfl (setRow_heap _ _ _ _ _ _ I.o) Tryz.underlying104 rfl jt _ rfl) rfl ⟨rfl,?_⟩;exact below_setRow S.o (by omega) _
theorem z5o (O:Nat→Prop)(X:Nat)(room:Int)(L:LsP)(p:Pl)(hp:zct p)(w:World)(h:zdh w O X room L)(b:Nat)(v:List Value)(W:L.get p=some (b,v)):
  Calls Tryz.prog 196 #[zo X,plV p] w fun r w'=>r= .returned (.tuple #[.agg v.toArray,.bool true])∧Below w.heap.size w w':=by
 obtain⟨Z,eb,nx,pv,h⟩:=h;have hk:L.ks.get p=some b:=by rw [zi6,W];rfl
 have U:=zqj W;have H:=za (zmz w p);obtain⟨Q,K⟩:=h.ring.len _ U;simp only at Q K;have A:=za Q;have S:Hid (v.toArray.all (·.oneCell')=true):=all_oneCell_toArray K;unfold plV;unfold zo;clear W Q K;go_enter Tryz.func196,Tryz.ntmps196;go_wp2_with fail;generalize (w.alloc (.cells #[.int .i64 p.1,.int .i64 p.2.1,.int .i64 p.2.2] 99)).alloc (.cells qt 104)=D at *
 have E:=fun n=>(h.map.same (w':=D.drewN n) (H.o.below.block Z h.map.lt)).look Tryz.underlying161 zlz hp;rw [hk] at E;simp only [zom,zo,Option.isSome_some] at E;unfold plV at E;have y0:D.cell? ⟨X,1,none⟩=some (.map (some Z)):=(zf ((H.o.below.block _ (zb h.mem)).trans h.mem) 1 _ rfl).1;have k0:D.cell? ⟨w.heap.size,0,none⟩=some (.int .i64 p.1):=(zf H.o.key 0 _ rfl).1;have k1:D.cell? ⟨w.heap.size,1,none⟩=some (.int .i64 p.2.1):=(zf H.o.key 1 _ rfl).1;have k2:D.cell? ⟨w.heap.size,2,none⟩=some (.int .i64 p.2.2):=(zf H.o.key 2 _ rfl).1;have R:=za ((H.o.below.block _ (zb (h.ring.link _ U))).trans (h.ring.link _ U));clear hk hp h U;go_quiet (fail);have HR:Hid ((D.drewN nq).rangeAt b 3 v):=z2j R.o;have Y:Hid ((D.drewN nq).heap[w.heap.size+1]?=some (.cells noV.toArray 104 (0,0))):=H.o.ans;have HB:Hid (Below w.heap.size w (D.drewN nq)):=below_drewN H.o.below _;clear E y0 k0 k1 k2 R;generalize D.drewN nq=W1 at *
 have J:Hid ((W1.setRow (w.heap.size+1) v.toArray).heap[w.heap.size+1]?=some (.cells v.toArray 104 (0,0))):=setRow_heap _ _ _ _ _ _ Y.o;have V:Hid (noV.toArray.size=v.toArray.size):=by show _=_;rw [List.size_toArray,List.size_toArray,A.o,zbf]
 have I:Hid ((Tryz.prog.info? 104).map (·.size)=some v.toArray.size):=by show _=_;rw [jt,List.size_toArray,A.o]
 go_wp2_with (first
  | (show wpList _ _ _ ({ dst:=_,op:=Op.load 104 _,type:=_,pos:=_,after:=_,guard:=_ }::_) _ _;first | refine ldF rfl _ rfl b 3 rfl v A.o HR.o ?_ | refine ldF rfl _ rfl (w.heap.size+1) 0 rfl v A.o (y9 J.o) ?_)
  | (show wpList _ _ _ ({ dst:=none,op:=Op.store 104 _ _,type:=_,pos:=_,after:=_,guard:=_ }::_) _ _;first | refine wpList_store_row rfl 104 _ _ rfl (w.heap.size+1) v.toArray rfl rfl 104 _ Y.o I.o V.o S.o ?_ | refine wpList_store_row rfl 104 _ _ rfl (w.heap.size+1) v.toArray rfl rfl 104 _ J.o I.o rfl S.o ?_))
 refine bodyPost_ret (v:= .tuple #[.agg v.toArray,.bool true]) (zv Tryz.results196 _ _ (w.heap.size+1) 104 _ (0,0) _ rfl (setRow_heap _ _ _ _ _ _ J.o) Tryz.underlying104 rfl I.o _ rfl) rfl ⟨rfl,?_⟩;exact below_setRow (below_setRow HB.o (by omega) _) (by omega) _
theorem LsP.drop_none {L:LsP}{p:Pl}(h:L.get p=none):L.drop p=L:=by
 unfold LsP.drop;rw [List.filter_eq_self];intro x r;unfold LsP.get at h;cases e:L.find? (fun x=>decide (x.2.1=p)) with
 | some y=>rw [e] at h;simp at h
 | none=>simpa using List.find?_eq_none.1 e x r
theorem LsP.drop_some {L:LsP}{p:Pl}{b:Nat}{v:List Value}(E:(L.ks.map (·.1)).Nodup)(h:L.get p=some (b,v)):∃ r A,L=r++(b,p,v)::A∧L.drop p=r++A:=by
 obtain⟨r,A,e⟩:=List.append_of_mem (zqj h);refine⟨r,A,e,?_⟩;rw [e] at E ⊢;unfold LsP.ks at E;rw [List.map_map,List.map_append,List.nodup_append] at E;obtain⟨-,D,H⟩:=E;rw [List.map_cons,List.nodup_cons] at D;unfold LsP.drop;rw [List.filter_append,List.filter_cons];have J:r.filter (fun y=>!decide (y.2.1=p))=r:=by
  rw [List.filter_eq_self];intro y I;simpa using H y.2.1 (List.mem_map.2 ⟨y,I,rfl⟩) p (by simp)
 have K:A.filter (fun y=>!decide (y.2.1=p))=A:=by
  rw [List.filter_eq_self];intro y I;have:y.2.1≠p:=fun Q=>D.1 (List.mem_map.2 ⟨y,I,Q⟩);simpa using this
 rw [J,K];simp
theorem z6v (L:LsP)(p:Pl):(L.drop p).ks=L.ks.drop p:=by
 unfold LsP.ks LsP.drop Ks.drop;rw [List.filter_map];rfl
theorem znw {w:World}{c d m:Nat}{q:Pl}{u:List Value}(hu:u.length=44){o:Nat}{nx:Nat→Nat}(h:w.heap[c]?=some (.cells (lkP q u o (nx c)) LkP (0,0))):(w.setCell ⟨d,48,none⟩ (.pointer (some ⟨m,0,none⟩))).heap[c]?=some (.cells (lkP q u o (upd nx d m c)) LkP (0,0)):=by
 by_cases e:c=d
 ·subst e;rw [qo h,vt];exact congrArg (fun x=>some (Obj.cells x LkP (0,0))) (z0j hu)
 ·rw [heap_setCell_other _ _ _ _ e,jh _ _ _ _ e];exact h
theorem zvh {w:World}{c d m:Nat}{q:Pl}{u:List Value}(hu:u.length=44){n:Nat}{pv:Nat→Nat}(h:w.heap[c]?=some (.cells (lkP q u (pv c) n) LkP (0,0))):(w.setCell ⟨d,47,none⟩ (.pointer (some ⟨m,0,none⟩))).heap[c]?=some (.cells (lkP q u (upd pv d m c) n) LkP (0,0)):=by
 by_cases e:c=d
 ·subst e;rw [qo h,vt];exact congrArg (fun x=>some (Obj.cells x LkP (0,0))) (z1e hu)
 ·rw [heap_setCell_other _ _ _ _ e,jh _ _ _ _ e];exact h
theorem zfo.strike {w:World}{H b:Nat}{p:Pl}{v:List Value}{D E:LsP}{nx pv:Nat→Nat}(h:zfo w H (D++(b,p,v)::E) nx pv):
  zfo ((w.setCell ⟨pv b,48,none⟩ (.pointer (some ⟨nx b,0,none⟩))).setCell ⟨nx b,47,none⟩ (.pointer (some ⟨pv b,0,none⟩))) H (D++E) (upd nx (pv b) (nx b)) (upd pv (nx b) (pv b)):=by
 have I:=h.circ;rw [List.map_append,List.map_cons] at I;have r:∀ x∈D++E,x∈D++(b,p,v)::E:=fun x A=>by
  rcases List.mem_append.1 A with e | e
  ·simp [e]
  ·simp [e]
 refine⟨zvh zbf (znw zbf h.ends),fun x A=>zvh (h.len x (r x A)).1 (znw (h.len x (r x A)).1 (h.link x (r x A))),?_,fun x A=>h.len x (r x A)⟩;rw [List.map_append];exact I.strike.1
theorem zfo.same {w w':World}{r:Nat}{L:LsP}{nx pv:Nat→Nat}(h:zfo w r L nx pv)(e:∀(k:Nat) (c:Array Value),w.heap[k]?=some (Obj.cells c LkP (0,0))→w'.heap[k]?=w.heap[k]?):zfo w' r L nx pv :=
 ⟨(e _ _ h.ends).trans h.ends,fun x A=>(e _ _ (h.link x A)).trans (h.link x A),h.circ,h.len⟩
theorem z09 (O:Nat→Prop)(U:Nat)(room:Int)(L:LsP)(p:Pl)(hp:zct p)(w:World)(h:zdh w O U room L)(b:Nat)(v:List Value)(hg:L.get p=some (b,v)):
  Calls Tryz.prog 193 #[zo U,plV p] w fun r w'=>r= .returned (.tuple #[])∧zg O [LkP] w w'∧zdh w' O U room (L.drop p):=by
 obtain⟨R,eb,nx,pv,h⟩:=h;have hk:L.ks.get p=some b:=by rw [zi6,hg];rfl
 have hl:=zqj hg;obtain⟨D,-,-,ap,-⟩:=h.map;obtain⟨l1,l2,eL,eD⟩:=LsP.drop_some ap hg;have hc:=h.ring.circ;rw [eL,List.map_append,List.map_cons] at hc;obtain⟨af,np,nn,mp,mn⟩:=hc.strike;simp only at af np nn mp mn
 -- the links around it
 have hP:∃ q u,u.length=44∧w.heap[pv b]?=some (.cells (lkP q u (pv (pv b)) (nx (pv b))) LkP (0,0)):=by
  rcases mp with e | e
  ·rw [e];exact⟨_,_,zbf,h.ring.ends⟩
  ·obtain⟨x,Q,ex⟩:=List.mem_map.1 e;rw [← ex];exact⟨_,_,(h.ring.len x (by rw [eL];simp [Q])).1,h.ring.link x (by rw [eL];simp [Q])⟩
 have hN:∃ q u,u.length=44∧w.heap[nx b]?=some (.cells (lkP q u (pv (nx b)) (nx (nx b))) LkP (0,0)):=by
  rcases mn with e | e
  ·rw [e];exact⟨_,_,zbf,h.ring.ends⟩
  ·obtain⟨x,Q,ex⟩:=List.mem_map.1 e;rw [← ex];exact⟨_,_,(h.ring.len x (by rw [eL];simp [Q])).1,h.ring.link x (by rw [eL];simp [Q])⟩
 obtain⟨qp,up,ae,hP⟩:=hP;obtain⟨qn,un,ad,hN⟩:=hN;have ac:=(h.ring.len _ hl).1;obtain⟨m0,-⟩:=zf h.mem 1 _ rfl;obtain⟨l4,-⟩:=zf (h.ring.link _ hl) 47 _ (zpz ac);obtain⟨l5,-⟩:=zf (h.ring.link _ hl) 48 _ (zpb ac);obtain⟨p5,g5⟩:=zf hP 48 _ (zpb ae);obtain⟨n4,g4⟩:=zf hN 47 _ (zpz ad);have X:=fun n o=>(h.map.same (w':=(w.alloc o).drewN n) (Below.heap_alloc w o R h.map.lt)).look Tryz.underlying161 zlz hp;rw [hk] at X;simp only [zom,zo,Option.isSome_some] at X;have y0:∀ o,(w.alloc o).cell? ⟨U,1,none⟩=some (.map (some R)):=fun o=>by rw [zl _ _ ⟨U,1,none⟩ (zb h.mem)];exact m0
 have E:=za h;have HL:=za hl;have HE:=za (And.intro eL eD);have HC:=za af;have HW:=za (And.intro hP hN);have aw:=za (And.intro ae ad);have HK:=za hk;have HG:=za hg;have HP:=za hp;have HM:=za (And.intro mp mn);unfold plV at X ⊢;unfold zo;have aj:=za l4;have ak:=za l5;have W:=za (And.intro p5 g5);have V:=za (And.intro n4 g4);clear m0 l4 l5 p5 g5 n4 g4 hk hl hg hp h eL eD af hP hN hc ap mp mn ae ad ac;go_enter Tryz.func193,Tryz.ntmps193;go_wp2_with fail;go_quiet (fail);clear X;have A:Hid (Below w.heap.size w ((w.alloc (.cells #[.int .i64 p.1,.int .i64 p.2.1,.int .i64 p.2.2] 99)).drewN nq)):=below_drewN (ze w _) _;have aa:Hid (((w.alloc (.cells #[.int .i64 p.1,.int .i64 p.2.1,.int .i64 p.2.2] 99)).drewN nq).heap[w.heap.size]?=some (.cells #[.int .i64 p.1,.int .i64 p.2.1,.int .i64 p.2.2] 99 (0,0))):=heap_alloc_last _ _;have hz:w.heap.size < ((w.alloc (.cells #[.int .i64 p.1,.int .i64 p.2.1,.int .i64 p.2.2] 99)).drewN nq).heap.size:=zb aa.o;clear y0;generalize (w.alloc (.cells #[.int .i64 p.1,.int .i64 p.2.1,.int .i64 p.2.2] 99)).drewN nq=H at *
 have cc:∀ {a:Addr} {x:Value},w.cell? a=some x→H.cell? a=some x:=fun {a x} e=>by rw [A.o.cell (zk e)];exact e
 have q4:H.cell? ⟨b,47,none⟩=some (.pointer (some ⟨pv b,0,none⟩)):=cc aj.o;have q5:H.cell? ⟨b,48,none⟩=some (.pointer (some ⟨nx b,0,none⟩)):=cc ak.o;have r5:H.cell? ⟨pv b,48,none⟩=some (.pointer (some ⟨nx (pv b),0,none⟩)):=cc W.o.1;have r4:H.cell? ⟨nx b,47,none⟩=some (.pointer (some ⟨pv (nx b),0,none⟩)):=cc V.o.1;have s5:H.frozen? ⟨pv b,48,none⟩=false:=by rw [A.o.frozen (p:=⟨pv b,48,none⟩) (zk (p:=⟨pv b,48,none⟩) W.o.1)];exact W.o.2
 have s4:H.frozen? ⟨nx b,47,none⟩=false:=by rw [A.o.frozen (p:=⟨nx b,47,none⟩) (zk (p:=⟨nx b,47,none⟩) V.o.1)];exact V.o.2
 clear cc;go_wp2_with fail;go_region_held3 (fun w'=>w'.cell? ⟨b,47,none⟩=some (.pointer (some ⟨pv b,0,none⟩))∧w'.cell? ⟨b,48,none⟩=some (.pointer (some ⟨nx b,0,none⟩))) (go_keep) (fail);rename_i ax;clear ax
 -- what has come of the ring
 have HT:Hid (zg O [LkP] w ((H.setCell ⟨pv b,48,none⟩ (.pointer (some ⟨nx b,0,none⟩))).setCell ⟨nx b,47,none⟩ (.pointer (some ⟨pv b,0,none⟩))).drew∧zfo ((H.setCell ⟨pv b,48,none⟩ (.pointer (some ⟨nx b,0,none⟩))).setCell ⟨nx b,47,none⟩ (.pointer (some ⟨pv b,0,none⟩))).drew eb (L.drop p) (upd nx (pv b) (nx b)) (upd pv (nx b) (pv b)) ∧
   ∀ k,k < w.heap.size+1→(∀ c,H.heap[k]?≠some (.cells c LkP (0,0)))→((H.setCell ⟨pv b,48,none⟩ (.pointer (some ⟨nx b,0,none⟩))).setCell ⟨nx b,47,none⟩ (.pointer (some ⟨pv b,0,none⟩))).drew.heap[k]?=H.heap[k]?):=by
  have aq:zfo H eb L nx pv:=E.o.ring.same fun k c e=>A.o.block k (zb e);have am:=(A.o.block _ (zb HW.o.1)).trans HW.o.1;have al:=(A.o.block _ (zb HW.o.2)).trans HW.o.2;have oP:O (pv b):=by
   rcases HM.o.1 with e | e
   ·rw [e];exact E.o.own.2.2.1
   ·obtain⟨x,Q,ex⟩:=List.mem_map.1 e;rw [← ex];exact E.o.own.2.2.2 x (by rw [HE.o.1];simp [Q])
  have oN:O (nx b):=by
   rcases HM.o.2 with e | e
   ·rw [e];exact E.o.own.2.2.1
   ·obtain⟨x,Q,ex⟩:=List.mem_map.1 e;rw [← ex];exact E.o.own.2.2.2 x (by rw [HE.o.1];simp [Q])
  refine⟨?_,?_,?_⟩
  ·have t1:zg O [LkP] w (H.setCell ⟨pv b,48,none⟩ (.pointer (some ⟨nx b,0,none⟩))):=(zg.of_below A.o).set (.inl oP) am (by simp) _;exact(t1.set (.inl oN) (znw aw.o.2 al) (by simp) _).drew
  ·rw [HE.o.2];rw [HE.o.1] at aq;exact aq.strike.same fun k c _=>rfl
  ·intro k _ hk;have e1:k≠nx b:=fun e=>hk _ (e▸al);have e2:k≠pv b:=fun e=>hk _ (e▸am);show((H.setCell _ _).setCell _ _).heap[k]?=_;rw [heap_setCell_other _ _ _ _ e1,heap_setCell_other _ _ _ _ e2]
 generalize ((H.setCell ⟨pv b,48,none⟩ (.pointer (some ⟨nx b,0,none⟩))).setCell ⟨nx b,47,none⟩ (.pointer (some ⟨pv b,0,none⟩))).drew=W2 at *
 clear q4 q5 r5 r4 s5 s4 W V aj ak HW;have ag:H.heap[U]?=some (.cells #[.int .i64 room,.map (some R),zo eb] MeP (0,0)):=(A.o.block _ (zb E.o.mem)).trans E.o.mem;have J:W2.heap[U]?=some (.cells #[.int .i64 room,.map (some R),zo eb] MeP (0,0)):=by
  rw [HT.o.2.2 U (Nat.lt_succ_of_lt (zb E.o.mem)) (fun c e=>by rw [ag] at e;simp only [Option.some.injEq,Obj.cells.injEq] at e;exact absurd e.2.1 (by decide))];exact ag
 have K:W2.heap[w.heap.size]?=some (.cells #[.int .i64 p.1,.int .i64 p.2.1,.int .i64 p.2.2] 99 (0,0)):=by
  rw [HT.o.2.2 w.heap.size (Nat.lt_succ_self _) (fun c e=>by rw [aa.o] at e;simp only [Option.some.injEq,Obj.cells.injEq] at e;exact absurd e.2.1 (by decide))];exact aa.o
 have S:jq W2.drew R L.ks:=by
  refine E.o.map.same ?_;show W2.heap[R]?=_;obtain⟨es,c,e⟩:=E.o.map.isMap;rw [HT.o.2.2 R (Nat.lt_succ_of_lt E.o.map.lt) (fun c' Z=>by rw [A.o.block _ E.o.map.lt,e] at Z;simp at Z),A.o.block _ E.o.map.lt]
 obtain⟨w3,ay,ao,I⟩:=S.del Tryz.underlying161 HP.o HK.o 0;unfold plV at ay;obtain⟨a1,-⟩:=zf J 1 _ rfl;obtain⟨b0,-⟩:=zf K 0 _ rfl;obtain⟨b1,-⟩:=zf K 1 _ rfl;obtain⟨b2,-⟩:=zf K 2 _ rfl;have ah:w3.heap[U]?=some (.cells #[.int .i64 room,.map (some R),zo eb] MeP (0,0)):=(I.block U (zb J) (fun e=>by
  simp only [Option.some.injEq] at e;obtain⟨es,c,Z⟩:=S.isMap;rw [← e] at Z;have:some (Obj.cells _ _ _)=some (Obj.map es c):=J.symm.trans Z;simp at this)).trans J
 have Y:w3.heap[w.heap.size]?=some (.cells #[.int .i64 p.1,.int .i64 p.2.1,.int .i64 p.2.2] 99 (0,0)):=(I.block w.heap.size (zb K) (fun e=>by
  simp only [Option.some.injEq] at e;obtain⟨es,c,Z⟩:=S.isMap;rw [← e] at Z;have:some (Obj.cells _ _ _)=some (Obj.map es c):=K.symm.trans Z;simp at this)).trans K
 obtain⟨c1,-⟩:=zf ah 1 _ rfl;obtain⟨d0,-⟩:=zf Y 0 _ rfl;obtain⟨d1,-⟩:=zf Y 1 _ rfl;obtain⟨d2,-⟩:=zf Y 2 _ rfl;have au:=za ao;have av:=za ah;have ai:Hid (W2.grownBy w3 (some R)):=⟨I.os,I.tape,I.output,I.size,I.block⟩
 have ar:=za S;clear ag J K ah Y S ao I;go_wp2_with fail;go_region_held3 (fun w'=>w'.cell? ⟨U,1,none⟩=some (.map (some R))∧w'.cell? ⟨w.heap.size,0,none⟩=some (.int .i64 p.1)∧w'.cell? ⟨w.heap.size,1,none⟩=some (.int .i64 p.2.1)∧w'.cell? ⟨w.heap.size,2,none⟩=some (.int .i64 p.2.2)) (go_keep) (fail);go_wp2_with fail;go_end0;have an:∀ x∈L.drop p,x∈L:=fun x Q=>(List.mem_filter.1 Q).1;have J:jq W2 R L.ks:=ar.o.same rfl;refine⟨rfl,HT.o.1.map (.inl E.o.own.2.1) J ai.o,R,eb,upd nx (pv b) (nx b),upd pv (nx b) (pv b),⟨E.o.own.1,E.o.own.2.1,E.o.own.2.2.1,fun x Q=>E.o.own.2.2.2 x (an x Q)⟩,av.o,?_,?_,fun x Q=>E.o.ok x (an x Q)⟩
 ·exact HT.o.2.1.same fun k c e=>ai.o.block k (zb e) (J.not e)
 ·rw [z6v];exact au.o
theorem z4g (O:Nat→Prop)(D:Nat)(room:Int)(L:LsP)(p:Pl)(J:zct p)(w:World)(h:zdh w O D room L)(H:L.get p=none):
  Calls Tryz.prog 193 #[zo D,plV p] w fun r w'=>r= .returned (.tuple #[])∧Below w.heap.size w w':=by
 obtain⟨E,R,nx,pv,h⟩:=h;have I:L.ks.get p=none:=by rw [zi6,H];rfl
 obtain⟨K,-⟩:=zf h.mem 1 _ rfl;have A:=fun n o=>(h.map.same (w':=(w.alloc o).drewN n) (Below.heap_alloc w o E h.map.lt)).look Tryz.underlying161 zlz J;rw [I] at A;simp only [zom,Option.isSome_none] at A;have Q:D < w.heap.size:=zb h.mem;have S:∀ o,(w.alloc o).cell? ⟨D,1,none⟩=some (.map (some E)):=fun o=>by rw [zl _ _ ⟨D,1,none⟩ Q];exact K
 unfold plV at A ⊢;unfold zo;clear K I H J h;go_enter Tryz.func193,Tryz.ntmps193;go_wp2_with fail;go_quiet (fail);go_wp2_with fail;first | go_end0 | refine bodyPost_ret (results_none rfl _ _ _) rfl ?_
 exact⟨rfl,below_drewN (ze w _) _⟩
theorem zdh.stay {w w':World}{O O1 O':Nat→Prop}{T:List Nat}{E:Nat}{room:Int}{L:LsP}(h:zdh w O E room L)(K:zg O1 T w w')(h1:∀ k,O k→¬ O1 k)(h2:∀ k,O k→O' k):zdh w' O' E room L:=by
 obtain⟨I,H,nx,pv,h⟩:=h;have r:∀ k,O k→k < w.heap.size→w'.heap[k]?=w.heap[k]?:=fun k J D=>by
  rcases K.block k D with e | ⟨e,-⟩
  ·exact e
  ·exact absurd e (h1 k J)
 refine⟨I,H,nx,pv,⟨h2 _ h.own.1,h2 _ h.own.2.1,h2 _ h.own.2.2.1,fun x A=>h2 _ (h.own.2.2.2 x A)⟩,(r _ h.own.1 (zb h.mem)).trans h.mem,?_,h.map.same (r _ h.own.2.1 h.map.lt),h.ok⟩;exact⟨(r _ h.own.2.2.1 (zb h.ring.ends)).trans h.ring.ends,fun x A=>(r _ (h.own.2.2.2 x A) (zb (h.ring.link x A))).trans (h.ring.link x A),h.ring.circ,h.ring.len⟩
theorem zdh.below {w w':World}{O O':Nat→Prop}{r:Nat}{room:Int}{L:LsP}(h:zdh w O r room L)(A:Below w.heap.size w w')(h2:∀ k,O k→O' k):zdh w' O' r room L :=
 h.stay (O1:=fun _=>False) (T:=[]) (.of_below A) (fun _ _ h=>h) h2
theorem zot (O:Nat→Prop)(A:Nat)(room:Int)(L:LsP)(p:Pl)(E:zct p)(w:World)(h:zdh w O A room L):
  Calls Tryz.prog 193 #[zo A,plV p] w fun r w'=>r= .returned (.tuple #[])∧zg O [LkP] w w'∧zdh w' O A room (L.drop p):=by
 cases hg:L.get p with
 | some x=>exact z09 O A room L p E w h x.1 x.2 hg
 | none =>
  refine(z4g O A room L p E w h hg).mono ?_;rintro r w' ⟨rfl,D⟩;rw [LsP.drop_none hg];exact⟨rfl,.of_below D,h.below D (fun _ h=>h)⟩
end Go.Proofs.YtndkblnpbjffhaaGreatDoor
