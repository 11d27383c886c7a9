import Derived.Test.YtinhekmmdlhfkaaGreatDoorG11
import Derived.Deep.RegionHeld3
import Derived.Deep.CutRange
namespace Go.Proofs.YtinhekmmdlhfkaaGreatDoor
section
set_option maxHeartbeats 8000000
open Go.RowKit
set_option maxRecDepth 100000
abbrev LkP:Nat:=188
abbrev MeP:Nat:=190
def lkP (p:Pl)(v:List Value)(o n:Nat):Array Value:=(.int .i64 p.1:: .int .i64 p.2.1:: .int .i64 p.2.2::(v++[zt o,zt n])).toArray
def z3b:List Value:=[.bool false,.bool false,.int .u8 0,.int .u8 0,.int .u8 0,.int .u8 0,.int .u8 0,.int .u8 0,.int .u8 0,.int .u8 0,.slice none 0 0]
def noV:List Value:=z3b++(z3b++(z3b++z3b))
abbrev qh:Array Value:=#[.bool false,.bool false,.int .u8 0,.int .u8 0,.int .u8 0,.int .u8 0,.int .u8 0,.int .u8 0,.int .u8 0,.int .u8 0,.slice none 0 0,.bool false,.bool false,.int .u8 0,.int .u8 0,.int .u8 0,.int .u8 0,.int .u8 0,.int .u8 0,.int .u8 0,.int .u8 0,.slice none 0 0,.bool false,.bool false,.int .u8 0,.int .u8 0,.int .u8 0,.int .u8 0,.int .u8 0,.int .u8 0,.int .u8 0,.int .u8 0,.slice none 0 0,.bool false,.bool false,.int .u8 0,.int .u8 0,.int .u8 0,.int .u8 0,.int .u8 0,.int .u8 0,.int .u8 0,.int .u8 0,.slice none 0 0]
theorem za7:noV.length=44:=rfl
theorem zpc {p:Pl}{v:List Value}{o n:Nat}(h:v.length=44):(lkP p v o n)[47]?=some (zt o):=by
 simp [lkP,h]
theorem zo1 {p:Pl}{v:List Value}{o n:Nat}(h:v.length=44):(lkP p v o n)[48]?=some (zt n):=by
 simp [lkP,h]
theorem z0i {p:Pl}{v:List Value}{o n m:Nat}(h:v.length=44):(lkP p v o n).setIfInBounds 47 (zt m)=lkP p v m n:=by
 simp [lkP,h]
theorem zy1 {p:Pl}{v:List Value}{o n m:Nat}(h:v.length=44):(lkP p v o n).setIfInBounds 48 (zt m)=lkP p v o m:=by
 simp [lkP,h]
abbrev LsP:=List (Nat×Pl×List Value)
def LsP.ks (L:LsP):Ks:=L.map fun x=>(x.2.1,x.1)
def LsP.drop (L:LsP)(p:Pl):LsP:=L.filter fun x=>!decide (x.2.1=p)
structure zev (w:World)(eb:Nat)(L:LsP)(nx pv:Nat→Nat):Prop where
 ends:w.heap[eb]?=some (.cells (lkP (0,0,0) noV (pv eb) (nx eb)) LkP (0,0))
 link:∀ x∈L,w.heap[x.1]?=some (.cells (lkP x.2.1 x.2.2 (pv x.1) (nx x.1)) LkP (0,0))
 circ:zg0 eb (L.map (·.1)) nx pv
 len:∀ x∈L,x.2.2.length=44∧∀ v∈x.2.2,v.oneCell'=true
structure zbn (w:World)(O:Nat→Prop)(mb hb eb:Nat)(nx pv:Nat→Nat)(room:Int)(L:LsP):Prop where
 own:O mb∧O hb∧O eb∧∀ x∈L,O x.1
 mem:w.heap[mb]?=some (.cells #[.int .i64 room,.map (some hb),zt eb] MeP (0,0))
 ring:zev w eb L nx pv
 map:jc w hb L.ks
 ok:∀ x∈L,zcb x.2.1
def zct (w:World)(O:Nat→Prop)(mb:Nat)(room:Int)(L:LsP):Prop:=∃ hb eb nx pv,zbn w O mb hb eb nx pv room L
def LsP.get (L:LsP)(p:Pl):Option (Nat×List Value):=match L.find? (fun x=>decide (x.2.1=p)) with
 | some x=>some (x.1,x.2.2)
 | none=>none
theorem zjq (L:LsP)(p:Pl):L.ks.get p=(L.get p).map (·.1):=by
 unfold LsP.ks Ks.get LsP.get
 rw [List.find?_map]
 have:((fun x:Pl×Nat=>decide (x.1=p))∘fun x:Nat×Pl×List Value=>(x.2.1,x.1))=fun x=>decide (x.2.1=p):=rfl
 rw [this]
 cases L.find? (fun x=>decide (x.2.1=p))<;>rfl
theorem zqr {L:LsP}{p:Pl}{b:Nat}{v:List Value}(h:L.get p=some (b,v)):(b,p,v)∈L:=by
 unfold LsP.get at h
 cases e:L.find? (fun x=>decide (x.2.1=p)) with
 | none=>rw [e] at h;simp at h
 | some x =>
  rw [e] at h
  simp only [Option.some.injEq,Prod.mk.injEq] at h
  have h1:=List.find?_some e
  have h2:=List.mem_of_find?_eq_some e
  simp only [decide_eq_true_eq] at h1
  obtain⟨a,b',c⟩:=x
  simp only at h h1
  obtain⟨rfl,rfl⟩:=h
  subst h1
  exact h2
theorem zlf (w:World):(zeroValue 186).run Tryz.prog w= .ok (.pointer none) w:=by kernel_rfl
theorem zy7 {p:Pl}{v:List Value}{o n:Nat}{w:World}{b:Nat}(h:w.heap[b]?=some (.cells (lkP p v o n) LkP (0,0))):w.rangeAt b 3 v:=by
 intro j x hx
 rw [cell_of_row _ _ _ _ _ _ h]
 have hj:j < v.length:=(List.getElem?_eq_some_iff.1 hx).1
 unfold lkP
 rw [show 3+j=j+1+1+1 by omega]
 simp only [List.getElem?_toArray,List.getElem?_cons_succ,List.getElem?_append_left hj]
 exact hx
theorem jk:(Tryz.prog.info? 130).map (·.size)=some 44:=by kernel_rfl
theorem zy {P:Program}{fn:Func}{p u:Tmp}{ty:TypeId}(h:fn.results=#[.cell p ty,.tmp u])(tmps:Array Value)(w:World)(g:Nat)(t:TypeId)(cs:Array Value)(fr:Nat×Nat)(d:TypeDesc)
  (hp:tmps.getD p undef= .pointer (some ⟨g,0,none⟩)) (hg:w.heap[g]?=some (.cells cs t fr))
  (hu:P.underlying ty=some d) (hd:(match d with | .struct _ | .array _ _=>true | _=>false)=true) (hi:(P.info? ty).map (·.size)=some cs.size) (x:Value) (hx:tmps.getD u undef=x) :
  (results fn tmps).run P w= .ok (.tuple #[.agg cs,x]) w:=by
 have hl:=run_loadVar_row (P:=P) w g t ty cs fr d hg hu hd hi
 simp only [Array.getD_eq_getD_getElem?] at hp hx
 simp [results,h,hp,hx,asAddr,hl]
theorem ldF {ops:Array Oper}{rest:List Oper}{op:Oper}{a:Act}{w:World}{Q:Exit→Act→World→Prop}(hgd:op.guard=none)(x:Operand)(ho:op.op= .load 130 x)
  (b o:Nat) (hx:a.eval x= .pointer (some ⟨b,o,none⟩)) (cs:List Value) (hl:cs.length=44) (hc:w.rangeAt b o cs) (h:wpList Tryz.prog ops Q rest (a.put op.dst (.agg cs.toArray)) w):wpList Tryz.prog ops Q (op::rest) a w :=
 wpList_load_mid hgd _ x ho b o hx cs _ hc Tryz.underlying130 rfl (by rw [jk,hl]) h
theorem yv {w:World}{b:Nat}{cs:List Value}{t:TypeId}{fr:Nat×Nat}(h:w.heap[b]?=some (.cells cs.toArray t fr)):w.rangeAt b 0 cs:=by
 intro j x hx
 rw [cell_of_row _ _ _ _ _ _ h]
 simpa using hx
structure z9s (w W0:World)(p:Pl):Prop where
 below:Below w.heap.size w W0
 key:W0.heap[w.heap.size]?=some (.cells #[.int .i64 p.1,.int .i64 p.2.1,.int .i64 p.2.2] 126 (0,0))
 ans:W0.heap[w.heap.size+1]?=some (.cells noV.toArray 130 (0,0))
theorem zmz (w:World)(p:Pl):z9s w ((w.alloc (.cells #[.int .i64 p.1,.int .i64 p.2.1,.int .i64 p.2.2] 126)).alloc (.cells qh 130)) p:=by
 refine⟨zw _ _ _,zc (heap_alloc_last _ _),?_⟩
 have:=heap_alloc_last (w.alloc (.cells #[.int .i64 p.1,.int .i64 p.2.1,.int .i64 p.2.2] 126)) (.cells qh 130)
 rw [show(w.alloc (.cells #[.int .i64 p.1,.int .i64 p.2.1,.int .i64 p.2.2] 126)).heap.size=w.heap.size+1 by simp] at this
 exact this
theorem z6q:noV.toArray.all (·.oneCell') =true:=by simp [noV,z3b,Value.oneCell']
theorem z7n (O:Nat→Prop)(mb:Nat)(room:Int)(L:LsP)(p:Pl)(hp:zcb p)(w:World)(h:zct w O mb room L)(hg:L.get p=none):
  Calls Tryz.prog 150 #[zt mb,plV p] w fun r w'=>r= .returned (.tuple #[.agg noV.toArray,.bool false])∧Below w.heap.size w w':=by
 obtain⟨hb,eb,nx,pv,h⟩:=h
 have hk:L.ks.get p=none:=by rw [zjq,hg];rfl
 have HA:=za (zmz w p)
 unfold plV
 unfold zt
 clear hg
 go_enter Tryz.func150,Tryz.ntmps150
 go_wp2_with fail
 generalize (w.alloc (.cells #[.int .i64 p.1,.int .i64 p.2.1,.int .i64 p.2.2] 126)).alloc (.cells qh 130)=W0 at *
 have hlook:=fun n=>(h.map.same (w':=W0.drewN n) (HA.o.below.block hb h.map.lt)).look Tryz.underlying185 zlf hp
 rw [hk] at hlook
 simp only [zn7,Option.isSome_none] at hlook
 unfold plV at hlook
 have y0:W0.cell? ⟨mb,1,none⟩=some (.map (some hb)):=(zg ((HA.o.below.block _ (zb h.mem)).trans h.mem) 1 _ rfl).1
 have k0:W0.cell? ⟨w.heap.size,0,none⟩=some (.int .i64 p.1):=(zg HA.o.key 0 _ rfl).1
 have k1:W0.cell? ⟨w.heap.size,1,none⟩=some (.int .i64 p.2.1):=(zg HA.o.key 1 _ rfl).1
 have k2:W0.cell? ⟨w.heap.size,2,none⟩=some (.int .i64 p.2.2):=(zg HA.o.key 2 _ rfl).1
 clear hk hp h
 go_quiet (fail)
 have HR:Hid ((W0.drewN nq).rangeAt (w.heap.size+1) 0 noV):=yv HA.o.ans
 have HX:Hid ((W0.drewN nq).heap[w.heap.size+1]?=some (.cells noV.toArray 130 (0,0))):=HA.o.ans
 have HB:Hid (Below w.heap.size w (W0.drewN nq)):=below_drewN HA.o.below _
 clear hlook y0 k0 k1 k2
 generalize W0.drewN nq=W1 at *
 go_wp2_with (first
  | (show wpList _ _ _ ({ dst:=_,op:=Op.load 130 _,type:=_,pos:=_,after:=_,guard:=_ }::_) _ _;refine ldF rfl _ rfl _ _ rfl noV za7 HR.o ?_)
  | (show wpList _ _ _ ({ dst:=none,op:=Op.store 130 _ _,type:=_,pos:=_,after:=_,guard:=_ }::_) _ _;refine wpList_store_row rfl 130 _ _ rfl (w.heap.size+1) noV.toArray rfl rfl 130 _ HX.o jk rfl z6q ?_))
 refine bodyPost_ret (v:= .tuple #[.agg noV.toArray,.bool false]) (zy Tryz.results150 _ _ (w.heap.size+1) 130 noV.toArray (0,0) _ rfl (setRow_heap _ _ _ _ _ _ HX.o) Tryz.underlying130 rfl jk _ rfl) rfl ⟨rfl,?_⟩
 exact below_setRow HB.o (by omega) _
theorem z3c (O:Nat→Prop)(mb:Nat)(room:Int)(L:LsP)(p:Pl)(hp:zcb p)(w:World)(h:zct w O mb room L)(b:Nat)(v:List Value)(hg:L.get p=some (b,v)):
  Calls Tryz.prog 150 #[zt mb,plV p] w fun r w'=>r= .returned (.tuple #[.agg v.toArray,.bool true])∧Below w.heap.size w w':=by
 obtain⟨hb,eb,nx,pv,h⟩:=h
 have hk:L.ks.get p=some b:=by rw [zjq,hg];rfl
 have hl:=zqr hg
 have HA:=za (zmz w p)
 obtain⟨hv4,hv1⟩:=h.ring.len _ hl
 simp only at hv4 hv1
 have HV4:=za hv4
 have HV1:Hid (v.toArray.all (·.oneCell')=true):=all_oneCell_toArray hv1
 unfold plV
 unfold zt
 clear hg hv4 hv1
 go_enter Tryz.func150,Tryz.ntmps150
 go_wp2_with fail
 generalize (w.alloc (.cells #[.int .i64 p.1,.int .i64 p.2.1,.int .i64 p.2.2] 126)).alloc (.cells qh 130)=W0 at *
 have hlook:=fun n=>(h.map.same (w':=W0.drewN n) (HA.o.below.block hb h.map.lt)).look Tryz.underlying185 zlf hp
 rw [hk] at hlook
 simp only [zn7,zt,Option.isSome_some] at hlook
 unfold plV at hlook
 have y0:W0.cell? ⟨mb,1,none⟩=some (.map (some hb)):=(zg ((HA.o.below.block _ (zb h.mem)).trans h.mem) 1 _ rfl).1
 have k0:W0.cell? ⟨w.heap.size,0,none⟩=some (.int .i64 p.1):=(zg HA.o.key 0 _ rfl).1
 have k1:W0.cell? ⟨w.heap.size,1,none⟩=some (.int .i64 p.2.1):=(zg HA.o.key 1 _ rfl).1
 have k2:W0.cell? ⟨w.heap.size,2,none⟩=some (.int .i64 p.2.2):=(zg HA.o.key 2 _ rfl).1
 have HLK:=za ((HA.o.below.block _ (zb (h.ring.link _ hl))).trans (h.ring.link _ hl))
 clear hk hp h hl
 go_quiet (fail)
 have HR:Hid ((W0.drewN nq).rangeAt b 3 v):=zy7 HLK.o
 have HX:Hid ((W0.drewN nq).heap[w.heap.size+1]?=some (.cells noV.toArray 130 (0,0))):=HA.o.ans
 have HB:Hid (Below w.heap.size w (W0.drewN nq)):=below_drewN HA.o.below _
 clear hlook y0 k0 k1 k2 HLK
 generalize W0.drewN nq=W1 at *
 have HX2:Hid ((W1.setRow (w.heap.size+1) v.toArray).heap[w.heap.size+1]?=some (.cells v.toArray 130 (0,0))):=setRow_heap _ _ _ _ _ _ HX.o
 have HSZ:Hid (noV.toArray.size=v.toArray.size):=by show _=_;rw [List.size_toArray,List.size_toArray,HV4.o,za7]
 have HIF:Hid ((Tryz.prog.info? 130).map (·.size)=some v.toArray.size):=by show _=_;rw [jk,List.size_toArray,HV4.o]
 go_wp2_with (first
  | (show wpList _ _ _ ({ dst:=_,op:=Op.load 130 _,type:=_,pos:=_,after:=_,guard:=_ }::_) _ _;first | refine ldF rfl _ rfl b 3 rfl v HV4.o HR.o ?_ | refine ldF rfl _ rfl (w.heap.size+1) 0 rfl v HV4.o (yv HX2.o) ?_)
  | (show wpList _ _ _ ({ dst:=none,op:=Op.store 130 _ _,type:=_,pos:=_,after:=_,guard:=_ }::_) _ _;first | refine wpList_store_row rfl 130 _ _ rfl (w.heap.size+1) v.toArray rfl rfl 130 _ HX.o HIF.o HSZ.o HV1.o ?_ | refine wpList_store_row rfl 130 _ _ rfl (w.heap.size+1) v.toArray rfl rfl 130 _ HX2.o HIF.o rfl HV1.o ?_))
 refine bodyPost_ret (v:= .tuple #[.agg v.toArray,.bool true]) (zy Tryz.results150 _ _ (w.heap.size+1) 130 _ (0,0) _ rfl (setRow_heap _ _ _ _ _ _ HX2.o) Tryz.underlying130 rfl HIF.o _ rfl) rfl ⟨rfl,?_⟩
 exact below_setRow (below_setRow HB.o (by omega) _) (by omega) _
theorem LsP.drop_none {L:LsP}{p:Pl}(h:L.get p=none):L.drop p=L:=by
 unfold LsP.drop
 rw [List.filter_eq_self]
 intro x hx
 unfold LsP.get at h
 cases e:L.find? (fun x=>decide (x.2.1=p)) with
 | some y=>rw [e] at h;simp at h
 | none=>simpa using List.find?_eq_none.1 e x hx
theorem LsP.drop_some {L:LsP}{p:Pl}{b:Nat}{v:List Value}(hn:(L.ks.map (·.1)).Nodup)(h:L.get p=some (b,v)):∃ l1 l2,L=l1++(b,p,v)::l2∧L.drop p=l1++l2:=by
 obtain⟨l1,l2,e⟩:=List.append_of_mem (zqr h)
 refine⟨l1,l2,e,?_⟩
 rw [e] at hn ⊢
 unfold LsP.ks at hn
 rw [List.map_map,List.map_append,List.nodup_append] at hn
 obtain⟨-,hn2,hn3⟩:=hn
 rw [List.map_cons,List.nodup_cons] at hn2
 unfold LsP.drop
 rw [List.filter_append,List.filter_cons]
 have a1:l1.filter (fun y=>!decide (y.2.1=p))=l1:=by
  rw [List.filter_eq_self]
  intro y hy
  simpa using hn3 y.2.1 (List.mem_map.2 ⟨y,hy,rfl⟩) p (by simp)
 have a2:l2.filter (fun y=>!decide (y.2.1=p))=l2:=by
  rw [List.filter_eq_self]
  intro y hy
  have:y.2.1≠p:=fun e'=>hn2.1 (List.mem_map.2 ⟨y,hy,e'⟩)
  simpa using this
 rw [a1,a2];simp
theorem z36 (L:LsP)(p:Pl):(L.drop p).ks=L.ks.drop p:=by
 unfold LsP.ks LsP.drop Ks.drop
 rw [List.filter_map];rfl
theorem zmo {w:World}{c d m:Nat}{q:Pl}{u:List Value}(hu:u.length=44){o:Nat}{nx:Nat→Nat}(h:w.heap[c]?=some (.cells (lkP q u o (nx c)) LkP (0,0))):(w.setCell ⟨d,48,none⟩ (.pointer (some ⟨m,0,none⟩))).heap[c]?=some (.cells (lkP q u o (upd nx d m c)) LkP (0,0)):=by
 by_cases e:c=d
 ·subst e
  rw [qj h,vm]
  exact congrArg (fun x=>some (Obj.cells x LkP (0,0))) (zy1 hu)
 ·rw [heap_setCell_other _ _ _ _ e,ja _ _ _ _ e];exact h
theorem zuk {w:World}{c d m:Nat}{q:Pl}{u:List Value}(hu:u.length=44){n:Nat}{pv:Nat→Nat}(h:w.heap[c]?=some (.cells (lkP q u (pv c) n) LkP (0,0))):(w.setCell ⟨d,47,none⟩ (.pointer (some ⟨m,0,none⟩))).heap[c]?=some (.cells (lkP q u (upd pv d m c) n) LkP (0,0)):=by
 by_cases e:c=d
 ·subst e
  rw [qj h,vm]
  exact congrArg (fun x=>some (Obj.cells x LkP (0,0))) (z0i hu)
 ·rw [heap_setCell_other _ _ _ _ e,ja _ _ _ _ e];exact h
theorem zev.strike {w:World}{eb b:Nat}{p:Pl}{v:List Value}{l1 l2:LsP}{nx pv:Nat→Nat}(h:zev w eb (l1++(b,p,v)::l2) nx pv):
  zev ((w.setCell ⟨pv b,48,none⟩ (.pointer (some ⟨nx b,0,none⟩))).setCell ⟨nx b,47,none⟩ (.pointer (some ⟨pv b,0,none⟩))) eb (l1++l2) (upd nx (pv b) (nx b)) (upd pv (nx b) (pv b)):=by
 have hc:=h.circ
 rw [List.map_append,List.map_cons] at hc
 have hin:∀ x∈l1++l2,x∈l1++(b,p,v)::l2:=fun x hx=>by
  rcases List.mem_append.1 hx with e | e
  ·simp [e]
  ·simp [e]
 refine⟨zuk za7 (zmo za7 h.ends),fun x hx=>zuk (h.len x (hin x hx)).1 (zmo (h.len x (hin x hx)).1 (h.link x (hin x hx))),?_,fun x hx=>h.len x (hin x hx)⟩
 rw [List.map_append];exact hc.strike.1
theorem zev.same {w w':World}{eb:Nat}{L:LsP}{nx pv:Nat→Nat}(h:zev w eb L nx pv)(e:∀(k:Nat) (c:Array Value),w.heap[k]?=some (Obj.cells c LkP (0,0))→w'.heap[k]?=w.heap[k]?):zev w' eb L nx pv :=
 ⟨(e _ _ h.ends).trans h.ends,fun x hx=>(e _ _ (h.link x hx)).trans (h.link x hx),h.circ,h.len⟩
theorem zzx (O:Nat→Prop)(mb:Nat)(room:Int)(L:LsP)(p:Pl)(hp:zcb p)(w:World)(h:zct w O mb room L)(b:Nat)(v:List Value)(hg:L.get p=some (b,v)):
  Calls Tryz.prog 187 #[zt mb,plV p] w fun r w'=>r= .returned (.tuple #[])∧zf O [LkP] w w'∧zct w' O mb room (L.drop p):=by
 obtain⟨hb,eb,nx,pv,h⟩:=h
 have hk:L.ks.get p=some b:=by rw [zjq,hg];rfl
 have hl:=zqr hg
 obtain⟨D,-,-,hnd,-⟩:=h.map
 obtain⟨l1,l2,eL,eD⟩:=LsP.drop_some hnd hg
 have hc:=h.ring.circ
 rw [eL,List.map_append,List.map_cons] at hc
 obtain⟨hc',np,nn,mp,mn⟩:=hc.strike
 simp only at hc' np nn mp mn
 -- the links around it
 have hP:∃ q u,u.length=44∧w.heap[pv b]?=some (.cells (lkP q u (pv (pv b)) (nx (pv b))) LkP (0,0)):=by
  rcases mp with e | e
  ·rw [e];exact⟨_,_,za7,h.ring.ends⟩
  ·obtain⟨x,hx,ex⟩:=List.mem_map.1 e
   rw [← ex];exact⟨_,_,(h.ring.len x (by rw [eL];simp [hx])).1,h.ring.link x (by rw [eL];simp [hx])⟩
 have hN:∃ q u,u.length=44∧w.heap[nx b]?=some (.cells (lkP q u (pv (nx b)) (nx (nx b))) LkP (0,0)):=by
  rcases mn with e | e
  ·rw [e];exact⟨_,_,za7,h.ring.ends⟩
  ·obtain⟨x,hx,ex⟩:=List.mem_map.1 e
   rw [← ex];exact⟨_,_,(h.ring.len x (by rw [eL];simp [hx])).1,h.ring.link x (by rw [eL];simp [hx])⟩
 obtain⟨qp,up,hPl,hP⟩:=hP
 obtain⟨qn,un,hNl,hN⟩:=hN
 have hLl:=(h.ring.len _ hl).1
 obtain⟨m0,-⟩:=zg h.mem 1 _ rfl
 obtain⟨l4,-⟩:=zg (h.ring.link _ hl) 47 _ (zpc hLl)
 obtain⟨l5,-⟩:=zg (h.ring.link _ hl) 48 _ (zo1 hLl)
 obtain⟨p5,g5⟩:=zg hP 48 _ (zo1 hPl)
 obtain⟨n4,g4⟩:=zg hN 47 _ (zpc hNl)
 have hlook:=fun n o=>(h.map.same (w':=(w.alloc o).drewN n) (Below.heap_alloc w o hb h.map.lt)).look Tryz.underlying185 zlf hp
 rw [hk] at hlook
 simp only [zn7,zt,Option.isSome_some] at hlook
 have y0:∀ o,(w.alloc o).cell? ⟨mb,1,none⟩=some (.map (some hb)):=fun o=>by rw [zk _ _ ⟨mb,1,none⟩ (zb h.mem)];exact m0
 have HH:=za h
 have HL:=za hl
 have HE:=za (And.intro eL eD)
 have HC:=za hc'
 have HW:=za (And.intro hP hN)
 have HWL:=za (And.intro hPl hNl)
 have HK:=za hk
 have HG:=za hg
 have HP:=za hp
 have HM:=za (And.intro mp mn)
 unfold plV at hlook ⊢
 unfold zt
 have HL4:=za l4
 have HL5:=za l5
 have HP5:=za (And.intro p5 g5)
 have HN4:=za (And.intro n4 g4)
 clear m0 l4 l5 p5 g5 n4 g4 hk hl hg hp h eL eD hc' hP hN hc hnd mp mn hPl hNl hLl
 go_enter Tryz.func187,Tryz.ntmps187
 go_wp2_with fail
 go_quiet (fail)
 clear hlook
 have HB0:Hid (Below w.heap.size w ((w.alloc (.cells #[.int .i64 p.1,.int .i64 p.2.1,.int .i64 p.2.2] 126)).drewN nq)):=below_drewN (ze w _) _
 have HK0:Hid (((w.alloc (.cells #[.int .i64 p.1,.int .i64 p.2.1,.int .i64 p.2.2] 126)).drewN nq).heap[w.heap.size]?=some (.cells #[.int .i64 p.1,.int .i64 p.2.1,.int .i64 p.2.2] 126 (0,0))):=heap_alloc_last _ _
 have hz:w.heap.size < ((w.alloc (.cells #[.int .i64 p.1,.int .i64 p.2.1,.int .i64 p.2.2] 126)).drewN nq).heap.size:=zb HK0.o
 clear y0
 generalize (w.alloc (.cells #[.int .i64 p.1,.int .i64 p.2.1,.int .i64 p.2.2] 126)).drewN nq=W1 at *
 have cc:∀ {a:Addr} {x:Value},w.cell? a=some x→W1.cell? a=some x:=fun {a x} e=>by rw [HB0.o.cell (zj e)];exact e
 have q4:W1.cell? ⟨b,47,none⟩=some (.pointer (some ⟨pv b,0,none⟩)):=cc HL4.o
 have q5:W1.cell? ⟨b,48,none⟩=some (.pointer (some ⟨nx b,0,none⟩)):=cc HL5.o
 have r5:W1.cell? ⟨pv b,48,none⟩=some (.pointer (some ⟨nx (pv b),0,none⟩)):=cc HP5.o.1
 have r4:W1.cell? ⟨nx b,47,none⟩=some (.pointer (some ⟨pv (nx b),0,none⟩)):=cc HN4.o.1
 have s5:W1.frozen? ⟨pv b,48,none⟩=false:=by rw [HB0.o.frozen (p:=⟨pv b,48,none⟩) (zj (p:=⟨pv b,48,none⟩) HP5.o.1)];exact HP5.o.2
 have s4:W1.frozen? ⟨nx b,47,none⟩=false:=by rw [HB0.o.frozen (p:=⟨nx b,47,none⟩) (zj (p:=⟨nx b,47,none⟩) HN4.o.1)];exact HN4.o.2
 clear cc
 go_wp2_with fail
 go_region_held3 (fun w'=>w'.cell? ⟨b,47,none⟩=some (.pointer (some ⟨pv b,0,none⟩))∧w'.cell? ⟨b,48,none⟩=some (.pointer (some ⟨nx b,0,none⟩))) (go_keep) (fail)
 rename_i hheld
 clear hheld
 -- what has come of the ring
 have HT:Hid (zf O [LkP] w ((W1.setCell ⟨pv b,48,none⟩ (.pointer (some ⟨nx b,0,none⟩))).setCell ⟨nx b,47,none⟩ (.pointer (some ⟨pv b,0,none⟩))).drew∧zev ((W1.setCell ⟨pv b,48,none⟩ (.pointer (some ⟨nx b,0,none⟩))).setCell ⟨nx b,47,none⟩ (.pointer (some ⟨pv b,0,none⟩))).drew eb (L.drop p) (upd nx (pv b) (nx b)) (upd pv (nx b) (pv b)) ∧
   ∀ k,k < w.heap.size+1→(∀ c,W1.heap[k]?≠some (.cells c LkP (0,0)))→((W1.setCell ⟨pv b,48,none⟩ (.pointer (some ⟨nx b,0,none⟩))).setCell ⟨nx b,47,none⟩ (.pointer (some ⟨pv b,0,none⟩))).drew.heap[k]?=W1.heap[k]?):=by
  have hr1:zev W1 eb L nx pv:=HH.o.ring.same fun k c e=>HB0.o.block k (zb e)
  have hP1:=(HB0.o.block _ (zb HW.o.1)).trans HW.o.1
  have hN1:=(HB0.o.block _ (zb HW.o.2)).trans HW.o.2
  have oP:O (pv b):=by
   rcases HM.o.1 with e | e
   ·rw [e];exact HH.o.own.2.2.1
   ·obtain⟨x,hx,ex⟩:=List.mem_map.1 e
    rw [← ex];exact HH.o.own.2.2.2 x (by rw [HE.o.1];simp [hx])
  have oN:O (nx b):=by
   rcases HM.o.2 with e | e
   ·rw [e];exact HH.o.own.2.2.1
   ·obtain⟨x,hx,ex⟩:=List.mem_map.1 e
    rw [← ex];exact HH.o.own.2.2.2 x (by rw [HE.o.1];simp [hx])
  refine⟨?_,?_,?_⟩
  ·have t1:zf O [LkP] w (W1.setCell ⟨pv b,48,none⟩ (.pointer (some ⟨nx b,0,none⟩))):=(zf.of_below HB0.o).set (.inl oP) hP1 (by simp) _
   exact(t1.set (.inl oN) (zmo HWL.o.2 hN1) (by simp) _).drew
  ·rw [HE.o.2]
   rw [HE.o.1] at hr1
   exact hr1.strike.same fun k c _=>rfl
  ·intro k _ hk
   have e1:k≠nx b:=fun e=>hk _ (e▸hN1)
   have e2:k≠pv b:=fun e=>hk _ (e▸hP1)
   show((W1.setCell _ _).setCell _ _).heap[k]?=_
   rw [heap_setCell_other _ _ _ _ e1,heap_setCell_other _ _ _ _ e2]
 generalize ((W1.setCell ⟨pv b,48,none⟩ (.pointer (some ⟨nx b,0,none⟩))).setCell ⟨nx b,47,none⟩ (.pointer (some ⟨pv b,0,none⟩))).drew=W2 at *
 clear q4 q5 r5 r4 s5 s4 HP5 HN4 HL4 HL5 HW
 have hm1:W1.heap[mb]?=some (.cells #[.int .i64 room,.map (some hb),zt eb] MeP (0,0)):=(HB0.o.block _ (zb HH.o.mem)).trans HH.o.mem
 have hm2:W2.heap[mb]?=some (.cells #[.int .i64 room,.map (some hb),zt eb] MeP (0,0)):=by
  rw [HT.o.2.2 mb (Nat.lt_succ_of_lt (zb HH.o.mem)) (fun c e=>by rw [hm1] at e;simp only [Option.some.injEq,Obj.cells.injEq] at e;exact absurd e.2.1 (by decide))];exact hm1
 have hp2:W2.heap[w.heap.size]?=some (.cells #[.int .i64 p.1,.int .i64 p.2.1,.int .i64 p.2.2] 126 (0,0)):=by
  rw [HT.o.2.2 w.heap.size (Nat.lt_succ_self _) (fun c e=>by rw [HK0.o] at e;simp only [Option.some.injEq,Obj.cells.injEq] at e;exact absurd e.2.1 (by decide))];exact HK0.o
 have hmap2:jc W2.drew hb L.ks:=by
  refine HH.o.map.same ?_
  show W2.heap[hb]?=_
  obtain⟨es,c,e⟩:=HH.o.map.isMap
  rw [HT.o.2.2 hb (Nat.lt_succ_of_lt HH.o.map.lt) (fun c' e'=>by rw [HB0.o.block _ HH.o.map.lt,e] at e';simp at e'),HB0.o.block _ HH.o.map.lt]
 obtain⟨w3,hrun,hmap3,hgrow⟩:=hmap2.del Tryz.underlying185 HP.o HK.o 0
 unfold plV at hrun
 obtain⟨a1,-⟩:=zg hm2 1 _ rfl
 obtain⟨b0,-⟩:=zg hp2 0 _ rfl
 obtain⟨b1,-⟩:=zg hp2 1 _ rfl
 obtain⟨b2,-⟩:=zg hp2 2 _ rfl
 have hm3:w3.heap[mb]?=some (.cells #[.int .i64 room,.map (some hb),zt eb] MeP (0,0)):=(hgrow.block mb (zb hm2) (fun e=>by
  simp only [Option.some.injEq] at e
  obtain⟨es,c,e'⟩:=hmap2.isMap
  rw [← e] at e'
  have:some (Obj.cells _ _ _)=some (Obj.map es c):=hm2.symm.trans e'
  simp at this)).trans hm2
 have hp3:w3.heap[w.heap.size]?=some (.cells #[.int .i64 p.1,.int .i64 p.2.1,.int .i64 p.2.2] 126 (0,0)):=(hgrow.block w.heap.size (zb hp2) (fun e=>by
  simp only [Option.some.injEq] at e
  obtain⟨es,c,e'⟩:=hmap2.isMap
  rw [← e] at e'
  have:some (Obj.cells _ _ _)=some (Obj.map es c):=hp2.symm.trans e'
  simp at this)).trans hp2
 obtain⟨c1,-⟩:=zg hm3 1 _ rfl
 obtain⟨d0,-⟩:=zg hp3 0 _ rfl
 obtain⟨d1,-⟩:=zg hp3 1 _ rfl
 obtain⟨d2,-⟩:=zg hp3 2 _ rfl
 have HM3:=za hmap3
 have HM3b:=za hm3
 have HG3:Hid (W2.grownBy w3 (some hb)):=⟨hgrow.os,hgrow.tape,hgrow.output,hgrow.size,hgrow.block⟩
 have HM2:=za hmap2
 clear hm1 hm2 hp2 hm3 hp3 hmap2 hmap3 hgrow
 go_wp2_with fail
 go_region_held3 (fun w'=>w'.cell? ⟨mb,1,none⟩=some (.map (some hb))∧w'.cell? ⟨w.heap.size,0,none⟩=some (.int .i64 p.1)∧w'.cell? ⟨w.heap.size,1,none⟩=some (.int .i64 p.2.1)∧w'.cell? ⟨w.heap.size,2,none⟩=some (.int .i64 p.2.2)) (go_keep) (fail)
 go_wp2_with fail
 go_end0
 have hin:∀ x∈L.drop p,x∈L:=fun x hx=>(List.mem_filter.1 hx).1
 have hm2:jc W2 hb L.ks:=HM2.o.same rfl
 refine⟨rfl,HT.o.1.map (.inl HH.o.own.2.1) hm2 HG3.o,hb,eb,upd nx (pv b) (nx b),upd pv (nx b) (pv b),⟨HH.o.own.1,HH.o.own.2.1,HH.o.own.2.2.1,fun x hx=>HH.o.own.2.2.2 x (hin x hx)⟩,HM3b.o,?_,?_,fun x hx=>HH.o.ok x (hin x hx)⟩
 ·exact HT.o.2.1.same fun k c e=>HG3.o.block k (zb e) (hm2.not e)
 ·rw [z36];exact HM3.o
theorem z4h (O:Nat→Prop)(mb:Nat)(room:Int)(L:LsP)(p:Pl)(hp:zcb p)(w:World)(h:zct w O mb room L)(hg:L.get p=none):
  Calls Tryz.prog 187 #[zt mb,plV p] w fun r w'=>r= .returned (.tuple #[])∧Below w.heap.size w w':=by
 obtain⟨hb,eb,nx,pv,h⟩:=h
 have hk:L.ks.get p=none:=by rw [zjq,hg];rfl
 obtain⟨m0,-⟩:=zg h.mem 1 _ rfl
 have hlook:=fun n o=>(h.map.same (w':=(w.alloc o).drewN n) (Below.heap_alloc w o hb h.map.lt)).look Tryz.underlying185 zlf hp
 rw [hk] at hlook
 simp only [zn7,Option.isSome_none] at hlook
 have x0:mb < w.heap.size:=zb h.mem
 have y0:∀ o,(w.alloc o).cell? ⟨mb,1,none⟩=some (.map (some hb)):=fun o=>by rw [zk _ _ ⟨mb,1,none⟩ x0];exact m0
 unfold plV at hlook ⊢
 unfold zt
 clear m0 hk hg hp h
 go_enter Tryz.func187,Tryz.ntmps187
 go_wp2_with fail
 go_quiet (fail)
 go_wp2_with fail
 first | go_end0 | refine bodyPost_ret (results_none rfl _ _ _) rfl ?_
 exact⟨rfl,below_drewN (ze w _) _⟩
theorem zct.stay {w w':World}{O O1 O':Nat→Prop}{T:List Nat}{mb:Nat}{room:Int}{L:LsP}(h:zct w O mb room L)(ht:zf O1 T w w')(h1:∀ k,O k→¬ O1 k)(h2:∀ k,O k→O' k):zct w' O' mb room L:=by
 obtain⟨hb,eb,nx,pv,h⟩:=h
 have same:∀ k,O k→k < w.heap.size→w'.heap[k]?=w.heap[k]?:=fun k hk hlt=>by
  rcases ht.block k hlt with e | ⟨e,-⟩
  ·exact e
  ·exact absurd e (h1 k hk)
 refine⟨hb,eb,nx,pv,⟨h2 _ h.own.1,h2 _ h.own.2.1,h2 _ h.own.2.2.1,fun x hx=>h2 _ (h.own.2.2.2 x hx)⟩,(same _ h.own.1 (zb h.mem)).trans h.mem,?_,h.map.same (same _ h.own.2.1 h.map.lt),h.ok⟩
 exact⟨(same _ h.own.2.2.1 (zb h.ring.ends)).trans h.ring.ends,fun x hx=>(same _ (h.own.2.2.2 x hx) (zb (h.ring.link x hx))).trans (h.ring.link x hx),h.ring.circ,h.ring.len⟩
theorem zct.below {w w':World}{O O':Nat→Prop}{mb:Nat}{room:Int}{L:LsP}(h:zct w O mb room L)(hb:Below w.heap.size w w')(h2:∀ k,O k→O' k):zct w' O' mb room L :=
 h.stay (O1:=fun _=>False) (T:=[]) (.of_below hb) (fun _ _ h=>h) h2
theorem zpf (O:Nat→Prop)(mb:Nat)(room:Int)(L:LsP)(p:Pl)(hp:zcb p)(w:World)(h:zct w O mb room L):
  Calls Tryz.prog 187 #[zt mb,plV p] w fun r w'=>r= .returned (.tuple #[])∧zf O [LkP] w w'∧zct w' O mb room (L.drop p):=by
 cases hg:L.get p with
 | some x=>exact zzx O mb room L p hp w h x.1 x.2 hg
 | none =>
  refine(z4h O mb room L p hp w h hg).mono ?_
  rintro r w' ⟨rfl,hb⟩
  rw [LsP.drop_none hg]
  exact⟨rfl,.of_below hb,h.below hb (fun _ h=>h)⟩
end
end Go.Proofs.YtinhekmmdlhfkaaGreatDoor
