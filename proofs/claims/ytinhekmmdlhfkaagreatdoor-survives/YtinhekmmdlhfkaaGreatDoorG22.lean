import Derived.Test.YtinhekmmdlhfkaaGreatDoorG21
import Derived.WalkKit
import Derived.LaidEql
import Derived.Stop.Asserts
import Derived.RowKitTokens
import Derived.Test.YtinhekmmdlhfkaaGreatDoorG14
import Derived.Laws.IdiomCopy
import Derived.Test.YtinhekmmdlhfkaaGreatDoorG10
import Derived.Test.YtinhekmmdlhfkaaGreatDoorG06
namespace Go.Proofs.YtinhekmmdlhfkaaGreatDoor
section
open Go.RowKit Go.Extern.Stop Go.Stop Go.Extern
set_option maxRecDepth 100000
abbrev tyP (t:Nat):Value:= .pointer (some ⟨16,t,none⟩)
abbrev tyV (t:Nat):Value:= .iface 232 (.agg #[tyP t])
theorem zza (v:Value)(w:World):(ReflectliteType.typeOf #[.iface 326 v]).run Tryz.prog w= .ok (tyV 326) w:=by kernel_rfl
theorem zuf (v:Value)(w:World):(ReflectliteType.typeOf #[.iface 113 v]).run Tryz.prog w= .ok (tyV 113) w:=by kernel_rfl
theorem zyx (v:Value)(w:World):(ReflectliteType.typeOf #[.iface 112 v]).run Tryz.prog w= .ok (tyV 112) w:=by kernel_rfl
theorem zk5 (n:Nat)(v:Value)(w:World):(Go.method (n+1) 232 v "Comparable").run Tryz.prog w= .ok (248,v) w:=by kernel_rfl
theorem zzl (n:Nat)(v:Value)(w:World):(Go.method (n+1+1) 232 (.agg #[v]) "Kind").run Tryz.prog w= .ok (230,v) w:=by kernel_rfl
theorem zy2 (n:Nat)(v:Value)(w:World):(Go.method (n+1) 232 v "Elem").run Tryz.prog w= .ok (249,v) w:=by kernel_rfl
theorem zlb (n:Nat)(v:Value)(w:World):(Go.method (n+1) 232 v "Implements").run Tryz.prog w= .ok (250,v) w:=by kernel_rfl
theorem zla (n:Nat)(v:Value)(w:World):(Go.method (n+1) 232 v "AssignableTo").run Tryz.prog w= .ok (247,v) w:=by kernel_rfl
theorem zkq (n:Nat)(v:Value)(w:World):(Go.method (n+1) 113 v "Unwrap").run Tryz.prog w= .ok (241,v) w:=by kernel_rfl
theorem zvc (v:Value)(xT:TypeId)(w:World):(Instr.typeAssert (.iface 113 v) xT 234 true).run Tryz.prog w= .ok (.tuple #[.nilIface,.bool false]) w:=run_typeAssert_lacksB Tryz.underlying234 (by kernel_rfl) (by kernel_rfl) v xT w
theorem zuo (v:Value)(xT:TypeId)(w:World):(Instr.typeAssert (.iface 113 v) xT 242 true).run Tryz.prog w= .ok (.tuple #[.nilIface,.bool false]) w:=run_typeAssert_lacksB Tryz.underlying242 (by kernel_rfl) (by kernel_rfl) v xT w
theorem zfu (v:Value)(xT:TypeId)(w:World):(Instr.typeAssert (.iface 113 v) xT 237 true).run Tryz.prog w= .ok (.tuple #[.iface 113 v,.bool true]) w:=run_typeAssert_hasB Tryz.underlying237 (by kernel_rfl) v xT w
theorem zvo (t:Addr)(w:World):(ReflectliteValue.unpack (.iface 118 (.pointer (some t)))).run Tryz.prog w= .ok (.agg #[tyP 118,.pointer (some ⟨w.heap.size,0,none⟩),.int .u64 150]) (w.alloc (.cells #[.pointer (some t)] 118)):=by kernel_rfl
theorem zus (t:Addr)(w:World):(ReflectliteValue.unpack (.iface 112 (.pointer (some t)))).run Tryz.prog w= .ok (.agg #[tyP 112,.pointer (some ⟨w.heap.size,0,none⟩),.int .u64 150]) (w.alloc (.cells #[.pointer (some t)] 112)):=by kernel_rfl
theorem z1z (a:Addr)(w:World):(ReflectliteValue.methodAny (ReflectliteValue.valueError "reflectlite.Value.Type" 0) (fun t _ _ _=>ReflectliteType.toType t) #[.agg #[tyP 118,.pointer (some a),.int .u64 150]]).run Tryz.prog w= .ok (tyV 118) w:=by kernel_rfl
theorem z1v (w:World):((ReflectliteType.abiMethod fun t=>(fun a:Nat=>Value.int IntKind.u8 (a:Int)) <$> Rtype.kind t) #[tyP 118]).run Tryz.prog w= .ok (.int .u8 22) w:=by kernel_rfl
theorem z2i (w:World):((ReflectliteType.abiMethod fun t=>(fun a:Nat=>Value.int IntKind.u8 (a:Int)) <$> Rtype.kind t) #[tyP 112]).run Tryz.prog w= .ok (.int .u8 22) w:=by kernel_rfl
theorem z4a (w:World):(ReflectliteType.method ReflectliteType.elem #[.agg #[tyP 118]]).run Tryz.prog w= .ok (tyV 112) w:=by kernel_rfl
theorem z0t (w:World):(ReflectliteType.relation "Implements" ReflectliteType.implements_ #[.agg #[tyP 112],tyV 70]).run Tryz.prog w= .ok (.bool true) w:=by kernel_rfl
theorem z58 (w:World):(ReflectliteType.relation "AssignableTo" ReflectliteType.assignableTo #[.agg #[tyP 112],tyV 112]).run Tryz.prog w= .ok (.bool true) w:=by kernel_rfl
theorem z1c (w:World):(ReflectliteType.relation "AssignableTo" ReflectliteType.assignableTo #[.agg #[tyP 113],tyV 112]).run Tryz.prog w= .ok (.bool false) w:=by kernel_rfl
theorem zop (a:Addr)(w:World):(ReflectliteValue.parts (.agg #[tyP 118,.pointer (some a),.int .u64 150])).run Tryz.prog w= .ok (some (118,a,150)) w:=by kernel_rfl
theorem zz5 (a:Addr)(w:World):(ReflectliteValue.parts (.agg #[tyP 112,.pointer (some a),.int .u64 150])).run Tryz.prog w= .ok (some (112,a,150)) w:=by kernel_rfl
theorem z1e (a:Addr)(w:World):(ReflectliteValue.parts (.agg #[tyP 112,.pointer (some a),.int .u64 406])).run Tryz.prog w= .ok (some (112,a,406)) w:=by kernel_rfl
theorem zts (w:World):(Rtype.elem? 118).run Tryz.prog w= .ok (some 112) w:=by kernel_rfl
theorem z8s (p:Addr)(w:World):(ReflectliteValue.mk 112 p ReflectliteValue.flagAddr).run Tryz.prog w= .ok (.agg #[tyP 112,.pointer (some p),.int .u64 406]) w:=by kernel_rfl
theorem zt7 (w:World):(Rtype.directlyAssignable 112 112).run Tryz.prog w= .ok true w:=by kernel_rfl
theorem zya (a p:Addr)(W:World)(ha:W.cell? a=some (.pointer (some p))):
  (ReflectliteValue.method (ReflectliteValue.valueError "reflectlite.Value.IsNil" 0) ReflectliteValue.isNil #[.agg #[tyP 118,.pointer (some a),.int .u64 150]]).run Tryz.prog W= .ok (.bool false) W:=by
 change (Bind.bind (ReflectliteValue.parts (.agg #[tyP 118,.pointer (some a),.int .u64 150])) fun x=>_).run Tryz.prog W=_
 simp only [Sem.run_bind,zop,Result.andThen]
 simp [ReflectliteValue.isNil,loadVar,isAgg,underlying,Tryz.underlying118,ha,Result.andThen]
theorem zxz (a p:Addr)(W:World)(ha:W.cell? a=some (.pointer (some p))):
  (ReflectliteValue.method (ReflectliteValue.valueError "reflectlite.Value.Elem" 0) ReflectliteValue.elem #[.agg #[tyP 118,.pointer (some a),.int .u64 150]]).run Tryz.prog W= .ok (.agg #[tyP 112,.pointer (some p),.int .u64 406]) W:=by
 change (Bind.bind (ReflectliteValue.parts (.agg #[tyP 118,.pointer (some a),.int .u64 150])) fun x=>_).run Tryz.prog W=_
 simp only [Sem.run_bind,zop,Result.andThen]
 simp [ReflectliteValue.elem,loadVar,isAgg,underlying,Tryz.underlying118,ha,Result.andThen,zts,z8s]
theorem z5s (ta b e:Addr)(old:Value)(W:World)(hb:W.cell? b=some (.pointer (some e)))(ht:W.cell? ta=some old)(hf:W.frozen? ta=false):
  (ReflectliteValue.set #[.agg #[tyP 112,.pointer (some ta),.int .u64 406],.agg #[tyP 112,.pointer (some b),.int .u64 150]]).run Tryz.prog W= .ok (.tuple #[]) (W.setCell ta (.pointer (some e))):=by
 change (Bind.bind (ReflectliteValue.parts (.agg #[tyP 112,.pointer (some ta),.int .u64 406])) fun x=>Bind.bind (ReflectliteValue.parts (.agg #[tyP 112,.pointer (some b),.int .u64 150])) fun y=>_).run Tryz.prog W=_
 simp only [Sem.run_bind,z1e,zz5,Result.andThen]
 simp [ReflectliteValue.flagAddr,loadVar,isAgg,underlying,Tryz.underlying112,hb,Result.andThen,zt7,storeVar,Value.cells,storeCells,Addr.add]
 rw [run_store Tryz.prog W ta _ _ (by rfl)]
 simp [ht,hf]
end
section
open Go.RowKit Go.Extern.Stop Go.Stop Go.Extern
set_option maxRecDepth 100000
theorem z0q (w:World):(callFunc 248 #[.agg #[tyP 326]]).run Tryz.prog w= .ok (.value (.bool true)) w:=by kernel_rfl
theorem zqc (pg:Nat)(b:Addr)(w:World)(h1:w.cell? ⟨pg,1,none⟩=some (.iface 326 (.pointer (some b)))):
  Calls Tryz.prog 46 #[.iface 113 (.pointer (some ⟨pg,0,none⟩)),.iface 326 (.pointer (some b))] w fun e w'=>e= .returned (.bool true)∧w'=w:=by
 obtain⟨i,hi,hcmp⟩:=Option.map_eq_some_iff.1 zc1
 obtain⟨j,hj,hjs⟩:=Option.map_eq_some_iff.1 zc5
 have x1:=@run_callFunc_extern Tryz.prog 75 _ ReflectliteType.typeOf Tryz.func75 (by kernel_rfl) (by kernel_rfl) (by kernel_rfl) (by kernel_rfl)
 have y1:=zza
 have y2:=z0q
 have y3:=zk5
 have y4:=zvc
 have y5:=zfu
 have y6:=zkq
 have y7:=run_eql_iface_ptr_same (P:=Tryz.prog) w b Tryz.underlying70 Tryz.underlying326 hi hcmp hj
 have y8:=run_eql_iface_types (P:=Tryz.prog) 113 326 (.pointer (some ⟨pg,0,none⟩)) (.pointer (some b)) Tryz.underlying70 (by decide) w
 go_enter Tryz.func46,Tryz.ntmps46
 go_wp2
 refine wp_loop_rounds 2 ?_
 rw [rounds_succ]
 go_wp2
 rw [rounds_succ]
 go_wp2
 go_ret
 exact⟨rfl,rfl⟩
end
section
set_option maxHeartbeats 1000000
open Go.RowKit Go.Extern.Stop Go.Stop Go.Extern
set_option maxRecDepth 100000
theorem z8u (b:Addr)(w:World):
  Calls Tryz.prog 46 #[.nilIface,.iface 326 (.pointer (some b))] w fun e w'=>e= .returned (.bool false)∧w'=w:=by
 have y:(binOp .eql 70 .nilIface (.iface 326 (.pointer (some b)))).run Tryz.prog w= .ok (.bool false) w:=by kernel_rfl
 go_enter Tryz.func46,Tryz.ntmps46
 go_wp2
 go_ret
 exact⟨rfl,rfl⟩
end
section
open Go.RowKit
set_option maxRecDepth 100000
abbrev zxf:Array Value:=#[.bool false,.bool false,.int .u8 0,.int .u8 0,.int .u8 0,.int .u8 0,.int .u8 0,.int .u8 0,.int .u8 0,.int .u8 0,.slice none 0 0]
theorem z74:(Builtin.zeroCells zxf 0).toList=fcs (List.replicate 0 Px.no):=by kernel_rfl
theorem z86:(Builtin.zeroCells zxf 1).toList=fcs (List.replicate 1 Px.no):=by kernel_rfl
theorem z7x:(Builtin.zeroCells zxf 2).toList=fcs (List.replicate 2 Px.no):=by kernel_rfl
theorem z8g:(Builtin.zeroCells zxf 3).toList=fcs (List.replicate 3 Px.no):=by kernel_rfl
theorem z9a (n:Nat)(hn:n < 4):(Builtin.zeroCells zxf n).toList=fcs (List.replicate n Px.no):=by
 match n,hn with
 | 0,_=>exact z74
 | 1,_=>exact z86
 | 2,_=>exact z7x
 | 3,_=>exact z8g
theorem zt0 (n:Nat):∀ x∈List.replicate n Px.no,x.ok:=fun x hx=>by rw [List.eq_of_mem_replicate hx];exact Px.no_ok
theorem zn.there' {w:World}{fb:Nat}{xs:List Px}(h:zn w fb xs)(hx:FOk xs)(j:Nat)(hj:j < 44):(w.cell? ⟨fb,j,none⟩).isSome=true∧w.frozen? ⟨fb,j,none⟩=false:=by
 have:=xg h hx j hj
 rwa [Nat.zero_add] at this
theorem zzt {fb:Nat}{xs:List Px}(hx:FOk xs){k:Nat}(h0:0 < k)(hk:k < 4){w:World}(h:zn w fb xs)(c:Nat)(ty:TypeId):
  (Builtin.clear_ #[305] ty #[.slice (some ⟨fb,k*11,none⟩) (4 - k) c]).run Tryz.prog w= .ok (.tuple #[]) (w.setCells fb (k*11) (fcs (List.replicate (4 - k) .no))) ∧
  zn (w.setCells fb (k*11) (fcs (List.replicate (4 - k) .no))) fb (xs.take k++List.replicate (4 - k) .no):=by
 have hl:(fcs (List.replicate (4 - k) Px.no)).length=11*(4 - k):=by rw [zhm (zt0 _),List.length_replicate]
 have hst:=run_storeCells_cells (P:=Tryz.prog) fb (k*11) (fcs (List.replicate (4 - k) .no)) 0 w
  (fun j hj=>by rw [Nat.add_zero];exact(h.there' hx _ (by omega)).1)
  (fun j hj=>by rw [Nat.add_zero];exact(h.there' hx _ (by omega)).2)
  (ji (zt0 _))
 simp only [Nat.add_zero] at hst
 have hz:(Builtin.zeroCells zxf (4 - k)).toList=fcs (List.replicate (4 - k) Px.no):=z9a (4 - k) (by omega)
 obtain⟨m,hm⟩:∃ m,4 - k=m+1:=⟨3 - k,by omega⟩
 refine⟨?_,?_⟩
 ·rw [hm] at hst hz ⊢
  simp [Builtin.clear_,run_underlying Tryz.underlying305,Value.cells]
  rw [hz,hst]
  rfl
 ·unfold zn
  rw [zan _ _ h (by rw [hl,hx.len];omega),hl]
  congr 3
  obtain⟨a,b,c',d,rfl⟩:=zez hx.1
  have ha:=Px.cs_len (hx.2 a (by simp))
  have hb:=Px.cs_len (hx.2 b (by simp))
  have hc:=Px.cs_len (hx.2 c' (by simp))
  have hd:=Px.cs_len (hx.2 d (by simp))
  have ht:∀(ys zs:List Px),(∀ y∈ys,y.ok)→(fcs (ys++zs)).take (ys.length*11)=fcs ys:=fun ys zs hy=>by
   have:fcs (ys++zs)=fcs ys++fcs zs:=by simp [fcs]
   rw [this,show ys.length*11=(fcs ys).length by rw [zhm hy];omega,List.take_left]
  have hdr:(fcs [a,b,c',d]).drop (k*11+11*(4 - k))=[]:=List.drop_eq_nil_of_le (by rw [hx.len];omega)
  have hsp:fcs ([a,b,c',d].take k++List.replicate (4 - k) Px.no)=fcs ([a,b,c',d].take k)++fcs (List.replicate (4 - k) Px.no):=by simp [fcs]
  have e:=ht ([a,b,c',d].take k) ([a,b,c',d].drop k) (fun y hy=>hx.2 y (List.mem_of_mem_take hy))
  rw [List.take_append_drop,show([a,b,c',d].take k).length=k by simp;omega] at e
  rw [hdr,hsp,e]
  simp
end
section
open Go.RowKit
set_option maxRecDepth 100000
attribute [local go_sem ↓] yq yk yt yp yn yo yu yl
theorem zia {σ:Type}{fe:σ→List UInt8→(List UInt8×Bool)×σ}{s:σ}{p:Pl}{f:Fl}(h:(yw fe s p).1=some f):qy fe s p=(some f,(yw fe s p).2):=by
 unfold qy
 split
 ·rename_i f' s1 e
  rw [e] at h ⊢
  exact Prod.ext h rfl
 ·rename_i s1 e
  rw [e] at h
  simp at h
theorem zgk {σ:Type}{fe:σ→List UInt8→(List UInt8×Bool)×σ}{s:σ}{p:Pl}(h:(yw fe s p).1=none)(h4:p.2.2=4):qy fe s p=(none,(yw fe s p).2):=by
 unfold qy
 split
 ·rename_i f' s1 e
  rw [e] at h
  simp at h
 ·rename_i s1 e
  rw [e,if_pos h4]
theorem zh3 {σ:Type}{fe:σ→List UInt8→(List UInt8×Bool)×σ}{s:σ}{p:Pl}(h:(yw fe s p).1=none)(h4:p.2.2≠4):
  qy fe s p=(((yw fe (yw fe s p).2 (p.1,p.2.1,4)).1).map (zft p.2.2),(yw fe (yw fe s p).2 (p.1,p.2.1,4)).2):=by
 unfold qy
 split
 ·rename_i f' s1 e
  rw [e] at h
  simp at h
 ·rename_i s1 e
  rw [e,if_neg h4]
  simp only
  split
  ·rename_i e2
   rw [e2];rfl
  ·rename_i e2
   rw [e2];rfl
theorem z5v {w:World}{xs:List Px}{f:Fl}(h:j4 w xs f){k:Nat}(hk:k≤4):j4 w (xs.take k++List.replicate (4 - k) .no) (zft k f):=by
 obtain⟨hx,hf,hp⟩:=h
 obtain⟨a,b,c,d,rfl⟩:=zez hx
 obtain⟨a',b',c',d',rfl⟩:=zez hf
 have h0:=hp 0 (by omega)
 have h1:=hp 1 (by omega)
 have h2:=hp 2 (by omega)
 have h3:=hp 3 (by omega)
 have hno:=zcq.none w
 refine⟨by simp;omega,by simp [zft];omega,fun j hj=>?_⟩
 match k,hk,j,hj with
 | 0,_,0,_ | 0,_,1,_ | 0,_,2,_ | 0,_,3,_=>exact hno
 | 1,_,0,_=>exact h0
 | 1,_,1,_ | 1,_,2,_ | 1,_,3,_=>exact hno
 | 2,_,0,_=>exact h0
 | 2,_,1,_=>exact h1
 | 2,_,2,_ | 2,_,3,_=>exact hno
 | 3,_,0,_=>exact h0
 | 3,_,1,_=>exact h1
 | 3,_,2,_=>exact h2
 | 3,_,3,_=>exact hno
 | 4,_,0,_=>exact h0
 | 4,_,1,_=>exact h1
 | 4,_,2,_=>exact h2
 | 4,_,3,_=>exact h3
end
section
theorem zio (f:Fl)(k:Nat):(qx f k).length=f.length:=by simp [qx]
theorem zag (f:Fl)(k i:Nat):(qx f k).getD i .no=if i=k∧k < f.length then { f.getD i .no with fits:=true } else f.getD i .no:=by
 unfold qx
 simp only [List.getD_eq_getElem?_getD,List.getElem?_modify]
 by_cases h:k=i
 ·subst h
  by_cases hk:k < f.length
  ·simp [hk]
  ·simp [hk]
 ·have:¬ i=k:=fun e=>h e.symm
  simp [h,this]
theorem zzu (f c:Fl)(h:f.length=c.length):(zb1 f c).length=f.length:=by simp [zb1,h]
theorem zbt (f c:Fl)(h:f.length=c.length)(i:Nat)(hi:i < f.length):(zb1 f c).getD i .no=if (f.getD i .no).fits then f.getD i .no else c.getD i .no:=by
 have hc:i < c.length:=by omega
 unfold zb1
 simp only [List.getD_eq_getElem?_getD,List.getElem?_zipWith,List.getElem?_eq_getElem hi,List.getElem?_eq_getElem hc,Option.getD_some]
theorem z4p (f:Fl)(i:Nat):(zip f).getD i .no=if (f.getD i .no).fits then f.getD i .no else .no:=by
 unfold zip
 simp only [List.getD_eq_getElem?_getD,List.getElem?_map]
 by_cases hi:i < f.length
 ·simp [List.getElem?_eq_getElem hi]
 ·simp [List.getElem?_eq_none (Nat.not_lt.1 hi),Pc.no]
theorem zw8 (f:Fl)(k i:Nat)(p:Pc):(f.set k p).getD i .no=if i=k∧k < f.length then p else f.getD i .no:=by
 simp only [List.getD_eq_getElem?_getD,List.getElem?_set]
 by_cases h:k=i
 ·subst h
  by_cases hk:k < f.length
  ·simp [hk]
  ·simp [hk]
 ·have:¬ i=k:=fun e=>h e.symm
  simp [h,this]
theorem zmn (w:Nat)(d:List UInt8):(ze4 w d).length=4:=by simp [ze4]
theorem zpm (es:List (List UInt8)):(zhw es).length=4:=by simp [zhw]
theorem zh2 (w:Nat)(d:List UInt8)(k:Nat)(hk:k < 4):(ze4 w d).getD k .no=if k < w then ⟨true,false,(d.drop (8*k)).take 8,[]⟩ else .no:=by
 simp [ze4,List.getD_eq_getElem?_getD,hk]
theorem zhf (es:List (List UInt8))(k:Nat)(hk:k < 4):(zhw es).getD k .no=if k < es.length then ⟨true,false,qu (es.getD k []),es.getD k []⟩ else .no:=by
 simp [zhw,List.getD_eq_getElem?_getD,hk]
theorem zkg (w:Int)(f:Fl)(k:Nat):(zft w f).getD k .no=if k < w.toNat then f.getD k .no else .no:=by
 unfold zft
 simp only [List.getD_eq_getElem?_getD,List.getElem?_append,List.length_take,List.getElem?_take,List.getElem?_replicate]
 by_cases h:k < w.toNat
 ·by_cases hf:k < f.length
  ·rw [if_pos (by omega)];simp [h]
  ·rw [if_neg (by omega)]
   rw [List.getElem?_eq_none (Nat.not_lt.1 hf)]
   split<;>simp
 ·rw [if_neg (by omega)]
  split<;>simp
theorem zpg (w:Int)(f:Fl)(hf:f.length=4)(hw:w≤4):(zft w f).length=4:=by
 unfold zft
 simp [hf];omega
structure zt8 (w:Int)(f:Fl):Prop where
 len:f.length=4
 fits:∀ k,(f.getD k .no).fits=false
 there:∀ k,k < 4→(f.getD k .no).there=decide ((k:Int) < w)
theorem zh5 {l w:Int}{d:List UInt8}{f:Fl}(h:zbu l w d=some f):zt8 w f:=by
 unfold zbu at h
 by_cases hl:l=-1
 ·rw [if_pos hl] at h
  cases hu:zch d with
  | none=>rw [hu] at h;simp at h
  | some es =>
   rw [hu] at h
   by_cases he:(es.length:Int)=w
   ·simp only [he,if_true,Option.some.injEq] at h
    subst h
    refine⟨zpm _,fun k=>?_,fun k hk=>?_⟩
    ·by_cases hk:k < 4
     ·rw [zhf _ _ hk];split<;>rfl
     ·rw [List.getD_eq_getElem?_getD,List.getElem?_eq_none (by rw [zpm];omega)];rfl
    ·rw [zhf _ _ hk]
     by_cases hke:k < es.length
     ·rw [if_pos hke];simp;omega
     ·rw [if_neg hke];simp [Pc.no];omega
   ·simp [he] at h
 ·rw [if_neg hl] at h
  by_cases he:(d.length:Int)=w*8
  ·rw [if_pos he] at h
   simp only [Option.some.injEq] at h
   subst h
   refine⟨zmn _ _,fun k=>?_,fun k hk=>?_⟩
   ·by_cases hk:k < 4
    ·rw [zh2 _ _ _ hk];split<;>rfl
    ·rw [List.getD_eq_getElem?_getD,List.getElem?_eq_none (by rw [zmn];omega)];rfl
   ·rw [zh2 _ _ _ hk]
    by_cases hke:k < w.toNat
    ·rw [if_pos hke];simp;omega
    ·rw [if_neg hke];simp [Pc.no];omega
  ·rw [if_neg he] at h;simp at h
theorem zvg {w:Int}{f:Fl}(h:zt8 4 f)(hw:w≤4):zt8 w (zft w f):=by
 refine⟨zpg w f h.len hw,fun k=>?_,fun k hk=>?_⟩
 ·rw [zkg]
  split
  ·exact h.fits k
  ·rfl
 ·rw [zkg]
  by_cases hkw:k < w.toNat
  ·rw [if_pos hkw,h.there k hk];simp;omega
  ·rw [if_neg hkw];simp [Pc.no];omega
section
variable {σ : Type} {fe : σ → List UInt8 → (List UInt8 × Bool) × σ}
theorem zk2 {s s':σ}{p:Pl}{f:Fl}(h:yw fe s p=(some f,s')):zt8 p.2.2 f:=by
 unfold yw at h
 simp only [Prod.mk.injEq] at h
 obtain⟨h,-⟩:=h
 split at h
 ·exact zh5 h
 ·simp at h
theorem zif {s s':σ}{p:Pl}{f:Fl}(hp:p.2.2≤4)(h:qy fe s p=(some f,s')):zt8 p.2.2 f:=by
 unfold qy at h
 cases h1:yw fe s p with
 | mk o s1 =>
  rw [h1] at h
  cases o with
  | some g =>
   simp only [Prod.mk.injEq,Option.some.injEq] at h
   obtain⟨rfl,-⟩:=h
   exact zk2 h1
  | none =>
   by_cases h4:p.2.2=4
   ·simp [h4] at h
   ·simp only [h4,if_false] at h
    cases h2:yw fe s1 (p.1,p.2.1,4) with
    | mk o2 s2 =>
     rw [h2] at h
     cases o2 with
     | none=>simp at h
     | some g =>
      simp only [Prod.mk.injEq,Option.some.injEq] at h
      obtain⟨rfl,-⟩:=h
      exact zvg (zk2 h2) hp
theorem Mm.get_mem {m:Mm}{k:Pl}{f:Fl}(h:m.get k=some f):(k,f)∈m:=by
 unfold Mm.get at h
 cases e:m.find? (fun x=>decide (x.1=k)) with
 | none=>rw [e] at h;simp at h
 | some x =>
  rw [e] at h
  simp only [Option.some.injEq] at h
  have h1:=List.find?_some e
  have h2:=List.mem_of_find?_eq_some e
  simp only [decide_eq_true_eq] at h1
  obtain⟨a,b⟩:=x
  simp only at h h1
  subst h;subst h1
  exact h2
theorem Mm.get_none {m:Mm}{k:Pl}(h:m.get k=none):∀ x∈m,x.1≠k:=by
 unfold Mm.get at h
 cases e:m.find? (fun x=>decide (x.1=k)) with
 | some x=>rw [e] at h;simp at h
 | none =>
  intro x hx
  have:=List.find?_eq_none.1 e x hx
  simpa using this
theorem Mm.drop_mem {m:Mm}{k:Pl}{x:Pl×Fl}:x∈m.drop k↔x∈m∧x.1≠k:=by
 unfold Mm.drop
 rw [List.mem_filter]
 simp
theorem Mm.drop_ok {m:Mm}(h:m.ok)(k:Pl):(m.drop k).ok:=by
 unfold Mm.ok Mm.drop at *
 exact(List.filter_sublist.map _).nodup h
theorem Mm.snoc_ok {m:Mm}(h:m.ok)(k:Pl)(f:Fl):(m.drop k++[(k,f)]:Mm).ok:=by
 have hd:=Mm.drop_ok h k
 unfold Mm.ok at *
 rw [List.map_append,List.nodup_append]
 refine⟨hd,by simp,?_⟩
 intro a ha b hb
 simp only [List.map_cons,List.map_nil,List.mem_singleton] at hb
 subst hb
 obtain⟨x,hx,rfl⟩:=List.mem_map.1 ha
 exact(Mm.drop_mem.1 hx).2
theorem Mm.put_mem {room:Int}{m:Mm}{k:Pl}{f:Fl}{x:Pl×Fl}(h:x∈m.put room k f):x=(k,f)∨(x∈m∧x.1≠k):=by
 have h1:x∈m.drop k++[(k,f)]:=by
  unfold Mm.put at h
  split at h
  ·exact List.mem_of_mem_tail h
  ·exact h
 rcases List.mem_append.1 h1 with h | h
 ·exact .inr (Mm.drop_mem.1 h)
 ·exact .inl (by simpa using h)
theorem Mm.put_ok {room:Int}{m:Mm}(h:m.ok)(k:Pl)(f:Fl):(m.put room k f).ok:=by
 have:=Mm.snoc_ok h k f
 unfold Mm.put
 split
 ·unfold Mm.ok at *
  rw [List.map_tail]
  exact(List.tail_sublist _).nodup this
 ·exact this
theorem Mm.set_keys (m:Mm)(k:Pl)(f:Fl):(m.set k f).map (·.1)=m.map (·.1):=by
 unfold Mm.set
 rw [List.map_map]
 apply List.map_congr_left
 intro x _
 simp only [Function.comp_apply]
 split
 ·rename_i h;exact h.symm
 ·rfl
theorem Mm.set_ok {m:Mm}(h:m.ok)(k:Pl)(f:Fl):(m.set k f).ok:=by
 unfold Mm.ok at *
 rw [Mm.set_keys];exact h
theorem Mm.set_mem {m:Mm}{k:Pl}{f:Fl}{x:Pl×Fl}(h:x∈m.set k f):x=(k,f)∨(x∈m∧x.1≠k):=by
 unfold Mm.set at h
 obtain⟨y,hy,e⟩:=List.mem_map.1 h
 by_cases hk:y.1=k
 ·rw [if_pos hk] at e;exact .inl e.symm
 ·rw [if_neg hk] at e;subst e;exact .inr ⟨hy,hk⟩
def Gd (V:Pl→Nat→Pc→Prop)(p:Pl)(k:Nat)(c:Pc):Prop:=(c.fits=true→c.there=true)∧(c.there=true→V p k c)
def GdF (V:Pl→Nat→Pc→Prop)(p:Pl)(f:Fl):Prop:=f.length=4∧∀ k,k < 4→Gd V p k (f.getD k .no)
def GdM (V:Pl→Nat→Pc→Prop)(m:Mm):Prop:=m.ok∧∀ x∈m,GdF V x.1 x.2
theorem zof (V:Pl→Nat→Pc→Prop)(p:Pl)(k:Nat):Gd V p k .no:=⟨by simp [Pc.no],by simp [Pc.no]⟩
theorem z87 (V:Pl→Nat→Pc→Prop)(p:Pl):GdF V p .no:=⟨rfl,fun k hk=>by
 match k,hk with
 | 0,_=>exact zof _ _ _
 | 1,_=>exact zof _ _ _
 | 2,_=>exact zof _ _ _
 | 3,_=>exact zof _ _ _⟩
theorem GdM.get {V:Pl→Nat→Pc→Prop}{m:Mm}(h:GdM V m){k:Pl}{f:Fl}(e:m.get k=some f):GdF V k f:=h.2 _ (Mm.get_mem e)
theorem GdM.known {V:Pl→Nat→Pc→Prop}{pr nd:Mm}(h:GdM V pr)(h':GdM V nd)(p:Pl):GdF V p (yx pr nd p):=by
 unfold yx
 cases e:nd.get p with
 | some f=>exact h'.get e
 | none =>
  cases e2:pr.get p with
  | some f=>exact h.get e2
  | none=>exact z87 V p
theorem GdM.snoc {V:Pl→Nat→Pc→Prop}{m:Mm}(h:GdM V m){k:Pl}{f:Fl}(hf:GdF V k f):GdM V (m.drop k++[(k,f)]):=by
 refine⟨Mm.snoc_ok h.1 k f,fun x hx=>?_⟩
 rcases List.mem_append.1 hx with h1 | h1
 ·exact h.2 x (Mm.drop_mem.1 h1).1
 ·obtain rfl:x=(k,f):=by simpa using h1
  exact hf
theorem GdM.put {V:Pl→Nat→Pc→Prop}{m:Mm}(h:GdM V m){k:Pl}{f:Fl}(hf:GdF V k f)(room:Int):GdM V (m.put room k f):=by
 refine⟨Mm.put_ok h.1 k f,fun x hx=>?_⟩
 rcases Mm.put_mem hx with rfl | ⟨h1,-⟩
 ·exact hf
 ·exact h.2 x h1
theorem GdM.set {V:Pl→Nat→Pc→Prop}{m:Mm}(h:GdM V m){k:Pl}{f:Fl}(hf:GdF V k f):GdM V (m.set k f):=by
 refine⟨Mm.set_ok h.1 k f,fun x hx=>?_⟩
 rcases Mm.set_mem hx with rfl | ⟨h1,-⟩
 ·exact hf
 ·exact h.2 x h1
theorem zb5 (V:Pl→Nat→Pc→Prop):GdM V []:=⟨by simp [Mm.ok],fun x hx=>by simp at hx⟩
theorem GdF.fitsAt {V:Pl→Nat→Pc→Prop}(hV:∀ p k c b,V p k c→V p k { c with fits:=b }){p:Pl}{f:Fl}(h:GdF V p f){k:Nat}(ht:(f.getD k .no).there=true):GdF V p (qx f k):=by
 refine⟨by rw [zio];exact h.1,fun i hi=>?_⟩
 rw [zag]
 by_cases hc:i=k∧k < f.length
 ·rw [if_pos hc]
  obtain⟨rfl,-⟩:=hc
  exact⟨fun _=>ht,fun hh=>hV _ _ _ _ ((h.2 i hi).2 hh)⟩
 ·rw [if_neg hc];exact h.2 i hi
theorem GdF.fill {V:Pl→Nat→Pc→Prop}{p:Pl}{f c:Fl}(h:GdF V p f)(hc:GdF V p c):GdF V p (zb1 f c):=by
 have e:f.length=c.length:=by rw [h.1,hc.1]
 refine⟨by rw [zzu f c e];exact h.1,fun i hi=>?_⟩
 rw [zbt f c e i (by rw [h.1];exact hi)]
 split
 ·exact h.2 i hi
 ·exact hc.2 i hi
theorem GdF.fit {V:Pl→Nat→Pc→Prop}{p:Pl}{f:Fl}(h:GdF V p f):GdF V p (zip f):=by
 refine⟨by simp [zip,h.1],fun i hi=>?_⟩
 rw [z4p]
 split
 ·exact h.2 i hi
 ·exact zof _ _ _
theorem zcv {V:Pl→Nat→Pc→Prop}(room:Int):∀(nd pr:Mm),GdM V pr→(∀ x∈nd,GdF V x.1 x.2)→GdM V (ym room pr nd)
 | [],pr,h,_=>h
 | x::nd,pr,h,hn=>by
  show GdM V (ym room (pr.put room x.1 (zip x.2)) nd)
  exact zcv room nd _ (h.put (hn x (by simp)).fit room) (fun y hy=>hn y (by simp [hy]))
structure z7w (fe:σ→List UInt8→(List UInt8×Bool)×σ)(I:σ→Prop)(T:Pl→Option Fl):Prop where
 file:∀ s p,I s→(qy fe s p).1=T p
 keep:∀ s p,I s→I (qy fe s p).2
theorem zoc {I:σ→Prop}{T:Pl→Option Fl}{V:Pl→Nat→Pc→Prop}(hS:z7w fe I T)(hV:∀ p k c b,V p k c→V p k { c with fits:=b })
  {proved:Mm} {size:Nat} {m:Ms σ} {l:Int} {j:Nat} (hT:∀ came,T (zi size l j)=some came→GdF V (zi size l j) came)
  (hp:GdM V proved) (hm:GdM V m.needed) (hI:I m.net) (hj:j < zz l size) :
  (∃ c m',xu fe proved size m l j=(.inr c,m')∧c.there=true∧V (zi size l j) (j % 4) c∧GdM V m'.needed∧I m'.net) ∨
  (∃ m',xu fe proved size m l j=(.inl (zdw (zi size l j)),m')∧T (zi size l j)=none∧m'.needed=m.needed∧I m'.net):=by
 have hk:GdF V (zi size l j) (yx proved m.needed (zi size l j)):=hp.known hm _
 have hw:(zi size l j).2.2≤4:=by unfold zi;simp;omega
 have hkw:((j % 4:Nat):Int) < (zi size l j).2.2:=by unfold zi;simp;omega
 unfold xu
 generalize zi size l j=p at *
 by_cases ht:((yx proved m.needed p).getD (j % 4) .no).there=true
 ·rw [if_pos ht]
  have hg:=hk.fitsAt hV ht
  have ht2:((qx (yx proved m.needed p) (j % 4)).getD (j % 4) .no).there=true:=by
   rw [zag];split
   ·exact ht
   ·exact ht
  exact .inl ⟨_,_,rfl,ht2,(hg.2 (j % 4) (by omega)).2 ht2,hm.snoc hg,hI⟩
 ·rw [if_neg ht]
  have e1:=hS.file m.net p hI
  have e2:=hS.keep m.net p hI
  cases hf:qy fe m.net p with
  | mk o s =>
   rw [hf] at e1 e2
   simp only at e1 e2
   cases o with
   | none=>exact .inr ⟨_,rfl,e1.symm,rfl,e2⟩
   | some came =>
    have hc:=hT came e1.symm
    have hcm:=zif hw hf
    have hg:=hk.fill hc
    have ht2:((zb1 (yx proved m.needed p) came).getD (j % 4) .no).there=true:=by
     rw [zbt _ _ (by rw [hk.1,hc.1]) _ (by rw [hk.1];omega)]
     have hnf:((yx proved m.needed p).getD (j % 4) .no).fits≠true:=fun hfi=>ht ((hk.2 (j % 4) (by omega)).1 hfi)
     rw [if_neg hnf,hcm.there _ (by omega)]
     simpa using hkw
    have hg2:=hg.fitsAt hV ht2
    have ht3:((qx (zb1 (yx proved m.needed p) came) (j % 4)).getD (j % 4) .no).there=true:=by
     rw [zag];split
     ·exact ht2
     ·exact ht2
    exact .inl ⟨_,_,rfl,ht3,(hg2.2 (j % 4) (by omega)).2 ht3,hm.snoc hg2,e2⟩
end
end
section
theorem zgp:∀(f a n i:Nat),n≤2 ^ f→∀ s∈xp f a n i,a≤s.1∧s.1+s.2≤a+n∧1≤s.2:=by
 intro f
 induction f with
 | zero=>intro a n i h s hs;simp [xp] at hs
 | succ f ih =>
  intro a n i h s hs
  by_cases h1:n≤1
  ·rw [ze0 _ _ _ _ h1] at hs;simp at hs
  obtain⟨k1,k2,k3,k4,k5,k6⟩:=jl n f (by omega) h
  by_cases hi:i < a+kOf n
  ·rw [zdx f a n i (by omega) hi] at hs
   rcases List.mem_append.1 hs with hs | hs
   ·have:=ih a (kOf n) i k1 s hs;omega
   ·obtain rfl:s=_:=List.mem_singleton.1 hs
    simp only;omega
  ·rw [zcs f a n i (by omega) hi] at hs
   rcases List.mem_append.1 hs with hs | hs
   ·have:=ih (a+kOf n) (n - kOf n) i k2 s hs;omega
   ·obtain rfl:s=_:=List.mem_singleton.1 hs
    simp only;omega
theorem zgg:∀(f m a n:Nat) (whole:Bool),n≤2 ^ f→1≤n→a < m→m≤a+n→∀ s∈xr f m a n whole,a≤s.1∧s.1+s.2≤a+n∧1≤s.2:=by
 intro f
 induction f with
 | zero =>
  intro m a n whole h hn1 hm1 hm2 s hs
  unfold xr at hs
  split at hs
  ·split at hs
   ·simp at hs
   ·obtain rfl:s=_:=List.mem_singleton.1 hs
    simp only;omega
  ·simp at hs
 | succ f ih =>
  intro m a n whole h hn1 hm1 hm2 s hs
  by_cases hm:m=a+n
  ·rw [zam _ _ _ _ _ hm] at hs
   split at hs
   ·simp at hs
   ·obtain rfl:s=_:=List.mem_singleton.1 hs
    simp only;omega
  obtain⟨k1,k2,k3,k4,k5,k6⟩:=jl n f (by omega) h
  by_cases hk:m≤a+kOf n
  ·rw [zbl f m a n whole hm hk] at hs
   rcases List.mem_append.1 hs with hs | hs
   ·have:=ih m a (kOf n) whole k1 k3 hm1 hk s hs;omega
   ·obtain rfl:s=_:=List.mem_singleton.1 hs
    simp only;omega
  ·rw [zbx f m a n whole hm hk] at hs
   rcases List.mem_append.1 hs with hs | hs
   ·have:=ih m (a+kOf n) (n - kOf n) false k2 k4 (by omega) (by omega) s hs;omega
   ·obtain rfl:s=_:=List.mem_singleton.1 hs
    simp only;omega
end
end Go.Proofs.YtinhekmmdlhfkaaGreatDoor
