import Derived.Test.YtinhekmmdlhfkaaGreatDoorG01
import Derived.OrdersHeld
import Derived.Test.YtinhekmmdlhfkaaGreatDoorG32
import Derived.Test.YtinhekmmdlhfkaaGreatDoorG06
namespace Go.Proofs.YtinhekmmdlhfkaaGreatDoor
section
open Go.RowKit
/- A REGION THAT DRAWS ITS ORDER,WHOSE STORES TURN WHAT ITS LOADS READ: the loads are taken first under a condition S on the world;S is shown anew only behind operations ahead of the stores (those that D names),for these wait for the loads. -/
section
variable {P : Program} {ops : Array Oper} {Q : Exit → Act → World → Prop} {md : Region.Mode} {S : World → Prop} {D : Nat → Bool}
def wpT (P:Program)(md:Region.Mode)(ops:Array Oper)(Q:Exit→Act→World→Prop)(S:World→Prop)(D:Nat→Bool):Nat→Array Bool→Act→World→Prop
 | 0,listed,a,w=>Region.ready md ops listed=[]∧Q .normal a w
 | fuel+1,listed,a,w =>
  (Region.ready md ops listed=[]→Q .normal a w) ∧
  ∀ i∈Region.ready md ops listed,wpOp P ops Q i (fun a' w'=>if D i=true then wpAny P md ops Q fuel (listed.setIfInBounds i true) a' w' else S w'∧wpT P md ops Q S D fuel (listed.setIfInBounds i true) a' w') a w
theorem znb:∀(fuel:Nat) (listed:Array Bool)(a:Act)(w:World) ,wpT P md ops Q S D fuel listed a w→wpAny P md ops Q fuel listed a w
 | 0,_,_,_,h=>h
 | fuel+1,listed,a,w,h=>⟨h.1,fun i hi=>wpOp_mono (fun a' w' h'=>by
   by_cases hd:D i=true
   ·rw [if_pos hd] at h';exact h'
   ·rw [if_neg hd] at h';exact znb fuel _ a' w' h'.2) (h.2 i hi)⟩
def zh6 (md:Region.Mode)(ops:Array Oper)(listed:Array Bool)(i:Nat)(W:List Nat):Bool :=
 !W.contains i&&W.all fun j=>!listed.getD j true&&match ops[j]? with
  | some o=>o.after.any fun e=>Region.binds md e&&(e.on==i||W.contains e.on)
  | none=>false
theorem zzw {i:Nat}{oi:Oper}{v:Value}{W:List Nat}(hi:ops[i]?=some oi)(hsel:∀(j:Nat) (o:Oper) cs b,ops[j]?=some o→o.op≠ .select cs b)
  (hQ:∀ c a w,Q (.panic c) (a.put oi.dst v) w→Q (.panic c) a w) (hD:∀ j,D j=true→j∈W) :
  ∀(fuel:Nat) (listed:Array Bool) (a:Act) (w:World),zh6 md ops listed i W=true →
   (∀ j oj,ops[j]?=some oj→j≠i→listed.getD j true=false→(∀ e∈oj.after,Region.binds md e=true→e.on≠i)→oi.apart ops oj=true) →
   i∈Region.ready md ops listed→YieldsIf P ops S oi v a→S w →
   wpT P md ops Q S D fuel (listed.setIfInBounds i true) (a.put oi.dst v) w→wpT P md ops Q S D (fuel+1) listed a w:=by
 intro fuel
 induction fuel with
 | zero =>
  intro listed a w hW _ hr hy hS H
  refine⟨fun h=>(by rw [h] at hr;cases hr),fun j hj=>?_⟩
  by_cases hji:j=i
  ·subst hji
   have hDj:¬ D j=true:=fun hd=>by
    have:=hD j hd
    simp [zh6,this] at hW
   refine hy.wpOp hi hS ?_
   rw [if_neg hDj]
   exact⟨hS,H⟩
  ·have:=ready_mono hj hji
   rw [H.1] at this
   cases this
 | succ fuel ih =>
  intro listed a w hW hfree hr hy hS H
  have hWi:¬ i∈W:=by
   intro h
   simp [zh6,h] at hW
  have hun:∀ j∈W,listed.getD j true=false∧∃ o,ops[j]?=some o∧∃ e∈o.after,Region.binds md e=true∧(e.on=i∨e.on∈W):=by
   intro j hj
   simp only [zh6,Bool.and_eq_true,List.all_eq_true] at hW
   have h1:=hW.2 j hj
   cases ho:ops[j]? with
   | none=>simp [ho] at h1
   | some o =>
    simp only [ho,Bool.not_eq_true',Array.any_eq_true',Bool.and_eq_true,Bool.or_eq_true,beq_iff_eq,List.contains_eq_mem,decide_eq_true_eq] at h1
    exact⟨h1.1,o,rfl,h1.2⟩
  have hiun:listed.getD i true=false:=(mem_ready.1 hr).1
  have notBoth:∀ k,listed.getD k true=false→listed.getD k false=true→False:=fun k h0 h1=>by
   rcases Nat.lt_or_ge k listed.size with h' | h'
   ·simp [h'] at h0 h1;rw [h0] at h1;cases h1
   ·simp [Array.getElem?_eq_none h'] at h1
  have notW:∀ j,j∈Region.ready md ops listed→¬ j∈W:=by
   intro j hj hjW
   obtain⟨_,o,ho,e,he,hb,hon⟩:=hun j hjW
   obtain⟨_,o',ho',hall⟩:=mem_ready.1 hj
   rw [ho] at ho'
   obtain rfl:=Option.some.inj ho'
   have hl:=hall e he hb
   rcases hon with hon | hon
   ·rw [hon] at hl;exact notBoth i hiun hl
   ·exact notBoth _ (hun _ hon).1 hl
  refine⟨fun h=>(by rw [h] at hr;cases hr),fun j hj=>?_⟩
  have hDj:¬ D j=true:=fun hd=>notW j hj (hD j hd)
  by_cases hji:j=i
  ·subst hji
   refine hy.wpOp hi hS ?_
   rw [if_neg hDj]
   exact⟨hS,H⟩
  ·have h1:=H.2 j (ready_mono hj hji)
   obtain⟨hjun,oj,hoj,hall⟩:=mem_ready.1 hj
   have hnot:∀ e∈oj.after,Region.binds md e=true→e.on≠i:=fun e he hb heq=>by
    have h1:=hall e he hb
    rw [heq] at h1
    exact notBoth i hiun h1
   have h2:=wpOp_putIf hoj (hfree j oj hoj hji hjun hnot) (fun cs b=>hsel i oi cs b hi) (fun cs b=>hsel j oj cs b hoj) hQ hy h1
   have hfree':∀ k ok,ops[k]?=some ok→k≠i→(listed.setIfInBounds j true).getD k true=false →
     (∀ e∈ok.after,Region.binds md e=true→e.on≠i)→oi.apart ops ok=true:=fun k ok hk hki hun hno=>by
    refine hfree k ok hk hki ?_ hno
    by_cases hjk:j=k
    ·subst hjk;exact hjun
    ·rw [getD_set_ne true hjk] at hun;exact hun
   have hW':zh6 md ops (listed.setIfInBounds j true) i W=true:=by
    simp only [zh6,Bool.and_eq_true,List.all_eq_true] at hW ⊢
    refine⟨hW.1,fun k hk=>⟨?_,(hW.2 k hk).2⟩⟩
    have hjk:j≠k:=by rintro rfl;exact notW j hj hk
    rw [getD_set_ne true hjk]
    exact(hW.2 k hk).1
   refine wpOp_mono (fun a' w' h3=>?_) h2
   rw [if_neg hDj] at h3 ⊢
   refine⟨h3.2.1,ih (listed.setIfInBounds j true) a' w' hW' hfree' (ready_mono hr (Ne.symm hji)) h3.1 h3.2.1 ?_⟩
   rw [Array.setIfInBounds_comm _ _ hji]
   exact h3.2.2
theorem zdy {i:Nat}{oi:Oper}{v:Value}(W:List Nat){fuel:Nat}{listed:Array Bool}{a:Act}{w:World}(hi:ops[i]?=some oi)
  (hs:Region.noSelect ops=true) (hf:Region.free md ops listed i=true) (hr:(Region.ready md ops listed).contains i=true) (hW:zh6 md ops listed i W=true) (hD:∀ j,D j=true→j∈W)
  (hQ:∀ c a w,Q (.panic c) (a.put oi.dst v) w→Q (.panic c) a w) (hy:YieldsIf P ops S oi v a) (hS:S w)
  (h:wpT P md ops Q S D fuel (listed.setIfInBounds i true) (a.put oi.dst v) w):wpT P md ops Q S D (fuel+1) listed a w :=
 zzw hi (Region.noSelect_spec hs) hQ hD fuel listed a w hW (Region.free_spec hi hf) (by simpa using hr) hy hS h
theorem zpu (i:Nat){oi:Oper}{fuel:Nat}{listed:Array Bool}{a:Act}{w:World}(hi:ops[i]?=some oi)(hg:oi.guard=none)(hr:Region.ready md ops listed=[i])(hd:D i=false)
  (h:∀ K:Act→World→Prop,(∀ a' w',S w'→wpT P md ops Q S D fuel (listed.setIfInBounds i true) a' w'→K a' w')→oi.wp P a w K Q):wpT P md ops Q S D (fuel+1) listed a w:=by
 refine⟨fun h0=>(by rw [hr] at h0;cases h0),fun j hj=>?_⟩
 rw [hr] at hj
 obtain rfl:j=i:=by simpa using hj
 unfold wpOp
 simp only [hi]
 rw [if_pos (by simp [Region.wanted,hg])]
 refine .inl (h _ fun a' w' hS h'=>?_)
 rw [if_neg (by rw [hd];simp)]
 exact⟨hS,h'⟩
theorem zow (i:Nat){oi:Oper}{fuel:Nat}{listed:Array Bool}{a:Act}{w:World}(hi:ops[i]?=some oi)(hg:oi.guard=none)(hr:Region.ready md ops listed=[i])(hd:D i=true)
  (h:∀ K:Act→World→Prop,(∀ a' w',wpAny P md ops Q fuel (listed.setIfInBounds i true) a' w'→K a' w')→oi.wp P a w K Q):wpT P md ops Q S D (fuel+1) listed a w:=by
 refine⟨fun h0=>(by rw [hr] at h0;cases h0),fun j hj=>?_⟩
 rw [hr] at hj
 obtain rfl:j=i:=by simpa using hj
 unfold wpOp
 simp only [hi]
 rw [if_pos (by simp [Region.wanted,hg])]
 refine .inl (h _ fun a' w' h'=>?_)
 rw [if_pos hd]
 exact h'
theorem zg9 (i:Nat){oi:Oper}{fuel:Nat}{listed:Array Bool}{a:Act}{w:World}(hi:ops[i]?=some oi)(hg:oi.guard=none)(hr:Region.ready md ops listed=[i])
  (h:∀ K:Act→World→Prop,(∀ a' w',wpAny P md ops Q fuel (listed.setIfInBounds i true) a' w'→K a' w')→oi.wp P a w K Q):wpAny P md ops Q (fuel+1) listed a w:=by
 refine⟨fun h0=>(by rw [hr] at h0;cases h0),fun j hj=>?_⟩
 rw [hr] at hj
 obtain rfl:j=i:=by simpa using hj
 unfold wpOp
 simp only [hi]
 rw [if_pos (by simp [Region.wanted,hg])]
 exact .inl (h _ fun a' w' h'=>h')
theorem ziu {id:Nat}{a:Act}{w:World}(S:World→Prop)(D:Nat→Bool)(i:Nat){oi:Oper}(x:Operand)(v:Value){fuel:Nat}(hm:P.follows .mixedOrders=true)(hsz:ops.size=fuel+1)
  (hi:ops[i]?=some oi) (hs:Region.noSelect ops=true) (hf:Region.free .any ops (Array.replicate ops.size false) i=true) (hr:(Region.ready .any ops (Array.replicate ops.size false)).contains i=true)
  (hQ:∀ c a w,Q (.panic c) (a.put oi.dst v) w→Q (.panic c) a w) (hg:oi.guard=none) (ho:oi.op= .move x) (hx:a.eval x=v)
  (h:wpT P .any ops Q S D fuel ((Array.replicate ops.size false).setIfInBounds i true) (a.put oi.dst v) w.drew):(Code.region id ops true).wp P Q a w:=by
 refine wp_region_any hm ?_
 rw [show ops.size=fuel+1 from hsz] at h hf hr ⊢
 exact wpAny_take hi hs hf hr hQ (.inl ⟨by simp [Region.wanted,hg],fun w=>by unfold execOp;simp [ho,hx]⟩) (znb _ _ _ _ h)
theorem zbo {op:Oper}{a:Act}(hw:Region.wanted op (yielded ops a.tmps)=true)(ty:TypeId)(x:Operand)(ho:op.op= .load ty x)
  (g:Nat) (hx:a.eval x= .pointer (some ⟨g,0,none⟩)) (t:TypeId) (cs:Array Value) (d:TypeDesc) (hS:∀ w,S w→w.heap[g]?=some (.cells cs t (0,0)))
  (hu:P.underlying ty=some d) (hd:(match d with | .struct _ | .array _ _=>true | _=>false)=true) (hi:(P.info? ty).map (·.size)=some cs.size):YieldsIf P ops S op (.agg cs) a :=
 .inl ⟨hw,fun w hw'=>by
  unfold execOp
  simp only [ho,hx,Instr.loadAt,Instr.sureAddr,Sem.run_bind,Sem.run_pure,Result.andThen_ok,run_loadVar_row w g t ty cs (0,0) d (hS w hw') hu hd hi]⟩
end
end
section
set_option maxHeartbeats 2000000
open Go.RowKit
set_option maxRecDepth 100000
theorem vk {P:Program}{fn:Func}{p q u:Tmp}{ty:TypeId}(h:fn.results=#[.cell p ty,.cell q ty,.tmp u])(tmps:Array Value)(w:World)(g g':Nat)(t:TypeId)(cs cs':Array Value)(d:TypeDesc)
  (hp:tmps.getD p undef= .pointer (some ⟨g,0,none⟩)) (hg:w.heap[g]?=some (.cells cs t (0,0))) (hq:tmps.getD q undef= .pointer (some ⟨g',0,none⟩)) (hg':w.heap[g']?=some (.cells cs' t (0,0)))
  (hu:P.underlying ty=some d) (hd:(match d with | .struct _ | .array _ _=>true | _=>false)=true) (hi:(P.info? ty).map (·.size)=some cs.size) (hi':(P.info? ty).map (·.size)=some cs'.size) (x:Value) (hx:tmps.getD u undef=x) :
  (results fn tmps).run P w= .ok (.tuple #[.agg cs,.agg cs',x]) w:=by
 have hp':tmps[p]?.getD undef= .pointer (some ⟨g,0,none⟩):=by simpa using hp
 have hq':tmps[q]?.getD undef= .pointer (some ⟨g',0,none⟩):=by simpa using hq
 have hx':tmps[u]?.getD undef=x:=by simpa using hx
 simp [results,h,hp',hq',hx',asAddr,run_loadVar_row w g t ty cs (0,0) d hg hu hd hi,run_loadVar_row w g' t ty cs' (0,0) d hg' hu hd hi']
def Fq (w:World)(a:List UInt8)(wz:World)(o n:List UInt8):Prop :=
 Below w.heap.size w wz∧wz.heap[w.heap.size]?=some (.cells (hv a) 91 (0,0))∧wz.heap[w.heap.size+1]?=some (.cells (hv o) 91 (0,0))∧wz.heap[w.heap.size+1+1]?=some (.cells (hv n) 91 (0,0))
theorem Fq.start (w:World)(a:List UInt8):Fq w a (((w.alloc (.cells (hv a) 91)).alloc (.cells #[Value.int IntKind.u8 0,Value.int IntKind.u8 0,Value.int IntKind.u8 0,Value.int IntKind.u8 0,Value.int IntKind.u8 0,Value.int IntKind.u8 0,Value.int IntKind.u8 0,Value.int IntKind.u8 0] 91)).alloc (.cells #[Value.int IntKind.u8 0,Value.int IntKind.u8 0,Value.int IntKind.u8 0,Value.int IntKind.u8 0,Value.int IntKind.u8 0,Value.int IntKind.u8 0,Value.int IntKind.u8 0,Value.int IntKind.u8 0] 91)) yf yf:=by
 refine⟨je _ _ _ _,zc (zc (heap_alloc_last _ _)),?_,?_⟩
 ·refine zc ?_
  rw [show w.heap.size+1=(w.alloc (.cells (hv a) 91)).heap.size by simp]
  exact heap_alloc_last _ _
 ·rw [show w.heap.size+1+1=((w.alloc (.cells (hv a) 91)).alloc (.cells #[Value.int IntKind.u8 0,Value.int IntKind.u8 0,Value.int IntKind.u8 0,Value.int IntKind.u8 0,Value.int IntKind.u8 0,Value.int IntKind.u8 0,Value.int IntKind.u8 0,Value.int IntKind.u8 0] 91)).heap.size by simp]
  exact heap_alloc_last _ _
theorem Fq.next {w wz wy:World}{a o n:List UInt8}(h:Fq w a wz o n)(hb:Below wz.heap.size wz wy):Fq w a wy o n :=
 ⟨h.1.trans (hb.mono h.1.size),by rw [hb.block _ (xe h.2.1)];exact h.2.1,by rw [hb.block _ (xe h.2.2.1)];exact h.2.2.1,by rw [hb.block _ (xe h.2.2.2)];exact h.2.2.2⟩
theorem Fq.set1 {w wz:World}{a o n:List UInt8}(h:Fq w a wz o n)(o':List UInt8):Fq w a (wz.setRow (w.heap.size+1) (hv o')) o' n :=
 ⟨below_setRow h.1 (Nat.le_succ _) _,by rw [setRow_other _ _ _ _ (by omega)];exact h.2.1,setRow_heap _ _ _ _ _ _ h.2.2.1,by rw [setRow_other _ _ _ _ (by omega)];exact h.2.2.2⟩
theorem Fq.set2 {w wz:World}{a o n:List UInt8}(h:Fq w a wz o n)(n':List UInt8):Fq w a (wz.setRow (w.heap.size+1+1) (hv n')) o n' :=
 ⟨below_setRow h.1 (by omega) _,by rw [setRow_other _ _ _ _ (by omega)];exact h.2.1,by rw [setRow_other _ _ _ _ (by omega)];exact h.2.2.1,setRow_heap _ _ _ _ _ _ h.2.2.2⟩
theorem Fq.drew {w wz:World}{a o n:List UInt8}(h:Fq w a wz o n):Fq w a wz.drew o n:=⟨h.1.drew,h.2.1,h.2.2.1,h.2.2.2⟩
theorem zvh (a:List UInt8)(ha:a.length=8)(v:Value)(ps:List (List UInt8))(w:World)(h:Hss w v ps):
  Calls Tryz.prog 154 #[.agg (hv a),v,.bool true] w fun r w'=>r= .returned (.tuple #[.agg (hv a),.agg (hv a),.bool (decide (ps.length=0))])∧Below w.heap.size w w':=by
 obtain⟨b,cap,rfl,-,-,-⟩:=h
 obtain⟨x0,x1,x2,x3,x4,x5,x6,x7,hx⟩:=zkb a ha
 rw [hx]
 have hd:((ps.length:Int)==0)=decide (ps.length=0):=by
  rw [Bool.eq_iff_iff];simp
 have Hd:=za hd
 clear hd ha hx
 go_enter Tryz.func154,Tryz.ntmps154
 go_wp2_with fail
 go_region
 all_goals go_wp2
 all_goals refine bodyPost_ret (v:= .tuple #[.agg #[.int .u8 x0,.int .u8 x1,.int .u8 x2,.int .u8 x3,.int .u8 x4,.int .u8 x5,.int .u8 x6,.int .u8 x7],.agg #[.int .u8 x0,.int .u8 x1,.int .u8 x2,.int .u8 x3,.int .u8 x4,.int .u8 x5,.int .u8 x6,.int .u8 x7],.bool ((ps.length:Int)==0)]) (by simp [results,Tryz.results154,go_sem]) rfl ⟨by rw [Hd.o],?_⟩
 all_goals exact(je _ _ _ _).drew
theorem zxg (a p:List UInt8)(ha:a.length=8)(hp:p.length=8)(b off cap:Nat)(w:World)(hr:w.rangeAt b off (hv p).toList):
  Calls Tryz.prog 154 #[.agg (hv a),.slice (some ⟨b,off,none⟩) 1 cap,.bool false] w fun r w'=>r= .returned (.tuple #[.agg (hv p),.agg (hv p),.bool true])∧Below w.heap.size w w':=by
 obtain⟨y0,y1,y2,y3,y4,y5,y6,y7,hy⟩:=zkb a ha
 obtain⟨x0,x1,x2,x3,x4,x5,x6,x7,hx⟩:=zkb p hp
 rw [hx] at hr ⊢
 rw [hy]
 have cc:=fun(o1 o2 o3:Obj)=>z3m (vr hr (je w o1 o2 o3))
 have c0:=fun o1 o2 o3=>(cc o1 o2 o3).1
 have c1:=fun o1 o2 o3=>(cc o1 o2 o3).2.1
 have c2:=fun o1 o2 o3=>(cc o1 o2 o3).2.2.1
 have c3:=fun o1 o2 o3=>(cc o1 o2 o3).2.2.2.1
 have c4:=fun o1 o2 o3=>(cc o1 o2 o3).2.2.2.2.1
 have c5:=fun o1 o2 o3=>(cc o1 o2 o3).2.2.2.2.2.1
 have c6:=fun o1 o2 o3=>(cc o1 o2 o3).2.2.2.2.2.2.1
 have c7:=fun o1 o2 o3=>(cc o1 o2 o3).2.2.2.2.2.2.2
 have hlt:b < w.heap.size:=zj (p:=⟨b,off+0,none⟩) (hr 0 _ rfl)
 have n1:b≠w.heap.size:=by omega
 have n2:b≠w.heap.size+1:=by omega
 have n3:b≠w.heap.size+1+1:=by omega
 clear hr hx hy ha hp cc
 go_enter Tryz.func154,Tryz.ntmps154
 go_wp2_with fail
 go_region
 all_goals go_wp2
 all_goals refine bodyPost_ret (v:= .tuple #[.agg #[.int .u8 x0,.int .u8 x1,.int .u8 x2,.int .u8 x3,.int .u8 x4,.int .u8 x5,.int .u8 x6,.int .u8 x7],.agg #[.int .u8 x0,.int .u8 x1,.int .u8 x2,.int .u8 x3,.int .u8 x4,.int .u8 x5,.int .u8 x6,.int .u8 x7],.bool true]) (by simp [results,Tryz.results154,go_sem]) rfl ⟨rfl,?_⟩
 all_goals exact(je _ _ _ _).drew
theorem z2h (a:List UInt8)(ha:a.length=8)(v:Value)(ps:List (List UInt8))(w:World)(hn:ps.length≠1)(h:Hss w v ps):
  Calls Tryz.prog 154 #[.agg (hv a),v,.bool false] w fun r w'=>r= .returned (.tuple #[.agg (hv yf),.agg (hv yf),.bool false])∧Below w.heap.size w w':=by
 obtain⟨b,cap,rfl,-,-,-⟩:=h
 have hs:(hv a).size=8:=by rw [qd,ha]
 have HF:=za (Fq.start w a)
 have n1:((ps.length:Int) != 1)=true:=by rw [bne_iff_ne];omega
 clear hn ha
 go_enter Tryz.func154,Tryz.ntmps154
 go_wp2_with (first
  | (refine wpList_store_row rfl 91 _ _ rfl (w.heap.size+1) (hv yf) rfl rfl 91 _ HF.o.2.2.1 (by kernel_rfl) rfl (jp _) ?_)
  | (refine wpList_store_row rfl 91 _ _ rfl (w.heap.size+1+1) (hv yf) rfl rfl 91 _ (HF.o.set1 yf).2.2.2 (by kernel_rfl) rfl (jp _) ?_))
 refine bodyPost_ret (v:= .tuple #[.agg (hv yf),.agg (hv yf),.bool false]) (vk Tryz.results154 _ _ (w.heap.size+1) (w.heap.size+1+1) 91 _ _ _ rfl ((HF.o.set1 yf).set2 yf).2.2.1 rfl ((HF.o.set1 yf).set2 yf).2.2.2 Tryz.underlying91 rfl (by kernel_rfl) (by kernel_rfl) _ rfl) rfl ⟨rfl,?_⟩
 exact((HF.o.set1 yf).set2 yf).1
end
end Go.Proofs.YtinhekmmdlhfkaaGreatDoor
