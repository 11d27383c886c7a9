import Derived.Test.YtndkblnpbjffhaaGreatDoorG37
set_option maxHeartbeats 2000000
set_option maxRecDepth 100000
open Go.RowKit
namespace Go.Proofs.YtndkblnpbjffhaaGreatDoor
section
/- A REGION THAT DRAWS ITS ORDER,WHOSE STORES TURN WHAT ITS LOADS READ: the loads are taken first under a condition S on the world;S is shown anew only behind operations ahead of the stores (those that D names),for these wait for the loads. -/
section
variable {P : Program} {ops : Array Oper} {Q : Exit → Act → World → Prop} {md : Region.Mode} {S : World → Prop} {D : Nat → Bool}
def wpT (P:Program)(md:Region.Mode)(ops:Array Oper)(Q:Exit→Act→World→Prop)(S:World→Prop)(D:Nat→Bool):Nat→Array Bool→Act→World→Prop
 | 0,listed,a,w=>Region.ready md ops listed=[]∧Q .normal a w
 | fuel+1,listed,a,w =>
  (Region.ready md ops listed=[]→Q .normal a w) ∧
  ∀ i∈Region.ready md ops listed,wpOp P ops Q i (fun h w'=>if D i=true then wpAny P md ops Q fuel (listed.setIfInBounds i true) h w' else S w'∧wpT P md ops Q S D fuel (listed.setIfInBounds i true) h w') a w
theorem znq:∀(r:Nat) (listed:Array Bool)(a:Act)(w:World) ,wpT P md ops Q S D r listed a w→wpAny P md ops Q r listed a w
 | 0,_,_,_,h=>h
 | r+1,listed,a,w,h=>⟨h.1,fun i I=>wpOp_mono (fun H w' A=>by
   by_cases E:D i=true
   ·rw [if_pos E] at A;exact A
   ·rw [if_neg E] at A;exact znq r _ H w' A.2) (h.2 i I)⟩
def ziq (md:Region.Mode)(ops:Array Oper)(listed:Array Bool)(i:Nat)(W:List Nat):Bool :=
 !W.contains i&&W.all fun j=>!listed.getD j true&&match ops[j]? with
  | some o=>o.after.any fun e=>Region.binds md e&&(e.on==i||W.contains e.on)
  | none=>false
theorem z0k {i:Nat}{Y:Oper}{v:Value}{W:List Nat}(hi:ops[i]?=some Y)(af:∀(j:Nat) (o:Oper) cs b,ops[j]?=some o→o.op≠ .select cs b)
  (hQ:∀ c a w,Q (.panic c) (a.put Y.dst v) w→Q (.panic c) a w) (hD:∀ j,D j=true→j∈W) :
  ∀(A:Nat) (listed:Array Bool) (a:Act) (w:World),ziq md ops listed i W=true →
   (∀ j Z,ops[j]?=some Z→j≠i→listed.getD j true=false→(∀ e∈Z.after,Region.binds md e=true→e.on≠i)→Y.apart ops Z=true) →
   i∈Region.ready md ops listed→YieldsIf P ops S Y v a→S w →
   wpT P md ops Q S D A (listed.setIfInBounds i true) (a.put Y.dst v) w→wpT P md ops Q S D (A+1) listed a w:=by
 intro A
 induction A with
 | zero =>
  intro listed a w L _ hr hy hS H;refine⟨fun h=>(by rw [h] at hr;cases hr),fun j J=>?_⟩;by_cases r:j=i
  ·subst r;have K:¬ D j=true:=fun hd=>by
    have:=hD j hd;simp [ziq,this] at L
   refine hy.wpOp hi hS ?_;rw [if_neg K];exact⟨hS,H⟩
  ·have:=ready_mono J r;rw [H.1] at this;cases this
 | succ A ih =>
  intro listed a w L aa hr hy hS H;have ao:¬ i∈W:=by
   intro h;simp [ziq,h] at L
  have I:∀ j∈W,listed.getD j true=false∧∃ o,ops[j]?=some o∧∃ e∈o.after,Region.binds md e=true∧(e.on=i∨e.on∈W):=by
   intro j J;simp only [ziq,Bool.and_eq_true,List.all_eq_true] at L;have h1:=L.2 j J;cases ho:ops[j]? with
   | none=>simp [ho] at h1
   | some o =>
    simp only [ho,Bool.not_eq_true',Array.any_eq_true',Bool.and_eq_true,Bool.or_eq_true,beq_iff_eq,List.contains_eq_mem,decide_eq_true_eq] at h1;exact⟨h1.1,o,rfl,h1.2⟩
  have ac:listed.getD i true=false:=(mem_ready.1 hr).1;have X:∀ k,listed.getD k true=false→listed.getD k false=true→False:=fun k h0 h1=>by
   rcases Nat.lt_or_ge k listed.size with h' | h'
   ·simp [h'] at h0 h1;rw [h0] at h1;cases h1
   ·simp [Array.getElem?_eq_none h'] at h1
  have ag:∀ j,j∈Region.ready md ops listed→¬ j∈W:=by
   intro j J ak;obtain⟨_,o,ho,e,he,hb,E⟩:=I j ak;obtain⟨_,o',ae,U⟩:=mem_ready.1 J;rw [ho] at ae;obtain rfl:=Option.some.inj ae;have hl:=U e he hb;rcases E with E | E
   ·rw [E] at hl;exact X i ac hl
   ·exact X _ (I _ E).1 hl
  refine⟨fun h=>(by rw [h] at hr;cases hr),fun j J=>?_⟩;have K:¬ D j=true:=fun hd=>ag j J (hD j hd);by_cases r:j=i
  ·subst r;refine hy.wpOp hi hS ?_;rw [if_neg K];exact⟨hS,H⟩
  ·have h1:=H.2 j (ready_mono J r);obtain⟨ad,Z,V,U⟩:=mem_ready.1 J;have an:∀ e∈Z.after,Region.binds md e=true→e.on≠i:=fun e he hb ai=>by
    have h1:=U e he hb;rw [ai] at h1;exact X i ac h1
   have h2:=wpOp_putIf V (aa j Z V r ad an) (fun cs b=>af i Y cs b hi) (fun cs b=>af j Z cs b V) hQ hy h1;have aj:∀ k ok,ops[k]?=some ok→k≠i→(listed.setIfInBounds j true).getD k true=false →
     (∀ e∈ok.after,Region.binds md e=true→e.on≠i)→Y.apart ops ok=true:=fun k ok hk al I am=>by
    refine aa k ok hk al ?_ am;by_cases R:j=k
    ·subst R;exact ad
    ·rw [getD_set_ne true R] at I;exact I
   have ah:ziq md ops (listed.setIfInBounds j true) i W=true:=by
    simp only [ziq,Bool.and_eq_true,List.all_eq_true] at L ⊢;refine⟨L.1,fun k hk=>⟨?_,(L.2 k hk).2⟩⟩;have R:j≠k:=by rintro rfl;exact ag j J hk
    rw [getD_set_ne true R];exact(L.2 k hk).1
   refine wpOp_mono (fun a' w' h3=>?_) h2;rw [if_neg K] at h3 ⊢;refine⟨h3.2.1,ih (listed.setIfInBounds j true) a' w' ah aj (ready_mono hr (Ne.symm r)) h3.1 h3.2.1 ?_⟩;rw [Array.setIfInBounds_comm _ _ r];exact h3.2.2
theorem zed {i:Nat}{A:Oper}{v:Value}(W:List Nat){r:Nat}{listed:Array Bool}{a:Act}{w:World}(E:ops[i]?=some A)
  (R:Region.noSelect ops=true) (L:Region.free md ops listed i=true) (hr:(Region.ready md ops listed).contains i=true) (K:ziq md ops listed i W=true) (H:∀ j,D j=true→j∈W)
  (I:∀ c a w,Q (.panic c) (a.put A.dst v) w→Q (.panic c) a w) (U:YieldsIf P ops S A v a) (J:S w)
  (h:wpT P md ops Q S D r (listed.setIfInBounds i true) (a.put A.dst v) w):wpT P md ops Q S D (r+1) listed a w :=
 z0k E (Region.noSelect_spec R) I H r listed a w K (Region.free_spec E L) (by simpa using hr) U J h
theorem zqf (i:Nat){E:Oper}{r:Nat}{listed:Array Bool}{a:Act}{w:World}(U:ops[i]?=some E)(R:E.guard=none)(hr:Region.ready md ops listed=[i])(L:D i=false)
  (h:∀ K:Act→World→Prop,(∀ A w',S w'→wpT P md ops Q S D r (listed.setIfInBounds i true) A w'→K A w')→E.wp P a w K Q):wpT P md ops Q S D (r+1) listed a w:=by
 refine⟨fun h0=>(by rw [hr] at h0;cases h0),fun j H=>?_⟩;rw [hr] at H;obtain rfl:j=i:=by simpa using H
 unfold wpOp;simp only [U];rw [if_pos (by simp [Region.wanted,R])];refine .inl (h _ fun A w' J I=>?_);rw [if_neg (by rw [L];simp)];exact⟨J,I⟩
theorem zpk (i:Nat){E:Oper}{r:Nat}{listed:Array Bool}{a:Act}{w:World}(R:ops[i]?=some E)(L:E.guard=none)(hr:Region.ready md ops listed=[i])(J:D i=true)
  (h:∀ K:Act→World→Prop,(∀ A w',wpAny P md ops Q r (listed.setIfInBounds i true) A w'→K A w')→E.wp P a w K Q):wpT P md ops Q S D (r+1) listed a w:=by
 refine⟨fun h0=>(by rw [hr] at h0;cases h0),fun j H=>?_⟩;rw [hr] at H;obtain rfl:j=i:=by simpa using H
 unfold wpOp;simp only [R];rw [if_pos (by simp [Region.wanted,L])];refine .inl (h _ fun A w' I=>?_);rw [if_pos J];exact I
theorem zht (i:Nat){E:Oper}{r:Nat}{listed:Array Bool}{a:Act}{w:World}(L:ops[i]?=some E)(J:E.guard=none)(hr:Region.ready md ops listed=[i])
  (h:∀ K:Act→World→Prop,(∀ A w',wpAny P md ops Q r (listed.setIfInBounds i true) A w'→K A w')→E.wp P a w K Q):wpAny P md ops Q (r+1) listed a w:=by
 refine⟨fun h0=>(by rw [hr] at h0;cases h0),fun j H=>?_⟩;rw [hr] at H;obtain rfl:j=i:=by simpa using H
 unfold wpOp;simp only [L];rw [if_pos (by simp [Region.wanted,J])];exact .inl (h _ fun A w' I=>I)
theorem zje {id:Nat}{a:Act}{w:World}(S:World→Prop)(D:Nat→Bool)(i:Nat){A:Oper}(x:Operand)(v:Value){r:Nat}(hm:P.follows .mixedOrders=true)(E:ops.size=r+1)
  (K:ops[i]?=some A) (R:Region.noSelect ops=true) (H:Region.free .any ops (Array.replicate ops.size false) i=true) (hr:(Region.ready .any ops (Array.replicate ops.size false)).contains i=true)
  (I:∀ c a w,Q (.panic c) (a.put A.dst v) w→Q (.panic c) a w) (J:A.guard=none) (L:A.op= .move x) (U:a.eval x=v)
  (h:wpT P .any ops Q S D r ((Array.replicate ops.size false).setIfInBounds i true) (a.put A.dst v) w.drew):(Code.region id ops true).wp P Q a w:=by
 refine wp_region_any hm ?_;rw [show ops.size=r+1 from E] at h H hr ⊢;exact wpAny_take K R H hr I (.inl ⟨by simp [Region.wanted,J],fun w=>by unfold execOp;simp [L,U]⟩) (znq _ _ _ _ h)
theorem zbp {op:Oper}{a:Act}(J:Region.wanted op (yielded ops a.tmps)=true)(h:TypeId)(x:Operand)(I:op.op= .load h x)
  (g:Nat) (K:a.eval x= .pointer (some ⟨g,0,none⟩)) (t:TypeId) (cs:Array Value) (d:TypeDesc) (A:∀ w,S w→w.heap[g]?=some (.cells cs t (0,0)))
  (hu:P.underlying h=some d) (E:(match d with | .struct _ | .array _ _=>true | _=>false)=true) (H:(P.info? h).map (·.size)=some cs.size):YieldsIf P ops S op (.agg cs) a :=
 .inl ⟨J,fun w r=>by
  unfold execOp;simp only [I,K,Instr.loadAt,Instr.sureAddr,Sem.run_bind,Sem.run_pure,Result.andThen_ok,run_loadVar_row w g t h cs (0,0) d (A w r) hu E H]⟩
end
end
theorem vu {P:Program}{L:Func}{p q u:Tmp}{A:TypeId}(h:L.results=#[.cell p A,.cell q A,.tmp u])(tmps:Array Value)(w:World)(g D:Nat)(t:TypeId)(cs r:Array Value)(d:TypeDesc)
  (U:tmps.getD p undef= .pointer (some ⟨g,0,none⟩)) (R:w.heap[g]?=some (.cells cs t (0,0))) (V:tmps.getD q undef= .pointer (some ⟨D,0,none⟩)) (E:w.heap[D]?=some (.cells r t (0,0)))
  (hu:P.underlying A=some d) (Q:(match d with | .struct _ | .array _ _=>true | _=>false)=true) (S:(P.info? A).map (·.size)=some cs.size) (H:(P.info? A).map (·.size)=some r.size) (x:Value) (W:tmps.getD u undef=x) :
  (results L tmps).run P w= .ok (.tuple #[.agg cs,.agg r,x]) w:=by
 have I:tmps[p]?.getD undef= .pointer (some ⟨g,0,none⟩):=by simpa using U
 have J:tmps[q]?.getD undef= .pointer (some ⟨D,0,none⟩):=by simpa using V
 have K:tmps[u]?.getD undef=x:=by simpa using W
 simp [results,h,I,J,K,asAddr,run_loadVar_row w g t A cs (0,0) d R hu Q S,run_loadVar_row w D t A r (0,0) d E hu Q H]
def Fq (w:World)(a:List UInt8)(h:World)(o n:List UInt8):Prop :=
 Below w.heap.size w h∧h.heap[w.heap.size]?=some (.cells (hv a) 92 (0,0))∧h.heap[w.heap.size+1]?=some (.cells (hv o) 92 (0,0))∧h.heap[w.heap.size+1+1]?=some (.cells (hv n) 92 (0,0))
theorem Fq.start (w:World)(a:List UInt8):Fq w a (((w.alloc (.cells (hv a) 92)).alloc (.cells #[Value.int IntKind.u8 0,Value.int IntKind.u8 0,Value.int IntKind.u8 0,Value.int IntKind.u8 0,Value.int IntKind.u8 0,Value.int IntKind.u8 0,Value.int IntKind.u8 0,Value.int IntKind.u8 0] 92)).alloc (.cells #[Value.int IntKind.u8 0,Value.int IntKind.u8 0,Value.int IntKind.u8 0,Value.int IntKind.u8 0,Value.int IntKind.u8 0,Value.int IntKind.u8 0,Value.int IntKind.u8 0,Value.int IntKind.u8 0] 92)) z8 z8:=by
 refine⟨jn _ _ _ _,zc (zc (heap_alloc_last _ _)),?_,?_⟩
 ·refine zc ?_;rw [show w.heap.size+1=(w.alloc (.cells (hv a) 92)).heap.size by simp];exact heap_alloc_last _ _
 ·rw [show w.heap.size+1+1=((w.alloc (.cells (hv a) 92)).alloc (.cells #[Value.int IntKind.u8 0,Value.int IntKind.u8 0,Value.int IntKind.u8 0,Value.int IntKind.u8 0,Value.int IntKind.u8 0,Value.int IntKind.u8 0,Value.int IntKind.u8 0,Value.int IntKind.u8 0] 92)).heap.size by simp];exact heap_alloc_last _ _
theorem Fq.next {w A D:World}{a o n:List UInt8}(h:Fq w a A o n)(r:Below A.heap.size A D):Fq w a D o n :=
 ⟨h.1.trans (r.mono h.1.size),by rw [r.block _ (xk h.2.1)];exact h.2.1,by rw [r.block _ (xk h.2.2.1)];exact h.2.2.1,by rw [r.block _ (xk h.2.2.2)];exact h.2.2.2⟩
theorem Fq.set1 {w A:World}{a o n:List UInt8}(h:Fq w a A o n)(r:List UInt8):Fq w a (A.setRow (w.heap.size+1) (hv r)) r n :=
 ⟨below_setRow h.1 (Nat.le_succ _) _,by rw [setRow_other _ _ _ _ (by omega)];exact h.2.1,setRow_heap _ _ _ _ _ _ h.2.2.1,by rw [setRow_other _ _ _ _ (by omega)];exact h.2.2.2⟩
theorem Fq.set2 {w A:World}{a o n:List UInt8}(h:Fq w a A o n)(r:List UInt8):Fq w a (A.setRow (w.heap.size+1+1) (hv r)) o r :=
 ⟨below_setRow h.1 (by omega) _,by rw [setRow_other _ _ _ _ (by omega)];exact h.2.1,by rw [setRow_other _ _ _ _ (by omega)];exact h.2.2.1,setRow_heap _ _ _ _ _ _ h.2.2.2⟩
theorem Fq.drew {w r:World}{a o n:List UInt8}(h:Fq w a r o n):Fq w a r.drew o n:=⟨h.1.drew,h.2.1,h.2.2.1,h.2.2.2⟩
theorem zwv (a:List UInt8)(D:a.length=8)(v:Value)(A:List (List UInt8))(w:World)(h:Hss w v A):
  Calls Tryz.prog 186 #[.agg (hv a),v,.bool true] w fun r w'=>r= .returned (.tuple #[.agg (hv a),.agg (hv a),.bool (decide (A.length=0))])∧Below w.heap.size w w':=by
 obtain⟨b,W,rfl,-,-,-⟩:=h;obtain⟨I,J,K,L,Q,R,S,U,H⟩:=zj0 a D;rw [H];have E:((A.length:Int)==0)=decide (A.length=0):=by
  rw [Bool.eq_iff_iff];simp
 have V:=za E;clear E D H;go_enter Tryz.func186,Tryz.ntmps186;go_wp2_with fail;go_region;all_goals go_wp2
 all_goals refine bodyPost_ret (v:= .tuple #[.agg #[.int .u8 I,.int .u8 J,.int .u8 K,.int .u8 L,.int .u8 Q,.int .u8 R,.int .u8 S,.int .u8 U],.agg #[.int .u8 I,.int .u8 J,.int .u8 K,.int .u8 L,.int .u8 Q,.int .u8 R,.int .u8 S,.int .u8 U],.bool ((A.length:Int)==0)]) (by simp [results,Tryz.results186,go_sem]) rfl ⟨by rw [V.o],?_⟩
 all_goals exact(jn _ _ _ _).drew
theorem z1q (a p:List UInt8)(J:a.length=8)(K:p.length=8)(b H I:Nat)(w:World)(hr:w.rangeAt b H (hv p).toList):
  Calls Tryz.prog 186 #[.agg (hv a),.slice (some ⟨b,H,none⟩) 1 I,.bool false] w fun r w'=>r= .returned (.tuple #[.agg (hv p),.agg (hv p),.bool true])∧Below w.heap.size w w':=by
 obtain⟨y0,y1,y2,y3,y4,y5,y6,y7,Q⟩:=zj0 a J;obtain⟨R,S,U,V,W,X,Y,Z,L⟩:=zj0 p K;rw [L] at hr ⊢;rw [Q];have E:=fun(h A D:Obj)=>z6p (vy hr (jn w h A D));have c0:=fun h A D=>(E h A D).1;have c1:=fun h A D=>(E h A D).2.1;have c2:=fun h A D=>(E h A D).2.2.1;have c3:=fun h A D=>(E h A D).2.2.2.1;have c4:=fun h A D=>(E h A D).2.2.2.2.1;have c5:=fun h A D=>(E h A D).2.2.2.2.2.1;have c6:=fun h A D=>(E h A D).2.2.2.2.2.2.1;have c7:=fun h A D=>(E h A D).2.2.2.2.2.2.2;have aa:b < w.heap.size:=zk (p:=⟨b,H+0,none⟩) (hr 0 _ rfl);have n1:b≠w.heap.size:=by omega
 have n2:b≠w.heap.size+1:=by omega
 have n3:b≠w.heap.size+1+1:=by omega
 clear hr L Q J K E;go_enter Tryz.func186,Tryz.ntmps186;go_wp2_with fail;go_region;all_goals go_wp2
 all_goals refine bodyPost_ret (v:= .tuple #[.agg #[.int .u8 R,.int .u8 S,.int .u8 U,.int .u8 V,.int .u8 W,.int .u8 X,.int .u8 Y,.int .u8 Z],.agg #[.int .u8 R,.int .u8 S,.int .u8 U,.int .u8 V,.int .u8 W,.int .u8 X,.int .u8 Y,.int .u8 Z],.bool true]) (by simp [results,Tryz.results186,go_sem]) rfl ⟨rfl,?_⟩
 all_goals exact(jn _ _ _ _).drew
theorem z3y (a:List UInt8)(E:a.length=8)(v:Value)(D:List (List UInt8))(w:World)(I:D.length≠1)(h:Hss w v D):
  Calls Tryz.prog 186 #[.agg (hv a),v,.bool false] w fun r w'=>r= .returned (.tuple #[.agg (hv z8),.agg (hv z8),.bool false])∧Below w.heap.size w w':=by
 obtain⟨b,H,rfl,-,-,-⟩:=h;have J:(hv a).size=8:=by rw [qm,E]
 have A:=za (Fq.start w a);have K:((D.length:Int) != 1)=true:=by rw [bne_iff_ne];omega
 clear I E;go_enter Tryz.func186,Tryz.ntmps186;go_wp2_with (first
  | (refine wpList_store_row rfl 92 _ _ rfl (w.heap.size+1) (hv z8) rfl rfl 92 _ A.o.2.2.1 (by kernel_rfl) rfl (jy _) ?_)
  | (refine wpList_store_row rfl 92 _ _ rfl (w.heap.size+1+1) (hv z8) rfl rfl 92 _ (A.o.set1 z8).2.2.2 (by kernel_rfl) rfl (jy _) ?_))
 refine bodyPost_ret (v:= .tuple #[.agg (hv z8),.agg (hv z8),.bool false]) (vu Tryz.results186 _ _ (w.heap.size+1) (w.heap.size+1+1) 92 _ _ _ rfl ((A.o.set1 z8).set2 z8).2.2.1 rfl ((A.o.set1 z8).set2 z8).2.2.2 Tryz.underlying92 rfl (by kernel_rfl) (by kernel_rfl) _ rfl) rfl ⟨rfl,?_⟩;exact((A.o.set1 z8).set2 z8).1
end Go.Proofs.YtndkblnpbjffhaaGreatDoor
