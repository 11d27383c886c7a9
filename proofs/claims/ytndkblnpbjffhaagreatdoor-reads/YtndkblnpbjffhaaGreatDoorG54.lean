import Derived.Test.YtndkblnpbjffhaaGreatDoorG53
set_option maxHeartbeats 4000000
set_option maxRecDepth 100000
open Go.RowKit Go.Lib Go.Sort Go.ChangeShapes Go.WideShapes Go.ChangeAt
namespace Go.Proofs.YtndkblnpbjffhaaGreatDoor
theorem z9k (s:ByteArray):Value.string s=txv s.data.toList:=by
 unfold txv;congr 1
theorem z6u {H:Type}{enc:TypeId×Value→H}{w:World}{base:Nat}{I:Nat→Bool}{E:Bool}{W:Nat}{x:DataW H×List MemPlace}{a:Option Addr}{len K:Nat}
  (h:DataW.trod enc Tryz.prog w base I E W 22 [.slice a len K]=some x) :
  ∃ L:List OpR,L.length=len∧(∀ o∈L,-9223372036854775808≤o.a∧o.a≤9223372036854775807∧o.s.length≤maxLen)∧Oss w (.slice a len K) L:=by
 have ce:Tryz.prog.cellsOf 44=4:=by kernel_rfl
 have c3:Tryz.prog.cellsOf 3=1:=by kernel_rfl
 have c4:Tryz.prog.cellsOf 4=1:=by kernel_rfl
 have c9:Tryz.prog.cellsOf 9=1:=by kernel_rfl
 rcases Go.Deep.open_slice Tryz.underlying22 h with ⟨A,_⟩ | ⟨Q,l,c,m,n,D,Pl,A,hb,hl,hm,Y,_,hx⟩
 ·simp at A;obtain⟨rfl,rfl,rfl⟩:=A;exact⟨[],rfl,by simp,⟨none,0,rfl,Nat.le_refl _,.inl rfl⟩⟩
 ·simp at A;obtain⟨rfl,rfl,rfl⟩:=A;have ag:len≤m:=by rw [Y];split<;>omega
  have V:∀ i,i < len→∃ o:Int×Int×Bool×List UInt8,w.cell? (Q.add (i*4))=some (.int .i64 o.1)∧w.cell? (Q.add (i*4+1))=some (.int .i64 o.2.1)∧w.cell? (Q.add (i*4+2))=some (.bool o.2.2.1)∧w.cell? (Q.add (i*4+3))=some (txv o.2.2.2)∧-9223372036854775808≤o.2.1∧o.2.1≤9223372036854775807∧o.2.2.2.length≤maxLen:=by
   intro i R;obtain⟨U,h1,h2⟩:=hx i (by omega);rw [ce] at h1;obtain⟨_,r,J⟩:=World.cells?_some h1;obtain⟨xs,k,hk,ah,_,aa,S⟩:=DataW.trod_struct Tryz.underlying44 h2
   match xs,aa,U,r with
   | [y0,y1,y2,y3],_,[v0,v1,v2,v3],_ =>
    have g0:DataW.trod enc Tryz.prog w base I E k 3 [v0]=some y0:=by have:=S 0 _ rfl;simpa [c3] using this
    have g1:DataW.trod enc Tryz.prog w base I E k 3 [v1]=some y1:=by have:=S 1 _ rfl;simpa [c3] using this
    have g2:DataW.trod enc Tryz.prog w base I E k 4 [v2]=some y2:=by have:=S 2 _ rfl;simpa [c4] using this
    have g3:DataW.trod enc Tryz.prog w base I E k 9 [v3]=some y3:=by have:=S 3 _ rfl;simpa [c9] using this
    obtain⟨n0,e0,-,-⟩:=DataW.trod_int Tryz.underlying3 g0;obtain⟨n1,e1,-,af⟩:=DataW.trod_int Tryz.underlying3 g1;obtain⟨n2,e2,-⟩:=DataW.trod_bool Tryz.underlying4 g2;obtain⟨n3,e3,-,z3⟩:=DataW.trod_string Tryz.underlying9 g3;simp only [List.cons.injEq,and_true] at e0 e1 e2 e3;have d0:=J 0 (by omega);have d1:=J 1 (by omega);have d2:=J 2 (by omega);have d3:=J 3 (by omega);rw [Go.Deep.add_add] at d0 d1 d2 d3;have b1:=bounds_i64 af;exact⟨(n0,n1,n2,n3.data.toList),by simpa [e0] using d0,by simpa [e1] using d1,by simpa [e2] using d2,by simpa [e3,z9k] using d3,b1.1,b1.2,z3⟩
  obtain⟨g,X⟩:=Go.Deep.choose_lt V;have r:((List.range len).map fun i=>(⟨(g i).1,(g i).2.1,(g i).2.2.1,(g i).2.2.2⟩:OpR)).length=len:=by simp
  refine⟨(List.range len).map fun i=>(⟨(g i).1,(g i).2.1,(g i).2.2.1,(g i).2.2.2⟩:OpR),r,fun o ho=>?_,⟨some Q,K,by rw [r],by rw [r];exact hl,?_⟩⟩
  ·obtain⟨i,R,rfl⟩:=List.mem_map.1 ho;exact(X i (List.mem_range.1 R)).2.2.2.2
  ·by_cases h0:len=0
   ·left;simp [h0]
   ·right;obtain⟨b,ac,ae⟩:=Q;have Z:ae=none:=by simpa [Addr.add] using World.cell?_spot (X 0 (by omega)).1
    subst Z;refine⟨b,ac,rfl,fun i R=>?_⟩;rw [r] at R;have:=X i R;rw [Addr.add_mid,Addr.add_mid,Addr.add_mid,Addr.add_mid] at this;rw [List.getElem_map,List.getElem_range];exact⟨this.1,by rw [Nat.add_assoc];exact this.2.1,by rw [Nat.add_assoc];exact this.2.2.1,by rw [Nat.add_assoc];exact this.2.2.2.1⟩
theorem z90:ownKnob Tryz.prog.godebug=none:=by kernel_rfl
theorem zxy:laidOutB Tryz.prog=true:=by kernel_rfl
theorem z8m:(Tryz.prog.globals[15]?).map (·.type) =some 360:=by kernel_rfl
theorem z5v:Tryz.prog.cellsOf 360=20:=by kernel_rfl
theorem z1r:Tryz.prog.cellsOf 178=1:=by kernel_rfl
theorem z7j:Tryz.prog.globalNamed "strconv.ErrSyntax"=some 8:=by kernel_rfl
theorem z7w:Tryz.prog.globalNamed "strconv.ErrRange"=some 9:=by kernel_rfl
theorem z7q:(Tryz.prog.globals[8]?).map (·.type) =some 68:=by kernel_rfl
theorem z8t:(Tryz.prog.globals[9]?).map (·.type) =some 68:=by kernel_rfl
theorem znd {W:World}{n nm:String}{d:DataW Unit}{rest:List (String×DataW Unit)}{g:Nat}(H:Tryz.prog.globalNamed n=some g)(D:(Tryz.prog.globals[g]?).map (·.type)=some 68)
  (h:laidMet Tryz.prog ((n,.iface nm d)::rest) W):∃ K p,W.cell? ⟨g,0,none⟩=some (.iface K p):=by
 obtain⟨R,⟨Q,S,cs,I,p,q,r,A,E,J,_,_⟩,_⟩:=h;obtain rfl:=Option.some.inj (H.symm.trans r);obtain rfl:=Option.some.inj (D.symm.trans A);obtain⟨L,u,v,e,_,_⟩:=iface_of_trod Tryz.underlying68 J;refine⟨u,v,?_⟩;have:=World.var?_cell H E 0;rw [this,← Array.getElem?_toList,e];rfl
theorem z5r {W:World}{rest:List (String×DataW Unit)}(h:laidMet Tryz.prog (("internal/strconv.uint64pow10",Rows.laid_internal_strconv_uint64pow10)::rest) W):Lib.TabIs Tryz.prog W "internal/strconv.uint64pow10" .u64 Lib.pow10Tab :=
 Lib.tabIs_of_head (rest:=rest) zqz z8m Tryz.underlying360 Tryz.underlying178 z1r z5v h
theorem z41 {W:World}(h:W.ShapedOpen Tryz.prog):∃ m,W.cell? ⟨12,0,none⟩=some (.int .i64 m) :=
 cell_of_shapedOpen_int (zero:=#[.int .i64 0]) (t:=3) h (of_decide_eq_true (by kernel_rfl)) (by kernel_rfl) rfl (by kernel_rfl) (by kernel_rfl) Tryz.underlying3
theorem zqp {H:Type}{enc:TypeId×Value→H}{os:Os}{f:FuncId}{I:Func}{s:OpenSpec}{h:List PathCond}{apart:Bool}{laid:List (String×DataW Unit)}(w0:World)(args:Array Value)(A:w0.os=os)
  (E:(w0.forCall (fun _ _=>0) ⟨#[],args,[]⟩).Shaped Tryz.checked.prog)
  (r:Input.okWideB Tryz.checked.prog (w0.forCall (fun _ _=>0) ⟨#[],args,[]⟩) f ⟨#[],args,[]⟩=true)
  (D:s.preRow enc Tryz.checked.prog I h apart laid (w0.forCall (fun _ _=>0) ⟨#[],args,[]⟩).memory args) :
  ∃(w:World) (tape:Tape) (i:Input),w.os=os∧(w.forCall tape i).Shaped Tryz.checked.prog∧i.vars=[]∧Input.okWide Tryz.checked.prog (w.forCall tape i) .any w.heap.size f i ∧
   s.preRow enc Tryz.checked.prog I h apart laid (w.forCall tape i).memory i.args∧({}:Assume).holds Tryz.checked.prog (lone (Frame.enter Tryz.checked.prog f i.args .normal) [] (w.forCall tape i)) :=
 ⟨w0,fun _ _=>0,⟨#[],args,[]⟩,A,E,(Input.okWide_of_okWideB (base:=0) r).1,(Input.okWide_of_okWideB r).2,D,by
  simp only [Assume.holds];exact⟨by simp,by simp,fun _=>Modest.zero,by simp,by simp⟩⟩
theorem zug:Tryz.prog.cellsOf 346=1:=by kernel_rfl
theorem z3f:Tryz.prog.cellsOf 9=1:=by kernel_rfl
theorem zy0 : "*" ++ "errors.errorString" = "*errors.errorString":=by decide
theorem z9n (u:TypeId)(h:Tryz.prog.typeName? 3 u=some "*errors.errorString"):u=344 :=
 typeName_ptr_named (nm := "errors.errorString") (by rw [zy0];kernel_rfl) (by kernel_rfl) (by decide) u (by rw [zy0];exact h)
theorem zcp {W:World}{n:String}{g:Nat}{R:List UInt8}{r:List (String×DataW Unit)}{Q:List MemPlace}
  (h:DataW.LaidVars Tryz.prog W ((n,.iface "*errors.errorString" (.ptr (.agg [.lit (.string R)])))::r) Q)
  (J:∀ b E,MemPlace.cell b E∈Q→(∃ c t,W.heap[b]?=some (.cells c t (0,0)))∧∀ u v,W.cell? ⟨b,E,none⟩=some (.iface u v)→Value.okWide Tryz.prog W .any 0 u v)
  (X:Tryz.prog.globalNamed n=some g) (ht:(Tryz.prog.globals[g]?).map (·.type)=some 68) :
  ∃ a q,W.cell? ⟨g,0,none⟩=some (.iface 344 (.pointer (some a)))∧DataW.LaidVars Tryz.prog W r q∧Q= .cell g 0:: .cell a.block a.off::q:=by
 obtain⟨g0,t0,H,f0,p0,q0,A,K,D,I,Y,U⟩:=h;obtain rfl:=Option.some.inj (X.symm.trans A);obtain rfl:=Option.some.inj (ht.symm.trans K);subst U;obtain⟨l0⟩:=H;have L:∀ u v,l0=[.iface u v]→Value.okWide Tryz.prog W .any 0 u v:=fun u v e=>by
  subst e;exact(J g 0 (by simp [MemPlace.row])).2 u v (by simpa using World.var?_cell A D 0)
 obtain⟨S,s0,rfl,V,Z,aa,rfl⟩:=errorString_of_trod Tryz.underlying68 z9n Tryz.underlying344 Tryz.underlying346 rfl rfl Tryz.underlying9 zug z3f I L;exact⟨S,q0,by simpa using World.var?_cell A D 0,Y,by simp [MemPlace.row,List.range_succ]⟩
theorem zof {W:World}{rest:List (String×DataW Unit)}(h:laidMet Tryz.prog (("tiles/api.ErrEntry",Rows.laid_tiles_api_ErrEntry)::("tiles/api.ErrRange",Rows.laid_tiles_api_ErrRange)::("tiles/api.ErrCheckpoint",Rows.laid_tiles_api_ErrCheckpoint)::("tiles/api.ErrOld",Rows.laid_tiles_api_ErrOld)::("tiles/api.ErrProof",Rows.laid_tiles_api_ErrProof)::("tiles/api.ErrTile",Rows.laid_tiles_api_ErrTile)::("tiles/api.ErrFailed",Rows.laid_tiles_api_ErrFailed)::rest) W):∃ U,ja W U:=by
 obtain⟨ps,hv,X,r⟩:=h;obtain⟨A,q0,Y,v0,D⟩:=zcp (g:=1) hv r (by kernel_rfl) (by kernel_rfl);obtain⟨H,q1,Z,v1,e1⟩:=zcp (g:=2) v0 (fun b o hm=>r b o (by rw [D];simp [hm])) (by kernel_rfl) (by kernel_rfl);subst e1;obtain⟨I,q2,c2,v2,e2⟩:=zcp (g:=0) v1 (fun b o hm=>r b o (by rw [D];simp [hm])) (by kernel_rfl) (by kernel_rfl);subst e2;obtain⟨J,q3,c3,v3,e3⟩:=zcp (g:=3) v2 (fun b o hm=>r b o (by rw [D];simp [hm])) (by kernel_rfl) (by kernel_rfl);subst e3;obtain⟨K,q4,c4,v4,e4⟩:=zcp (g:=4) v3 (fun b o hm=>r b o (by rw [D];simp [hm])) (by kernel_rfl) (by kernel_rfl);subst e4;obtain⟨L,q5,c5,v5,e5⟩:=zcp (g:=6) v4 (fun b o hm=>r b o (by rw [D];simp [hm])) (by kernel_rfl) (by kernel_rfl);subst e5;obtain⟨Q,q6,c6,v6,e6⟩:=zcp (g:=5) v5 (fun b o hm=>r b o (by rw [D];simp [hm])) (by kernel_rfl) (by kernel_rfl);subst e6;clear v6;subst D;have S:([A,H,I,J,K,L,Q].map fun a=>MemPlace.cell a.block a.off).Nodup:=by
  refine List.Nodup.sublist ?_ X
  repeat (first | exact List.nil_sublist _ | (apply List.Sublist.cons;apply List.Sublist.cons_cons))
 rw [List.Nodup,List.pairwise_map] at S;refine⟨fun i=>[A,H,I,J,K,L,Q].getD i A,Y,Z,c2,c3,c4,c5,c6,?_,?_⟩
 ·have key:∀ i j,i < j→(R:j < 7)→[A,H,I,J,K,L,Q].getD i A≠[A,H,I,J,K,L,Q].getD j A:=by
   intro i j E R e;have:=List.pairwise_iff_getElem.1 S i j (by simp;omega) (by simpa using R) E;rw [List.getD_eq_getElem?_getD,List.getD_eq_getElem?_getD,List.getElem?_eq_getElem (by simp;omega),List.getElem?_eq_getElem (by simpa using R),Option.getD_some,Option.getD_some] at e;exact this (by rw [e])
  intro i j V R E;rcases Nat.lt_or_gt_of_ne E with h | h
  ·exact key i j h R
  ·exact fun e=>key j i h V e.symm
 ·intro i V
  match i,V with
  | 0,_=>exact(r A.block A.off (by simp)).1
  | 1,_=>exact(r H.block H.off (by simp)).1
  | 2,_=>exact(r I.block I.off (by simp)).1
  | 3,_=>exact(r J.block J.off (by simp)).1
  | 4,_=>exact(r K.block K.off (by simp)).1
  | 5,_=>exact(r L.block L.off (by simp)).1
  | 6,_=>exact(r Q.block Q.off (by simp)).1
def zem:List (String×DataW Unit):=[("math/bits.deBruijn32tab",Rows.laid_math_bits_deBruijn32tab),("math/bits.deBruijn64tab",Rows.laid_math_bits_deBruijn64tab),("internal/strconv.uint64pow10",Rows.laid_internal_strconv_uint64pow10),("unicode/utf8.acceptRanges",Rows.laid_unicode_utf8_acceptRanges),("strconv.ErrRange",Rows.laid_strconv_ErrRange),("strconv.ErrSyntax",Rows.laid_strconv_ErrSyntax),("tiles/api.ErrEntry",Rows.laid_tiles_api_ErrEntry),("tiles/api.ErrRange",Rows.laid_tiles_api_ErrRange),("tiles/api.ErrCheckpoint",Rows.laid_tiles_api_ErrCheckpoint),("tiles/api.ErrOld",Rows.laid_tiles_api_ErrOld),("tiles/api.ErrProof",Rows.laid_tiles_api_ErrProof),("tiles/api.ErrTile",Rows.laid_tiles_api_ErrTile),("tiles/api.ErrFailed",Rows.laid_tiles_api_ErrFailed),("unicode/utf8.first",Rows.laid_unicode_utf8_first)]
theorem z4o {W:World}(h:laidMetH Tryz.prog Rows.readsRow.laid W):laidMet Tryz.prog zem W∧handlesMet Tryz.prog [("errors.errorType",Rows.laid_errors_errorType)] W:=h
theorem z9p {W:World}(h:laidMet Tryz.prog zem W)(r:W.ShapedOpen Tryz.prog):Env W :=
 ⟨z5r h.tail.tail,znd z7j z7q h.tail.tail.tail.tail.tail,znd z7w z8t h.tail.tail.tail.tail,z41 r⟩
theorem z27 {W:World}(r:laidMet Tryz.prog zem W):∃ h,ja W h:=zof r.tail.tail.tail.tail.tail.tail
theorem z67:(Tryz.prog.globals[11]?).map (·.type) =some 335:=by kernel_rfl
theorem zya:Tryz.prog.globalNamed "math/bits.deBruijn64tab"=some 11:=by kernel_rfl
theorem z5g:Tryz.prog.cellsOf 335=64:=by kernel_rfl
theorem zz9:Tryz.prog.cellsOf 5=1:=by kernel_rfl
theorem z3t {W:World}{rest:List (String×DataW Unit)}(h:laidMet Tryz.prog (("math/bits.deBruijn64tab",Rows.laid_math_bits_deBruijn64tab)::rest) W):zdq W:=by
 have h1:Lib.TabIs Tryz.prog W "math/bits.deBruijn64tab" .u8 (Lib.deBruijn64tab.map fun(n:Nat)=>(n:Int)):=Lib.tabIs_of_head (rest:=rest) zya z67 Tryz.underlying335 Tryz.underlying5 zz9 z5g h;intro j r;have h2:=World.var?_cell zya h1 j;rw [h2];simp [List.getD_eq_getElem?_getD,List.getElem?_eq_getElem r]
theorem z8h {W:World}(h:laidMet Tryz.prog zem W):zdq W:=z3t h.tail
def zhi:Array Value:=#[.string ⟨#[]⟩,.int .i64 0,.slice none 0 0]
theorem zto {w0:World}{laid:List (String×DataW Unit)}(args:Array Value)(E:w0.layFits Tryz.prog laid []=true)(H:w0.layIfaces Tryz.prog laid (w0.layVars Tryz.prog laid)=true):
  laidMet Tryz.prog laid ((w0.layVars Tryz.prog laid).forCall (fun _ _=>0) ⟨#[],args,[]⟩).memory:=by
 have r:(laid.filter fun x=>(laid.map (·.1)).contains x.1)=laid:=List.filter_eq_self.2 fun x A=>List.contains_iff_mem.2 (List.mem_map.2 ⟨x,A,rfl⟩);have D:(laid.filter fun x=>!(laid.map (·.1)).contains x.1)=[]:=List.filter_eq_nil_iff.2 fun x A=>by rw [List.contains_iff_mem.2 (List.mem_map.2 ⟨x,A,rfl⟩)];simp
 have h:laidMet Tryz.prog laid (w0.layVars Tryz.prog laid):=laidMet_layVars (w0:=w0) (laid.map (·.1)) [] (by rw [r]) (by rw [r];exact E) (by rw [r];exact H) (by rw [D];exact LaidIn.none);exact h.of_heap (by simp [World.memory,World.forCall,Input.heap])
def zfs (w:World):World:={ w with heap:=w.heap.modify 7 fun
 | .cells _ t frozen=> .cells #[tyV 68] t frozen
 | o=>o }
theorem z9e (os:Os):laidMetH Tryz.prog Rows.readsRow.laid (((zfs (World.holding Tryz.prog os ⟨#[],#[],[]⟩)).layVars Tryz.prog zem).forCall (fun _ _=>0) ⟨#[],zhi,[]⟩).memory :=
 laidMetH_of_parts (zto (laid:=zem) zhi (by kernel_rfl) (by kernel_rfl)) (by kernel_rfl)
theorem z1o (os:Os):(((zfs (World.holding Tryz.prog os ⟨#[],#[],[]⟩)).layVars Tryz.prog zem).forCall (fun _ _=>0) ⟨#[],zhi,[]⟩).Shaped Tryz.prog:=World.shaped_of_ZipB (by kernel_rfl) (by kernel_rfl)
theorem z6d (os:Os){H:Type}(enc:TypeId×Value→H):∃ places,DataW.whole enc Tryz.prog (((zfs (World.holding Tryz.prog os ⟨#[],#[],[]⟩)).layVars Tryz.prog zem).forCall (fun _ _=>0) ⟨#[],zhi,[]⟩).memory Tryz.f3.params.toList Rows.readsSpec.vars false zhi.toList 8=some ([.lit (.string []),.lit (.int .i64 0),.nil],[],places) :=
 ⟨[],by kernel_rfl⟩
theorem z9m (os:Os):Input.okWideB Tryz.checked.prog (((zfs (World.holding Tryz.prog os ⟨#[],#[],[]⟩)).layVars Tryz.prog zem).forCall (fun _ _=>0) ⟨#[],zhi,[]⟩) 3 ⟨#[],zhi,[]⟩=true:=by kernel_rfl
theorem yac (os:Os):((zfs (World.holding Tryz.prog os ⟨#[],#[],[]⟩)).layVars Tryz.prog zem).os=os:=(World.layVars_os _ _ _).trans rfl
section
open Go.ChangeMaps (open_string shut_string)
theorem zrb (os:Os)(Y:os.Started)(H:Type)(enc:TypeId×Value→H)(F:Stop.Interp):
  ReturnsInHanded {} Tryz.checked os 3 .any ((OpenSpec.ofChange Rows.readsSpec).preRow enc Tryz.prog Tryz.f3 Rows.readsRow.domain false Rows.readsRow.laid) (((OpenSpec.ofChange Rows.readsSpec).at F).post enc Tryz.prog Tryz.f3 false true false false):=by
 obtain⟨places,hx⟩:=z6d os enc;refine returnsInHanded_of_row (C:=Tryz.checked) (s:=OpenSpec.ofChange Rows.readsSpec) z90 Y (by kernel_rfl) Tryz.func3
  (zqp (enc:=enc) ((zfs (World.holding Tryz.prog os ⟨#[],#[],[]⟩)).layVars Tryz.prog zem) zhi (yac os) (z1o os) (z9m os)
   (OpenSpec.preRow_of_cond 8 hx (by kernel_rfl) (fun k hk=>by cases hk) (by kernel_rfl) (z9e os))) ?_
 intro W base args ds gs aa J hW _ _ _ hL V _;have A:∀(j:Nat) t v,Tryz.f3.params[j]?=some t→args[j]?=some v→Value.okWide Tryz.prog W .any base t v:=J;have R:=hW;obtain⟨p,q,I,hV,rfl,ah,ai⟩:=hW;have Z:DataW.TrodAll enc Tryz.prog W 0 (fun _=>true) true Tryz.f3.params.toList args.toList ds p:=I;rw [Tryz.params3] at Z A;obtain⟨v0,aj,d0,ac,p0,q0,ag,rfl,rfl,h0,r0⟩:=trodAll_cons Z;obtain⟨v1,ak,d1,ad,p1,q1,rfl,rfl,rfl,h1,r1⟩:=trodAll_cons r0;obtain⟨v2,al,d2,ae,p2,q2,rfl,rfl,rfl,h2,r2⟩:=trodAll_cons r1;obtain⟨rfl,rfl,rfl⟩:=trodAll_nil r2;obtain rfl:args=#[v0,v1,v2]:=by cases args;simp_all
 obtain⟨rfl,rfl⟩:=trodVars_none hV;obtain⟨s0,rfl,rfl,rfl,w0⟩:=open_string Tryz.underlying9 (A 0 9 v0 rfl rfl) h0;obtain⟨i1,rfl,rfl,rfl,w1⟩:=open_int Tryz.underlying3 (A 1 3 v1 rfl rfl) h1;obtain⟨a2,K,Q,rfl⟩:=okWide_slice Tryz.underlying22 (A 2 22 v2 rfl rfl);have k2:=h2;have X:∀ x∈p2,x.block < W.heap.size:=by obtain⟨m,hm⟩:=k2;exact DataW.trod_lt m _ _ _ hm
 obtain⟨r,-,S,U⟩:∃ r:List OpR,r.length=K∧(∀ o∈r,-9223372036854775808≤o.a∧o.a≤9223372036854775807∧o.s.length≤maxLen)∧Oss W (.slice a2 K Q) r:=by
  obtain⟨af,hf⟩:=h2;exact z6u (by simpa [Value.cells] using hf)
 obtain⟨D,-⟩:=z4o hL;obtain⟨L,hs⟩:=z27 D;clear I J;refine(z0g W L (z9p D V) hs (z8h D) s0.data.toList i1 _ r w0 S U).mono fun e W' ⟨he,E⟩=>?_;subst he;exact⟨_,rfl,_,_,_,[],_,[],R,trodAll_mk1 (shut_bool Tryz.underlying4 _),
  (trodAll_cons_mk (shut_string Tryz.underlying9 w0) (trodAll_cons_mk (shut_int Tryz.underlying3 w1) (trodAll_cons_mk (Below.trod zxy (by kernel_rfl) (of_decide_eq_true (by kernel_rfl)) k2 E X) trodAll_mk0))),rfl,E.frame _,fun h=>by cases h⟩
theorem zw4:Rows.ReadsSaid :=
 OpenClaim.holds_of_cond 3 Tryz.f3 rfl rfl rfl rfl rfl rfl rfl ⟨rfl,rfl,rfl,rfl,rfl⟩ rfl rfl rfl rfl rfl (by kernel_rfl) Tryz.func3 (by kernel_rfl)
  (of_decide_eq_true (by kernel_rfl)) (by unfold Func.isWrapper;first | (rw [if_pos (by decide +kernel)];kernel_rfl) | (rw [if_neg (by decide +kernel)];exact⟨rfl,rfl⟩))
  (fun os h H enc _ F=>by rw [OpenClaim.pre_eq_preRow];exact zrb os h H enc F)
theorem zmx (t:TypeId)(h:t=9∨t=3∨t=22):Tryz.prog.wantsStandIn t=false:=by
 rcases h with rfl | rfl | rfl
 ·kernel_rfl
 ·kernel_rfl
 ·kernel_rfl
theorem reads_card:Rows.ReadsCardSaid :=
 Claim7.holds_tied_plain_at .later [] _ _ _ _ zw4 (fun _ h=>by cases h) (by kernel_rfl) (fun _ h=>by cases h) reads_row_tie rfl ⟨rfl,rfl⟩ (by kernel_rfl) rfl
  (fun f D E A=>by
   obtain rfl:f=3:=Option.some.inj ((show Tryz.prog.funcNamed "tiles/tileslaw.Reads"=some 3 by kernel_rfl).symm.trans E) |>.symm;obtain rfl:D=Tryz.f3:=(Option.some.inj (Tryz.func3.symm.trans A)).symm;exact⟨by kernel_rfl,fun j t r=>by
    rw [Tryz.params3] at r
    match j,r with
    | 0,r=>exact zmx t (.inl (Option.some.inj r).symm)
    | 1,r=>exact zmx t (.inr (.inl (Option.some.inj r).symm))
    | 2,r=>exact zmx t (.inr (.inr (Option.some.inj r).symm))
    | j+3,r=>simp at r⟩)
  (by kernel_rfl)
end
end Go.Proofs.YtndkblnpbjffhaaGreatDoor
