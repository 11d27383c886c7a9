import Derived.Test.YtinhekmmdlhfkaaGreatDoorG41
import Derived.Test.YtinhekmmdlhfkaaGreatDoorG20
import Derived.Test.YtinhekmmdlhfkaaGreatDoorG40
namespace Go.Proofs.YtinhekmmdlhfkaaGreatDoor
section
open Go.RowKit
set_option maxRecDepth 100000
def PlAt (w:World)(pb lb:Nat):Prop:=w.heap[pb]?=some (.cells #[.pointer (some ⟨lb,0,none⟩)] 75 (0,0))
theorem DiskAt.later {w w':World}{O:Nat→Prop}{db:Nat}{d:Dk}{a:World}(h:DiskAt w (Ext O a w) db d)(hb:Below w.heap.size w w'):DiskAt w' (Ext O a w') db d:=(h.stay (O1:=fun _=>False) (T:=[]) (.of_below hb) (by simp) (by simp)).mono (fun _ h=>Ext.more hb.size _ h)
theorem LogAt.later {w w':World}{O:Nat→Prop}{db lb:Nat}{l:Lg}{a:World}(h:LogAt w (Ext O a w) db lb l)(hb:Below w.heap.size w w'):LogAt w' (Ext O a w') db lb l:=(h.stay (O1:=fun _=>False) (T:=[]) (.of_below hb) (by simp) (by simp) (by simp)).mono (fun _ h=>Ext.more hb.size _ h)
theorem results_tmp_cell {P:Program}{fn:Func}{p u:Tmp}{ty:TypeId}(h:fn.results=#[.tmp u,.cell p ty])(tmps:Array Value)(w:World)(g:Nat)(t:TypeId)(cs:Array Value)(fr:Nat×Nat)(d:TypeDesc)
  (hp:tmps.getD p undef= .pointer (some ⟨g,0,none⟩)) (hg:w.heap[g]?=some (.cells cs t fr))
  (hu:P.underlying ty=some d) (hd:(match d with | .struct _ | .array _ _=>true | _=>false)=true) (hi:(P.info? ty).map (·.size)=some cs.size) (x:Value) (hx:tmps.getD u undef=x) :
  (results fn tmps).run P w= .ok (.tuple #[x,.agg cs]) w:=by
 have hl:=run_loadVar_row (P:=P) w g t ty cs fr d hg hu hd hi
 simp only [Array.getD_eq_getD_getElem?] at hp hx
 simp [results,h,hp,hx,asAddr,hl]
def TRow (B:Nat)(w:World):Prop:=w.heap[B]?=some (.cells #[.int .i64 0,.string ⟨#[]⟩] 29 (0,0))
theorem TRow.below {B:Nat}{w w':World}(h:TRow B w)(hb:Below w.heap.size w w'):TRow B w':=by
 unfold TRow at *
 rw [hb.block _ (heap_some_lt h)]
 exact h
theorem TRow.turn {B:Nat}{w w':World}{O:Nat→Prop}{T:List Nat}(h:TRow B w)(ht:Turn O T w w')(hT:29∉T):TRow B w':=ht.keep h hT
theorem turn_sets2 {O:Nat→Prop}{T:List Nat}{w W:World}{u v:Value}{i j:Nat}(h:Turn O T w W):Turn O T w ((W.setCell ⟨w.heap.size,i,none⟩ u).setCell ⟨w.heap.size,j,none⟩ v):=(h.setNew (Nat.le_refl _) _ _).setNew (Nat.le_refl _) _ _
theorem DiskAt.sets2 {W w:World}{O:Nat→Prop}{db:Nat}{d:Dk}{u v:Value}{i j B:Nat}(h:DiskAt W (Ext O w W) db d)(hr:TRow B W):DiskAt ((W.setCell ⟨B,i,none⟩ u).setCell ⟨B,j,none⟩ v) (Ext O w ((W.setCell ⟨B,i,none⟩ u).setCell ⟨B,j,none⟩ v)) db d:=by
 have t1:Turn (fun _=>True) [29] W (W.setCell ⟨B,i,none⟩ u):=(Turn.refl _ _ _).set (.inl trivial) hr (by simp) u
 have t2:Turn (fun _=>True) [29] (W.setCell ⟨B,i,none⟩ u) ((W.setCell ⟨B,i,none⟩ u).setCell ⟨B,j,none⟩ v):=(Turn.refl _ _ _).set (.inl trivial) (dset hr i u) (by simp) v
 exact((h.stay t1 (by decide) (by decide)).stay t2 (by decide) (by decide)).mono (fun k hk=>ext_set k (ext_set k hk))
theorem LogAt.sets2 {W w:World}{O:Nat→Prop}{db lb:Nat}{l:Lg}{u v:Value}{i j B:Nat}(h:LogAt W (Ext O w W) db lb l)(hr:TRow B W):LogAt ((W.setCell ⟨B,i,none⟩ u).setCell ⟨B,j,none⟩ v) (Ext O w ((W.setCell ⟨B,i,none⟩ u).setCell ⟨B,j,none⟩ v)) db lb l:=by
 have t1:Turn (fun _=>True) [29] W (W.setCell ⟨B,i,none⟩ u):=(Turn.refl _ _ _).set (.inl trivial) hr (by simp) u
 have t2:Turn (fun _=>True) [29] (W.setCell ⟨B,i,none⟩ u) ((W.setCell ⟨B,i,none⟩ u).setCell ⟨B,j,none⟩ v):=(Turn.refl _ _ _).set (.inl trivial) (dset hr i u) (by simp) v
 exact((h.stay t1 (by decide) (by decide) (by decide)).stay t2 (by decide) (by decide) (by decide)).mono (fun k hk=>ext_set k (ext_set k hk))
end
section
set_option maxHeartbeats 1000000
open Go.RowKit
set_option maxRecDepth 100000
theorem of_sent3 (at_:Nat→Addr)(w:World)(hs:Sents w at_):
  Calls Tryz.prog 27 #[.iface 326 (.pointer (some (at_ 3)))] w fun e w'=>e= .returned (told 4)∧Below w.heap.size w w':=by
 obtain⟨h0,h1,h2,h3,h4,h5,h6,hap,hbl⟩:=hs
 have Hap:=hide hap
 have Hbl:=hide hbl
 clear hap hbl h5
 have g0:∀ o,(w.alloc o).cell? ⟨1,0,none⟩=some (.iface 326 (.pointer (some (at_ 0)))):=fun o=>by rw [cell_old _ _ ⟨_,0,none⟩ (cell_lt h0)];exact h0
 have g1:∀ o,(w.alloc o).cell? ⟨2,0,none⟩=some (.iface 326 (.pointer (some (at_ 1)))):=fun o=>by rw [cell_old _ _ ⟨_,0,none⟩ (cell_lt h1)];exact h1
 have g2:∀ o,(w.alloc o).cell? ⟨3,0,none⟩=some (.iface 326 (.pointer (some (at_ 2)))):=fun o=>by rw [cell_old _ _ ⟨_,0,none⟩ (cell_lt h2)];exact h2
 have g3:∀ o,(w.alloc o).cell? ⟨4,0,none⟩=some (.iface 326 (.pointer (some (at_ 3)))):=fun o=>by rw [cell_old _ _ ⟨_,0,none⟩ (cell_lt h3)];exact h3
 have g4:∀ o,(w.alloc o).cell? ⟨5,0,none⟩=some (.iface 326 (.pointer (some (at_ 4)))):=fun o=>by rw [cell_old _ _ ⟨_,0,none⟩ (cell_lt h4)];exact h4
 have g6:∀ o,(w.alloc o).cell? ⟨0,0,none⟩=some (.iface 326 (.pointer (some (at_ 6)))):=fun o=>by rw [cell_old _ _ ⟨_,0,none⟩ (cell_lt h6)];exact h6
 clear h0 h1 h2 h3 h4 h6
 have hno:=assert_no (.pointer (some (at_ 3)))
 have hd0:∀ o1 o2 o3,(binOp .eql 70 (.iface 326 (.pointer (some (at_ 3)))) (.iface 326 (.pointer (some (at_ 0))))).run Tryz.prog (((w.alloc o1).alloc o2).alloc o3)= .ok (.bool false) (((w.alloc o1).alloc o2).alloc o3):=fun o1 o2 o3=>by
  obtain⟨c0,t0,e0⟩:=Hbl.out 0 (by decide)
  obtain⟨c1,t1,e1⟩:=Hbl.out 3 (by decide)
  exact errs_differ (Hap.out 3 0 (by decide) (by decide) (by decide)) ⟨c1,t1,heap_alloc_old (heap_alloc_old (heap_alloc_old e1))⟩ ⟨c0,t0,heap_alloc_old (heap_alloc_old (heap_alloc_old e0))⟩
 have hd1:∀ o1 o2 o3,(binOp .eql 70 (.iface 326 (.pointer (some (at_ 3)))) (.iface 326 (.pointer (some (at_ 1))))).run Tryz.prog (((w.alloc o1).alloc o2).alloc o3)= .ok (.bool false) (((w.alloc o1).alloc o2).alloc o3):=fun o1 o2 o3=>by
  obtain⟨c0,t0,e0⟩:=Hbl.out 1 (by decide)
  obtain⟨c1,t1,e1⟩:=Hbl.out 3 (by decide)
  exact errs_differ (Hap.out 3 1 (by decide) (by decide) (by decide)) ⟨c1,t1,heap_alloc_old (heap_alloc_old (heap_alloc_old e1))⟩ ⟨c0,t0,heap_alloc_old (heap_alloc_old (heap_alloc_old e0))⟩
 have hd2:∀ o1 o2 o3,(binOp .eql 70 (.iface 326 (.pointer (some (at_ 3)))) (.iface 326 (.pointer (some (at_ 2))))).run Tryz.prog (((w.alloc o1).alloc o2).alloc o3)= .ok (.bool false) (((w.alloc o1).alloc o2).alloc o3):=fun o1 o2 o3=>by
  obtain⟨c0,t0,e0⟩:=Hbl.out 2 (by decide)
  obtain⟨c1,t1,e1⟩:=Hbl.out 3 (by decide)
  exact errs_differ (Hap.out 3 2 (by decide) (by decide) (by decide)) ⟨c1,t1,heap_alloc_old (heap_alloc_old (heap_alloc_old e1))⟩ ⟨c0,t0,heap_alloc_old (heap_alloc_old (heap_alloc_old e0))⟩
 have hsm:∀ W,(binOp .eql 70 (.iface 326 (.pointer (some (at_ 3)))) (.iface 326 (.pointer (some (at_ 3))))).run Tryz.prog W= .ok (.bool true) W:=fun W=>by
  obtain⟨i,hi,hcmp⟩:=Option.map_eq_some_iff.1 compPtr
  obtain⟨j,hj,hjs⟩:=Option.map_eq_some_iff.1 sizeStr
  exact run_eql_iface_ptr_same W (at_ 3) Tryz.underlying70 Tryz.underlying326 hi hcmp hj
 go_enter Tryz.func27,Tryz.ntmps27
 go_wp2_with fail
 refine wp_loop_rounds 5 ?_
 rw [rounds_succ]
 go_wp2_with fail
 rw [rounds_succ]
 go_wp2_with fail
 rw [rounds_succ]
 go_wp2_with fail
 rw [rounds_succ]
 go_wp2_with fail
 rw [rounds_succ]
 go_wp2_with fail
 refine bodyPost_ret (v:=told 4) (results_cell_row Tryz.results27 _ _ w.heap.size 29 _ (0,0) _ rfl (heap_alloc_old (heap_alloc_old (heap_alloc_last _ _))) Tryz.underlying29 rfl (by kernel_rfl)) rfl ⟨rfl,?_⟩
 exact((below_alloc _ _).trans ((below_alloc _ _).mono (by simp))).trans ((below_alloc _ _).mono (by simp;omega))
end
section
open Go.RowKit
set_option maxRecDepth 100000
def ErrV (at_:Nat→Addr)(w:World)(e:Value)(t:Int×List UInt8):Prop :=
 (e= .nilIface∧t=(0,[]))∨(e=errS at_ 1∧t=(2,[]))∨(e=errS at_ 2∧t=(3,[]))∨(e=errS at_ 3∧t=(4,[]))∨(e=errS at_ 4∧t=(5,[])) ∨
 (∃ p g,e=pathE g∧w.heap[g]?=some (.cells #[txv p,errS at_ 5] 115 (0,0))∧t=(6,p))
def toldT (t:Int×List UInt8):Value:= .agg #[.int .i64 t.1,.string ⟨t.2.toArray⟩]
theorem ErrV.turn {at_:Nat→Addr}{w w':World}{N:Nat→Prop}{T:List Nat}{e:Value}{t:Int×List UInt8}(h:ErrV at_ w e t)(ht:Turn N T w w')(hT:115∉T):ErrV at_ w' e t:=by
 rcases h with h | h | h | h | h | ⟨p,g,h1,h2,h3⟩
 ·exact .inl h
 ·exact .inr (.inl h)
 ·exact .inr (.inr (.inl h))
 ·exact .inr (.inr (.inr (.inl h)))
 ·exact .inr (.inr (.inr (.inr (.inl h))))
 ·exact .inr (.inr (.inr (.inr (.inr ⟨p,g,h1,ht.keep h2 hT,h3⟩))))
theorem of_all (at_:Nat→Addr)(w:World)(hs:Sents w at_)(e:Value)(t:Int×List UInt8)(h:ErrV at_ w e t):
  Calls Tryz.prog 27 #[e] w fun r w'=>r= .returned (toldT t)∧Below w.heap.size w w':=by
 rcases h with ⟨rfl,rfl⟩ | ⟨rfl,rfl⟩ | ⟨rfl,rfl⟩ | ⟨rfl,rfl⟩ | ⟨rfl,rfl⟩ | ⟨p,g,rfl,h2,rfl⟩
 ·exact of_nil at_ w hs
 ·exact of_range at_ w hs
 ·exact of_sent2 at_ w hs
 ·exact of_sent3 at_ w hs
 ·exact of_sent4 at_ w hs
 ·exact of_tile at_ g p w hs h2
def erT (e:Er):Int×List UInt8:=(e.n,e.p)
def outU (o:Sum Er (List (List UInt8))):List (List UInt8)×(Int×List UInt8):=match o with
 | .inl e=>([],erT e)
 | .inr ps=>(ps,(0,[]))
theorem ownHs_nil (B:Nat)(w:World):OwnHs B w (.slice none 0 0) []:=⟨rfl,.inl ⟨rfl,rfl⟩⟩
theorem UpdR.tell {at_:Nat→Addr}{B:Nat}{w':World}{o:Sum Er (List (List UInt8))}{r:Ending}(h:UpdR at_ B w' o r):∃ v e,r= .returned (.tuple #[v,e])∧OwnHs B w' v (outU o).1∧(∀ p∈(outU o).1,p.length=8)∧ErrV at_ w' e (outU o).2:=by
 rcases h with (⟨ps,v,rfl,h2,h3,h4⟩ | ⟨p,g,rfl,h2,h3⟩ | ⟨rfl,h2⟩ | ⟨rfl,h2⟩) | ⟨rfl,h2⟩
 ·exact⟨v,_,h4,h2,h3,.inl ⟨rfl,rfl⟩⟩
 ·exact⟨_,_,h3,ownHs_nil _ _,by simp [outU],.inr (.inr (.inr (.inr (.inr ⟨p,g,rfl,h2,rfl⟩))))⟩
 ·exact⟨_,_,h2,ownHs_nil _ _,by simp [outU],.inr (.inr (.inr (.inr (.inl ⟨rfl,rfl⟩))))⟩
 ·exact⟨_,_,h2,ownHs_nil _ _,by simp [outU],.inr (.inr (.inr (.inl ⟨rfl,rfl⟩)))⟩
 ·exact⟨_,_,h2,ownHs_nil _ _,by simp [outU],.inr (.inr (.inl ⟨rfl,rfl⟩))⟩
def outR (o:Sum Er (List UInt8×List (List UInt8))):List UInt8×List (List UInt8)×(Int×List UInt8):=match o with
 | .inl e=>([],[],erT e)
 | .inr x=>(x.1,x.2,(0,[]))
theorem ReadR.tell {at_:Nat→Addr}{B:Nat}{w':World}{o:Sum Er (List UInt8×List (List UInt8))}{r:Ending}(h:ReadR at_ B w' o r):∃ x v e,r= .returned (.tuple #[x,v,e])∧EntV B w' x (outR o).1∧OwnHs B w' v (outR o).2.1∧(∀ p∈(outR o).2.1,p.length=8)∧ErrV at_ w' e (outR o).2.2:=by
 rcases h with ⟨e,ps,x,v,rfl,h2,h3,h4,h5⟩ | ⟨p,g,rfl,h2,h3⟩ | ⟨rfl,h2⟩
 ·exact⟨x,v,_,h5,h2,h3,h4,.inl ⟨rfl,rfl⟩⟩
 ·exact⟨_,_,_,h3,.inl ⟨rfl,rfl⟩,ownHs_nil _ _,by simp [outR],.inr (.inr (.inr (.inr (.inr ⟨p,g,rfl,h2,rfl⟩))))⟩
 ·exact⟨_,_,_,h2,.inl ⟨rfl,rfl⟩,ownHs_nil _ _,by simp [outR],.inr (.inr (.inr (.inr (.inl ⟨rfl,rfl⟩))))⟩
theorem CR.since {W0 w w0 w1:World}{O A OP:Nat→Prop}{cb nb db pm nm:Nat}{d:Dk}{c':Cl}{n':Nt}{P:(Nat→Prop)→Prop}(h:CR W0 w0 w1 O A OP cb nb db pm nm d c' n' P)(hb:Below w.heap.size w w0):CR W0 w w1 O A OP cb nb db pm nm d c' n' P:=by
 obtain⟨A',OP',hA,hO,hpv,hp⟩:=h.rest
 have hs:=hb.size
 exact⟨(Turn.of_below hb).trans (h.turn.mono (fun _ h=> .inl h) (fun _ h=>h)),⟨A',OP',⟨hA.1,fun b hb'=>(hA.2 b hb').imp id (fun h=>⟨by omega,h.2⟩)⟩,⟨hO.1,fun b hb'=>(hO.2 b hb').imp id (fun h=>⟨by omega,h.2⟩)⟩,hpv,hp⟩,h.sh⟩
theorem Pv.below {W0 w w':World}{O A OP:Nat→Prop}{cb nb pm nm:Nat}{c:Cl}(h:Pv W0 w O A OP cb nb pm nm c)(hb:Below w.heap.size w w'):Pv W0 w' O A OP cb nb pm nm c :=
 h.other (N:=fun _=>False) (T:=[]) (.of_below hb) (fun _ _ h=>h) (by simp)
theorem Sh.below {W0 w w':World}{O:Nat→Prop}{nb db:Nat}{d:Dk}{n:Nt}(h:Sh W0 w O nb db d n)(hb:Below w.heap.size w w'):Sh W0 w' O nb db d n :=
 h.past (G:=fun _=>False) (T:=[]) (.of_below hb) (fun _ h=>h.elim) (by simp) (by simp) (by simp) (by simp) (by simp)
abbrev TPc:Nat:=83
def PcAt (w:World)(pb cb:Nat):Prop:=w.heap[pb]?=some (.cells #[ptrV cb] TPc (0,0))
theorem turn_told {W:World}{B:Nat}(h:TRow B W)(u v:Value):Turn (fun k=>k=B) [29] W ((W.setCell ⟨B,0,none⟩ u).setCell ⟨B,1,none⟩ v):=by
 have t1:Turn (fun k=>k=B) [29] W (W.setCell ⟨B,0,none⟩ u):=Turn.set (O:=fun k=>k=B) (T:=[29]) (Turn.refl _ _ _) (.inl rfl) h (by simp) u
 exact Turn.set (O:=fun k=>k=B) (T:=[29]) t1 (.inl rfl) (dset h 0 u) (by simp) v
theorem trow_only {W:World}{B:Nat}(h:TRow B W):OnlyC (fun k=>k=B) [29] W:=fun k hk=>by
 subst hk
 exact⟨_,_,_,h,by simp⟩
end
section
set_option maxHeartbeats 4000000
open Go.RowKit
set_option maxRecDepth 100000
attribute [local go_sem ↓] loadT_fold storeT_fold
theorem readC_len {σ:Type}{fe:σ→List UInt8→(List UInt8×Bool)×σ}{inc:List UInt8→Nat→Nat→List (List UInt8)→List UInt8→Bool}(c:Cl)(s:σ)(i:Nat):(outR (readC fe inc c s i).1).2.1.length≤65:=by
 cases hn:needM fe c.proved c.size ⟨s,[]⟩ (-1) i with
 | mk o m =>
  cases o with
  | inl p=>rw [readC_1 hn];simp [outR]
  | inr own =>
   cases hr:rootsM fe c.proved c.size m (pathS 64 0 c.size i) with
   | mk o2 m2 =>
    cases o2 with
    | inl p=>rw [readC_2 hn hr];simp [outR]
    | inr ps =>
     cases hi:inc own.hash i c.size ps c.root with
     | false=>rw [readC_3 hn hr hi];simp [outR]
     | true =>
      rw [readC_4 hn hr hi]
      show ps.length≤65
      have:=rootsM_len hr
      have:=pathS_count 64 0 c.size i
      omega
theorem proveC_len {σ:Type}{fe:σ→List UInt8→(List UInt8×Bool)×σ}{con:Nat→Nat→List UInt8→List UInt8→List (List UInt8)→Bool}(c:Cl)(s:σ)(n:Nat)(r:List UInt8):(outU (proveC fe con c s n r).1).1.length≤65:=by
 rcases Nat.lt_or_ge n c.size with h | h
 ·rw [proveC_old h];simp [outU]
 ·by_cases e:n=c.size
  ·by_cases e2:r=c.root
   ·rw [proveC_same e e2];simp [outU]
   ·rw [proveC_other e e2];simp [outU]
  ·by_cases e0:c.size=0
   ·rw [proveC_zero (by omega) e0];simp [outU]
   ·cases hr:rootsM fe c.proved n ⟨s,[]⟩ (partS 64 c.size 0 n true) with
    | mk o m =>
     cases o with
     | inl p=>rw [proveC_1 (by omega) e0 hr];simp [outU]
     | inr ps =>
      cases hc:con c.size n c.root r ps with
      | false=>rw [proveC_2 (by omega) e0 hr hc];simp [outU]
      | true =>
       rw [proveC_3 (by omega) e0 hr hc]
       show ps.length≤65
       have:=rootsM_len hr
       have:=partS_count 64 c.size 0 n true
       omega
theorem updC_len {σ:Type}{fe:σ→List UInt8→(List UInt8×Bool)×σ}{con:Nat→Nat→List UInt8→List UInt8→List (List UInt8)→Bool}(c:Cl)(s:σ)(o:Option (Nat×List UInt8)):(outU (updC fe con c s o).1).1.length≤65:=by
 cases o with
 | none=>simp [updC,outU]
 | some x =>
  obtain⟨n,r⟩:=x
  have h:=proveC_len (fe:=fe) (con:=con) c s n r
  unfold updC
  simp only
  generalize proveC fe con c s n r=P at *
  obtain⟨o,pr,s1⟩:=P
  cases o with
  | inl e=>simp [outU]
  | inr ps=>exact h
theorem pnewNet_any (db:Nat)(w:World):Calls Tryz.prog 17 #[dptr db] w fun r w'=>r= .returned (ptrV w.heap.size)∧Below w.heap.size w w'∧NetAt w' (fun k=>k=w.heap.size) w.heap.size db ⟨[],[],0⟩:=by
 unfold dptr
 go_enter Tryz.func17,Tryz.ntmps17
 go_wp2_with fail
 go_ret
 exact⟨rfl,below_alloc _ _,.slice none 0 0,.slice none 0 0,rfl,heap_alloc_last _ _,⟨none,0,rfl,.inl rfl⟩,⟨none,0,rfl,.inl rfl⟩,rfl⟩
theorem pnewC_net (W0:World)(O:Nat→Prop)(nb:Nat)(key:List UInt8)(room:Int)(w:World)(hb0:W0.heap.size≤w.heap.size)(hO:∀ b,O b→b < w.heap.size):
  Calls Tryz.prog 16 #[ptrV nb,txv key,.int .i64 room] w fun r w'=>∃(pb cb pm nm:Nat) (A OP:Nat→Prop),r= .returned (ptrV pb)∧Below w.heap.size w w'∧w.heap.size≤pb∧pb < w'.heap.size∧(∀ k,A k∨OP k∨k=cb→w.heap.size≤k∧k < pb)∧PcAt w' pb cb∧Pv W0 w' O A OP cb nb pm nm ⟨key,0,rootF 0 [],room,[]⟩:=by
 have HN:=hide (newC_net W0 O nb key room w hb0 hO)
 clear hO
 unfold txv netV at HN
 unfold txv ptrV
 go_enter Tryz.func16,Tryz.ntmps16
 go_wp2_with fail
 refine HN.out.mono ?_
 rintro r w1 ⟨cb,pm,nm,A,OP,rfl,hb,h1,h2,hpv⟩
 have HB:=hide hb
 have HPV:=hide hpv
 have H2:=hide h2
 clear hb hpv h2 HN
 unfold ptrV
 go_wp2_with fail
 go_ret
 refine⟨w1.heap.size,cb,pm,nm,A,OP,rfl,HB.out.alloc HB.out.size _,HB.out.size,by simp,fun k hk=>?_,heap_alloc_last _ _,HPV.out.below (below_alloc _ _)⟩
 refine⟨?_,(HPV.out.own k hk).2.1⟩
 rcases hk with hk | hk | rfl
 ·exact H2.out k (.inl hk)
 ·exact H2.out k (.inr hk)
 ·exact h1
theorem Pv.trusted {W0 w w':World}{O A OP:Nat→Prop}{cb nb pm nm:Nat}{c:Cl}(h:Pv W0 w O A OP cb nb pm nm c)(ht:Turn (fun b=>b=cb) [TCli] w w')(he:w'.heap[cb]?=w.heap[cb]?):Pv W0 w' O A OP cb nb pm nm c:=by
 obtain⟨C,hC,hB⟩:=h.cli
 exact⟨fun b hb=>⟨(h.own b hb).1,Nat.lt_of_lt_of_le (h.own b hb).2.1 ht.size,(h.own b hb).2.2⟩,h.sep,h.cbA,h.cbP,⟨C,he.trans hC,hB⟩,h.prv.stay ht (fun b hb e=>h.cbP (by rw [← e];exact hb)) (by decide) (fun _ h=>h),h.nee.stay ht (fun b hb e=>h.cbA (by rw [← e];exact hb)) (fun _ h=>h)⟩
theorem ptrusted_any (W0:World)(O A OP:Nat→Prop)(cb nb pm nm:Nat)(c:Cl)(pb:Nat)(w:World)(h:Pv W0 w O A OP cb nb pm nm c)(hp:PcAt w pb cb):
  Calls Tryz.prog 19 #[ptrV pb] w fun r w'=>r= .returned (.tuple #[.int .i64 c.size,txv c.root])∧Turn (fun b=>b=cb) [TCli] w w'∧w'.heap[cb]?=w.heap[cb]?:=by
 have HT:=hide (trusted_any W0 O A OP cb nb pm nm c w h)
 have c0:=(dcell hp 0 _ rfl).1
 obtain⟨C,hC,hB⟩:=h.cli
 have H8:Hid (c.root.length=8):=hB.num.r8
 have HCB:Hid (w.heap[cb]?=some (.cells C TCli (0,0))):=hC
 clear h hp hC hB
 unfold ptrV at c0 HT ⊢
 go_enter Tryz.func19,Tryz.ntmps19
 go_wp2_with fail
 refine HT.out.mono ?_
 rintro r w2 ⟨rfl,ht2,hc2⟩
 have hr2:(w2.alloc (.cells #[.int .i64 0,.int .u8 0,.int .u8 0,.int .u8 0,.int .u8 0,.int .u8 0,.int .u8 0,.int .u8 0,.int .u8 0] 93)).heap[w2.heap.size]?=some (.cells (trC 0 none8).toArray 93 (0,0)):=heap_alloc_last _ _
 have hst:(storeT (.pointer (some ⟨w2.heap.size,0,none⟩)) (.agg (trC c.size c.root).toArray)).run Tryz.prog (w2.alloc (.cells #[.int .i64 0,.int .u8 0,.int .u8 0,.int .u8 0,.int .u8 0,.int .u8 0,.int .u8 0,.int .u8 0,.int .u8 0] 93))= .ok () ((w2.alloc (.cells #[.int .i64 0,.int .u8 0,.int .u8 0,.int .u8 0,.int .u8 0,.int .u8 0,.int .u8 0,.int .u8 0,.int .u8 0] 93)).setCells w2.heap.size 0 (trC c.size c.root)):=storeT_of (row_there hr2) H8.out
 have hr3:=row_whole hr2 (ds:=trC c.size c.root) (by rw [trC_len _ H8.out];rfl)
 have k0:=(dcell hr3 0 (.int .i64 c.size) rfl).1
 have HT3:Hid (Turn (fun b=>b=cb) [TCli] w ((w2.alloc (.cells #[.int .i64 0,.int .u8 0,.int .u8 0,.int .u8 0,.int .u8 0,.int .u8 0,.int .u8 0,.int .u8 0,.int .u8 0] 93)).setCells w2.heap.size 0 (trC c.size c.root))):=(ht2.then_below (below_alloc _ _)).setCellsNew ht2.size _ _
 have HC3:Hid (((w2.alloc (.cells #[.int .i64 0,.int .u8 0,.int .u8 0,.int .u8 0,.int .u8 0,.int .u8 0,.int .u8 0,.int .u8 0,.int .u8 0] 93)).setCells w2.heap.size 0 (trC c.size c.root)).heap[cb]?=w.heap[cb]?):=by
  show _=_
  have h1:w2.heap[cb]?=some (.cells C TCli (0,0)):=hc2.trans HCB.out
  rw [setCells_away _ _ (by have:=heap_some_lt h1;omega),heap_alloc_old h1,HCB.out]
 have hcv:=conv_mid ((w2.alloc (.cells #[.int .i64 0,.int .u8 0,.int .u8 0,.int .u8 0,.int .u8 0,.int .u8 0,.int .u8 0,.int .u8 0,.int .u8 0] 93)).setCells w2.heap.size 0 (trC c.size c.root)).drew w2.heap.size 1 8 8 c.root H8.out (by have h:=trC_hash hr3;have h':World.rangeAt (World.drew _) _ _ _:=h;simpa [hv] using h')
 unfold txt at hcv
 clear ht2 hc2 hr2 hr3 c0 HT
 generalize (w2.alloc (.cells #[.int .i64 0,.int .u8 0,.int .u8 0,.int .u8 0,.int .u8 0,.int .u8 0,.int .u8 0,.int .u8 0,.int .u8 0] 93)).setCells w2.heap.size 0 (trC c.size c.root)=V at *
 go_wp2_with fail
 go_region
 all_goals go_wp2_with fail
 all_goals go_ret2
 all_goals exact⟨rfl,HT3.out.drew,HC3.out⟩
theorem pupdate8 (W0:World)(at_:Nat→Addr)(O A OP:Nat→Prop)(cb nb db pm nm:Nat)(d:Dk)(c:Cl)(n:Nt)(pb:Nat)(w:World)(hE:Env W0)(hS:Sents W0 at_)(hTb:Tabs W0)(h:Pv W0 w O A OP cb nb pm nm c)(hs:Sh W0 w O nb db d n)(hp:PcAt w pb cb)(hf:n.fetches+20000 < 4611686018427387904)(hsz:c.size < 9223372036854775808)(hkl:c.key.length≤9223372036854775807)(htl:(netF d.fs n cpP).1.1.length≤1048576)(hpl:c.proved.length≤100000000000)(hwf:WfM c.proved):
  Calls Tryz.prog 18 #[ptrV pb] w fun r w'=>∃ o,ChkIs c.key (netF d.fs n cpP).1 o∧CR W0 w w' O A OP cb nb db pm nm d (updC (netF d.fs) conC c (netF d.fs n cpP).2 o).2.1 (updC (netF d.fs) conC c (netF d.fs n cpP).2 o).2.2 (fun _=>True)∧∃ x,r= .returned (.tuple #[x,toldT (outU (updC (netF d.fs) conC c (netF d.fs n cpP).2 o).1).2])∧w'.ownsRow w.heap.size 9 1 x (outU (updC (netF d.fs) conC c (netF d.fs n cpP).2 o).1).1.length ((outU (updC (netF d.fs) conC c (netF d.fs n cpP).2 o).1).1.map txt)∧∀ p∈(outU (updC (netF d.fs) conC c (netF d.fs n cpP).2 o).1).1,p.length=8:=by
 have hb1:Below w.heap.size w (w.alloc (.cells #[.int .i64 0,.string ⟨#[]⟩] 29)):=below_alloc _ _
 have HB1:=hide hb1
 have HW:Hid (W0.heap.size≤w.heap.size):=hs.base.size
 have HU:=hide (update_any W0 at_ O A OP cb nb db pm nm d c n _ hE hS hTb (h.below hb1) (hs.below hb1) hf hsz hkl htl hpl hwf)
 have HR1:Hid (TRow w.heap.size (w.alloc (.cells #[.int .i64 0,.string ⟨#[]⟩] 29))):=heap_alloc_last _ _
 have c0:=(dcell (heap_alloc_old (o:= .cells #[.int .i64 0,.string ⟨#[]⟩] 29) hp) 0 _ rfl).1
 have HS:=hide hS
 clear h hs hp hb1 hE hS hTb hpl hwf hf hsz hkl htl
 unfold ptrV at c0 HU ⊢
 go_enter Tryz.func18,Tryz.ntmps18
 go_wp2_with fail
 generalize w.alloc (.cells #[.int .i64 0,.string ⟨#[]⟩] 29)=W1 at *
 refine HU.out.mono ?_
 rintro r w2 ⟨o,hchk,hcr,hres⟩
 have HCHK:=hide hchk
 have hlen:=updC_len (fe:=netF d.fs) (con:=conC) c (netF d.fs n cpP).2 o
 obtain⟨u,c',n',hU⟩:∃ u c' n',updC (netF d.fs) conC c (netF d.fs n cpP).2 o=(u,c',n'):=⟨_,_,_,rfl⟩
 rw [hU] at hcr hres hlen
 have hlen':(outU u).1.length≤65:=hlen
 have HUE:=hide hU
 obtain⟨v,e,rfl,hown,h8,herr⟩:=hres.tell
 have HCR:=hide (hcr.since HB1.out)
 have HR2:=hide (HR1.out.turn hcr.turn (by decide))
 have HOWN:=hide hown
 have HERR:=hide herr
 have H8:=hide h8
 have HTX:=hide (texts_turn W1.heap.size v (outU u).1 w2 (by omega) h8 hown)
 clear hchk hU hcr hres hown herr hlen hlen' HU c0 h8
 go_wp2_with fail
 refine HTX.out.mono ?_
 rintro r w3 ⟨x,rfl,ht3,hx3⟩
 have HB1':=hide HB1.out.size
 have HCR3:=hide (HCR.out.past (P':=fun _=>True) ht3 (owns_only HOWN.out) (fun k hk=>Nat.le_trans HB1'.out (owns_above HOWN.out k hk)) HW.out (by decide) (by decide) (by decide) (by decide) (by decide) (by decide) (by decide) (by decide) (by decide) (by decide) (.inl (by decide)) (fun _ _=>trivial))
 have HR3:=hide (HR2.out.turn ht3 (by decide))
 have HERR3:=hide (HERR.out.turn ht3 (by decide))
 have HX3:Hid (w3.ownsRow w.heap.size 9 1 x (outU u).1.length ((outU u).1.map txt)):=owns_low hx3 HCR.out.turn.size
 clear ht3 hx3 HTX HOWN HCR HR2 HERR
 go_wp2_with fail
 refine(of_all at_ w3 (sents_below HS.out HCR3.out.sh.base) e _ HERR3.out).mono ?_
 rintro r w4 ⟨rfl,hb4⟩
 have HCR4:=hide (HCR3.out.below HW.out hb4)
 have HR4:=hide (HR3.out.below hb4)
 have HX4:=hide (ownsRow_below HX3.out hb4)
 obtain⟨q0,z0⟩:=dcell HR4.out 0 _ rfl
 obtain⟨q1,z1⟩:=dcell HR4.out 1 _ rfl
 clear hb4 HCR3 HR3 HX3 HERR3
 unfold toldT
 go_wp2_with fail
 refine bodyPost_ret (v:= .tuple #[x,.agg #[.int .i64 (outU u).2.1,.string ⟨(outU u).2.2.toArray⟩]]) (results_tmp_cell Tryz.results18 _ _ w.heap.size 29 _ (0,0) _ rfl (told_end HR4.out _ _ rfl) Tryz.underlying29 rfl (by kernel_rfl) _ rfl) rfl ?_
 refine⟨o,HCHK.out,?_⟩
 rw [HUE.out]
 refine⟨HCR4.out.past (turn_told HR4.out _ _) (trow_only HR4.out) (fun k hk=>by omega) HW.out (by decide) (by decide) (by decide) (by decide) (by decide) (by decide) (by decide) (by decide) (by decide) (by decide) (.inl (by decide)) (fun _ h=>h),x,rfl,ownsRow_turn HX4.out (turn_told HR4.out _ _) (by decide),H8.out⟩
theorem results_tmp3_cell {P:Program}{fn:Func}{p u1 u2 u3:Tmp}{ty:TypeId}(h:fn.results=#[.tmp u1,.tmp u2,.tmp u3,.cell p ty])(tmps:Array Value)(w:World)(g:Nat)(t:TypeId)(cs:Array Value)(fr:Nat×Nat)(d:TypeDesc)
  (hp:tmps.getD p undef= .pointer (some ⟨g,0,none⟩)) (hg:w.heap[g]?=some (.cells cs t fr))
  (hu:P.underlying ty=some d) (hd:(match d with | .struct _ | .array _ _=>true | _=>false)=true) (hi:(P.info? ty).map (·.size)=some cs.size) (x1 x2 x3:Value) (h1:tmps.getD u1 undef=x1) (h2:tmps.getD u2 undef=x2) (h3:tmps.getD u3 undef=x3) :
  (results fn tmps).run P w= .ok (.tuple #[x1,x2,x3,.agg cs]) w:=by
 have hl:=run_loadVar_row (P:=P) w g t ty cs fr d hg hu hd hi
 simp only [Array.getD_eq_getD_getElem?] at hp h1 h2 h3
 simp [results,h,hp,h1,h2,h3,asAddr,hl]
abbrev toldO:Obj:= .cells #[.int .i64 0,.string ⟨#[]⟩] 29
theorem ob_there {w:World}{B:Nat}{x:Value}{l:List UInt8}(h:OB w B x l):∃ g cap cur,x= .slice (some ⟨g,0,none⟩) l.length cap∧B≤g∧w.heap[g]?=some (.cells cur 5 (0,0))∧w.rangeAt g 0 (hv l).toList∧w.there g 0 l.length:=by
 rcases h.1.2 with h0 | ⟨g,cap,cur,e,hB,hg,hn,hm,hs,ht⟩
 ·exact absurd h0.1 h.2
 ·refine⟨g,cap,cur,e,hB,hg,fun j v hj=>?_,fun j hj=>?_⟩
  ·rw [Nat.zero_add,cell_of_row _ _ _ _ _ _ hg]
   have hj':j < l.length:=by
    have:=(List.getElem?_eq_some_iff.1 hj).1
    simpa [hv] using this
   have e2:(cur.toList.take (l.length*1))[j]?=some v:=by
    rw [ht]
    simpa [hv] using hj
   rw [List.getElem?_take,if_pos (by omega)] at e2
   simpa using e2
  ·rw [Nat.zero_add]
   refine⟨?_,by simp [World.frozen?,hg]⟩
   rw [cell_of_row _ _ _ _ _ _ hg]
   have:j < cur.size:=by rw [hs];omega
   simp [this]
def PRes (w':World)(B:Nat)(e0:List UInt8)(ps:List (List UInt8))(t:Int×List UInt8)(nl:Bool)(r:Ending):Prop :=
 ∃ nn x,r= .returned (.tuple #[txv e0,.bool nn,x,toldT t])∧(nn=true→e0=[])∧(nl=true→nn=true)∧w'.ownsRow B 9 1 x ps.length (ps.map txt)∧∀ p∈ps,p.length=8
theorem pread_core (W0:World)(at_:Nat→Addr)(O A OP:Nat→Prop)(cb nb db pm nm:Nat)(d:Dk)(c':Cl)(n':Nt)(pb:Nat)(i:Int)(w:World)(e0:List UInt8)(ps:List (List UInt8))(t:Int×List UInt8)(nl:Bool)(hS:Sents W0 at_)(hW:W0.heap.size≤w.heap.size)(hp:PcAt w pb cb)(hlen:ps.length≤65)
  (hrd:Calls Tryz.prog 35 #[ptrV cb,.int .i64 i] (w.alloc toldO) fun r w2=>CR W0 (w.alloc toldO) w2 O A OP cb nb db pm nm d c' n' (FreshR w2 pm c'.room c'.proved r)∧∃ x v e,r= .returned (.tuple #[x,v,e])∧EntV (w.alloc toldO).heap.size w2 x e0∧OwnHs (w.alloc toldO).heap.size w2 v ps∧(∀ p∈ps,p.length=8)∧ErrV at_ w2 e t∧(nl=true→x= .slice none 0 0)) :
  Calls Tryz.prog 20 #[ptrV pb,.int .i64 i] w fun r w'=>CR W0 w w' O A OP cb nb db pm nm d c' n' (fun _=>True)∧PRes w' w.heap.size e0 ps t nl r:=by
 have HB1:Hid (Below w.heap.size w (w.alloc toldO)):=below_alloc _ _
 have HW:=hide hW
 have HRD:=hide hrd
 have HR1:Hid (TRow w.heap.size (w.alloc toldO)):=heap_alloc_last _ _
 have c0:=(dcell (heap_alloc_old (o:=toldO) hp) 0 _ rfl).1
 have HS:=hide hS
 clear hp hS hW hrd
 unfold ptrV at c0 HRD ⊢
 go_enter Tryz.func20,Tryz.ntmps20
 go_wp2_with fail
 generalize w.alloc toldO=W1 at *
 refine HRD.out.mono ?_
 rintro r w2 ⟨hcr,x,v,e,rfl,hent,hown,h8,herr,hnl⟩
 have HCR:=hide (hcr.since HB1.out)
 have HR2:=hide (HR1.out.turn hcr.turn (by decide))
 have HOWN:=hide hown
 have HERR:=hide herr
 have H8:=hide h8
 have HB1':=hide HB1.out.size
 have heq:∀(w:World) (a:Option Addr) (n c n' c':Nat),(binOp .eql 76 (.slice a n c) (.slice none n' c')).run Tryz.prog w= .ok (.bool a.isNone) w:=fun w a n c n' c'=>Lib.run_eql_slice_nil w _ _ a n c n' c' Tryz.underlying76
 have FIN:Hid (∀(X:World) (nn:Bool) (x':Value),CR W0 w X O A OP cb nb db pm nm d c' n' (fun _=>True)→TRow w.heap.size X→X.ownsRow w.heap.size 9 1 x' ps.length (ps.map txt)→CR W0 w ((X.setCell ⟨w.heap.size,0,none⟩ (.int .i64 t.1)).setCell ⟨w.heap.size,1,none⟩ (.string ⟨t.2.toArray⟩)) O A OP cb nb db pm nm d c' n' (fun _=>True)∧((X.setCell ⟨w.heap.size,0,none⟩ (.int .i64 t.1)).setCell ⟨w.heap.size,1,none⟩ (.string ⟨t.2.toArray⟩)).ownsRow w.heap.size 9 1 x' ps.length (ps.map txt)):=fun X nn x' hc hr hx =>
  ⟨hc.past (turn_told hr _ _) (trow_only hr) (fun k hk=>by omega) HW.out (by decide) (by decide) (by decide) (by decide) (by decide) (by decide) (by decide) (by decide) (by decide) (by decide) (.inl (by decide)) (fun _ h=>h),ownsRow_turn hx (turn_told hr _ _) (by decide)⟩
 clear hcr hown herr HRD c0 h8
 rcases hent with ⟨rfl,rfl⟩ | hob
 ·have HCRa:=hide (HCR.out.weak (P':=fun _=>True) (fun _ _=>trivial))
  have HTX:=hide (texts_turn W1.heap.size v ps w2 (by omega) H8.out HOWN.out)
  have hcv:=conv_nil w2
  have hclr:=fun ty=>clear_none (P:=Tryz.prog) w2 76 5 ty Tryz.underlying76 none 0
  clear HCR hnl
  go_wp2_with fail
  refine HTX.out.mono ?_
  rintro r w3 ⟨x,rfl,ht3,hx3⟩
  have HCR3:=hide (HCRa.out.past (P':=fun _=>True) ht3 (owns_only HOWN.out) (fun k hk=>Nat.le_trans HB1'.out (owns_above HOWN.out k hk)) HW.out (by decide) (by decide) (by decide) (by decide) (by decide) (by decide) (by decide) (by decide) (by decide) (by decide) (.inl (by decide)) (fun _ _=>trivial))
  have HR3:=hide (HR2.out.turn ht3 (by decide))
  have HERR3:=hide (HERR.out.turn ht3 (by decide))
  have HX3:Hid (w3.ownsRow w.heap.size 9 1 x ps.length (ps.map txt)):=owns_low hx3 HCRa.out.turn.size
  clear ht3 hx3 HTX HOWN HCRa HR2 HERR hclr
  go_wp2_with fail
  refine(of_all at_ w3 (sents_below HS.out HCR3.out.sh.base) e _ HERR3.out).mono ?_
  rintro r w4 ⟨rfl,hb4⟩
  have HCR4:=hide (HCR3.out.below HW.out hb4)
  have HR4:=hide (HR3.out.below hb4)
  have HX4:=hide (ownsRow_below HX3.out hb4)
  obtain⟨q0,z0⟩:=dcell HR4.out 0 _ rfl
  obtain⟨q1,z1⟩:=dcell HR4.out 1 _ rfl
  clear hb4 HCR3 HR3 HX3 HERR3
  unfold toldT
  go_wp2_with fail
  refine bodyPost_ret (v:= .tuple #[.string ⟨#[]⟩,.bool true,x,.agg #[.int .i64 t.1,.string ⟨t.2.toArray⟩]]) (results_tmp3_cell Tryz.results20 _ _ w.heap.size 29 _ (0,0) _ rfl (told_end HR4.out _ _ rfl) Tryz.underlying29 rfl (by kernel_rfl) _ _ _ rfl rfl rfl) rfl ?_
  obtain⟨g1,g2⟩:=FIN.out w4 true x HCR4.out HR4.out HX4.out
  exact⟨g1,true,x,rfl,fun _=>rfl,fun _=>rfl,g2,H8.out⟩
 ·obtain⟨g,cap,cur,rfl,hB,hg,hrg,hth⟩:=ob_there hob
  have hnn:nl=true→False:=fun h=>by have:=hnl h;simp at this
  have HNN:=hide hnn
  have hcv:=conv_mid w2 g 0 cap e0.length e0 rfl hrg
  have hcl:=fun ty=>clear_el (P:=Tryz.prog) w2 76 5 ty (.int .u8 0) Tryz.underlying76 zeroByte rfl rfl g e0.length cap hth
  have htc:Turn (fun k=>k=g) [5] w2 (w2.setCells g 0 (List.replicate e0.length (.int .u8 0))):=Turn.cells_old (O:=fun k=>k=g) (T:=[5]) (Turn.refl _ _ _) rfl (.inl ⟨cur,_,_,hg,by simp⟩) _ _
  have hoc:OnlyC (fun k=>k=g) [5] w2:=fun k hk=>by subst hk;exact⟨cur,_,_,hg,by simp⟩
  have HCRa:=hide (HCR.out.past (P':=fun _=>True) htc hoc (fun k hk=>by subst hk;exact Nat.le_trans HB1'.out hB) HW.out (by decide) (by decide) (by decide) (by decide) (by decide) (by decide) (by decide) (by decide) (by decide) (by decide) (.inr (fun OP' hP=>Fresh.clear (hP _ _ _ rfl) htc (fun k hk=>by subst hk;rfl))) (fun _ _=>trivial))
  have HOWN2:Hid (OwnHs W1.heap.size (w2.setCells g 0 (List.replicate e0.length (.int .u8 0))) v ps):=ownsRow_turn HOWN.out htc (by decide)
  have HR2b:=hide (HR2.out.turn htc (by decide))
  have HERR2:=hide (HERR.out.turn htc (by decide))
  have HTX:=hide (texts_turn W1.heap.size v ps _ (by omega) H8.out HOWN2.out)
  clear HCR hnl hnn hob hB hg hrg hth htc hoc HOWN HR2 HERR
  unfold txt at hcv
  generalize w2.setCells g 0 (List.replicate e0.length (.int .u8 0))=Y at *
  go_wp2_with fail
  refine HTX.out.mono ?_
  rintro r w3 ⟨x,rfl,ht3,hx3⟩
  have HCR3:=hide (HCRa.out.past (P':=fun _=>True) ht3 (owns_only HOWN2.out) (fun k hk=>Nat.le_trans HB1'.out (owns_above HOWN2.out k hk)) HW.out (by decide) (by decide) (by decide) (by decide) (by decide) (by decide) (by decide) (by decide) (by decide) (by decide) (.inl (by decide)) (fun _ _=>trivial))
  have HR3:=hide (HR2b.out.turn ht3 (by decide))
  have HERR3:=hide (HERR2.out.turn ht3 (by decide))
  have HX3:Hid (w3.ownsRow w.heap.size 9 1 x ps.length (ps.map txt)):=owns_low hx3 HCRa.out.turn.size
  clear ht3 hx3 HTX HOWN2 HCRa HR2b HERR2 hcl hcv
  go_wp2_with fail
  refine(of_all at_ w3 (sents_below HS.out HCR3.out.sh.base) e _ HERR3.out).mono ?_
  rintro r w4 ⟨rfl,hb4⟩
  have HCR4:=hide (HCR3.out.below HW.out hb4)
  have HR4:=hide (HR3.out.below hb4)
  have HX4:=hide (ownsRow_below HX3.out hb4)
  obtain⟨q0,z0⟩:=dcell HR4.out 0 _ rfl
  obtain⟨q1,z1⟩:=dcell HR4.out 1 _ rfl
  clear hb4 HCR3 HR3 HX3 HERR3
  unfold toldT
  go_wp2_with fail
  refine bodyPost_ret (v:= .tuple #[.string ⟨e0.toArray⟩,.bool false,x,.agg #[.int .i64 t.1,.string ⟨t.2.toArray⟩]]) (results_tmp3_cell Tryz.results20 _ _ w.heap.size 29 _ (0,0) _ rfl (told_end HR4.out _ _ rfl) Tryz.underlying29 rfl (by kernel_rfl) _ _ _ rfl rfl rfl) rfl ?_
  obtain⟨g1,g2⟩:=FIN.out w4 false x HCR4.out HR4.out HX4.out
  exact⟨g1,false,x,rfl,fun h=>by simp at h,fun h=>(HNN.out h).elim,g2,H8.out⟩
theorem readC_kept {σ:Type}{fe:σ→List UInt8→(List UInt8×Bool)×σ}{inc:List UInt8→Nat→Nat→List (List UInt8)→List UInt8→Bool}(c:Cl)(s:σ)(i:Nat):(readC fe inc c s i).2.1.room=c.room:=by
 rw [readC_key]
end
end Go.Proofs.YtinhekmmdlhfkaaGreatDoor
