import Derived.Test.YtinhekmmdlhfkaaGreatDoorG19
import Derived.Test.YtinhekmmdlhfkaaGreatDoorG18
import Derived.Test.YtinhekmmdlhfkaaGreatDoorG03
import Derived.Test.YtinhekmmdlhfkaaGreatDoorG11
import Derived.WalkKit
import Derived.LaidEql
import Derived.Stop.Asserts
import Derived.RowKitTokens
namespace Go.Proofs.YtinhekmmdlhfkaaGreatDoor
section
set_option maxHeartbeats 2000000
open Go.RowKit
set_option maxRecDepth 100000
attribute [local go_sem ↓] loadM_fold storeM_fold loadP_fold storeP_fold buildP_fold buildF_fold loadH_fold storeH_fold
theorem CameX.all {w':World}{o:Option Fl}{r:Ending}(h:CameX w' o r):∃ xs,FOk xs∧r= .returned (.tuple #[.agg (fcs xs).toArray,.bool o.isSome])∧∀ f,o=some f→FxIs w' xs f:=by
 rcases h with ⟨xs,f,rfl,hk,hi,rfl⟩ | ⟨rfl,xs,hk,rfl⟩
 ·exact⟨xs,hk,rfl,fun f' e=>by rw [← Option.some.inj e];exact hi⟩
 ·exact⟨xs,hk,rfl,fun f' e=>by simp at e⟩
theorem CameX.mk {w':World}{o:Option Fl}{xs:List Px}(hk:FOk xs)(hf:∀ f,o=some f→FxIs w' xs f):CameX w' o (.returned (.tuple #[.agg (fcs xs).toArray,.bool o.isSome])):=by
 cases o with
 | none=>exact .inr ⟨rfl,xs,hk,rfl⟩
 | some f=>exact .inl ⟨xs,f,rfl,hk,hf f rfl,rfl⟩
theorem GotV.below {w w':World}{v:Value}{x:Option (List UInt8)}(h:GotV w v x)(hb:Below w.heap.size w w'):GotV w' v x:=by
 rcases h with ⟨d,rfl,hq⟩ | ⟨rfl,rfl⟩
 ·exact .inl ⟨d,rfl,hq.below hb⟩
 ·exact .inr ⟨rfl,rfl⟩
theorem pread_any (l ix:Int)(n:Nat)(hn0:0 < n)(hn:n≤4)(v:Value)(x:Option (List UInt8))(w:World)(h:GotV w v x):
  Calls Tryz.prog 199 #[plV (l,ix,n),v] w fun r w'=>Below w.heap.size w w'∧CameX w' (readF l n (x.getD [])) r:=by
 unfold plV
 simp only
 have H0:Hid (Below w.heap.size w ((w.alloc (.cells #[.int .i64 l,.int .i64 ix,.int .i64 n] 126)).alloc (.cells noVA TFile))∧FileAt ((w.alloc (.cells #[.int .i64 l,.int .i64 ix,.int .i64 n] 126)).alloc (.cells noVA TFile)) (w.heap.size+1) Fx.no):=by
  refine⟨below_alloc2 _ _ _,?_⟩
  have:=heap_alloc_last (w.alloc (.cells #[.int .i64 l,.int .i64 ix,.int .i64 n] 126)) (.cells noVA TFile)
  rw [show(w.alloc (.cells #[.int .i64 l,.int .i64 ix,.int .i64 n] 126)).heap.size=w.heap.size+1 by simp] at this
  exact this
 have H:=hide h
 clear h
 by_cases hl:l=-1
 ·subst hl
  have HC:=hide (readBun_any n v x _ (H.out.below H0.out.1))
  go_enter Tryz.func199,Tryz.ntmps199
  go_wp2_with fail
  refine HC.out.mono ?_
  rintro r w1 ⟨hb1,hc⟩
  obtain⟨xs,hk,rfl,hi⟩:=hc.all
  have hbw:Below w.heap.size w w1:=H0.out.1.trans (hb1.mono H0.out.1.size)
  have hf1:FileAt w1 (w.heap.size+1) Fx.no:=(hb1.block _ (heap_some_lt H0.out.2)).trans H0.out.2
  have hst:(storeM (.pointer (some ⟨w.heap.size+1,0,none⟩)) (.agg (fcs xs).toArray)).run Tryz.prog w1= .ok () (w1.setCells (w.heap.size+1) 0 (fcs xs)):=storeM_of (file_there hf1 Fx.no_ok) hk.len (fcs_one hk.2)
  have HW:=hide (file_whole hf1 Fx.no_ok hk)
  have HB:=hide (below_setCells hbw (Nat.le_succ w.heap.size) (fcs xs) 0)
  have HTN:Hid (Turn (fun b=>b=w.heap.size+1) [TFile] w1 (w1.setCells (w.heap.size+1) 0 (fcs xs))):=hide ((Turn.refl (fun b=>b=w.heap.size+1) [TFile] w1).setCells (.inl rfl) hf1 (by simp) _ _)
  have HI:=hide hi
  have HK:=hide hk
  clear hc hi hk hbw hf1 hb1 HC
  generalize ho:readF (-1) n (x.getD [])=o at *
  have HO:=hide ho
  clear ho
  go_wp2_with fail
  exact bodyPost_ret (v:= .tuple #[.agg (fcs xs).toArray,.bool o.isSome]) (results_cell_tmp Tryz.results199 _ _ (w.heap.size+1) TFile _ (0,0) _ rfl HW.out Tryz.underlying130 rfl (by rw [infoFil,List.size_toArray,HK.out.len]) _ rfl) rfl ⟨HB.out,by rw [HO.out];exact CameX.mk HK.out (fun f e=>(HI.out f e).turn HTN.out (by decide))⟩
 ·have hlb:(l==-1)=false:=by simp [hl]
  have HC:=hide (readTile_any n hn0 hn l hl v x _ (H.out.below H0.out.1))
  clear hl
  go_enter Tryz.func199,Tryz.ntmps199
  go_wp2_with fail
  refine HC.out.mono ?_
  rintro r w1 ⟨hb1,hc⟩
  obtain⟨xs,hk,rfl,hi⟩:=hc.all
  have hbw:Below w.heap.size w w1:=H0.out.1.trans (hb1.mono H0.out.1.size)
  have hf1:FileAt w1 (w.heap.size+1) Fx.no:=(hb1.block _ (heap_some_lt H0.out.2)).trans H0.out.2
  have hst:(storeM (.pointer (some ⟨w.heap.size+1,0,none⟩)) (.agg (fcs xs).toArray)).run Tryz.prog w1= .ok () (w1.setCells (w.heap.size+1) 0 (fcs xs)):=storeM_of (file_there hf1 Fx.no_ok) hk.len (fcs_one hk.2)
  have HW:=hide (file_whole hf1 Fx.no_ok hk)
  have HB:=hide (below_setCells hbw (Nat.le_succ w.heap.size) (fcs xs) 0)
  have HTN:Hid (Turn (fun b=>b=w.heap.size+1) [TFile] w1 (w1.setCells (w.heap.size+1) 0 (fcs xs))):=hide ((Turn.refl (fun b=>b=w.heap.size+1) [TFile] w1).setCells (.inl rfl) hf1 (by simp) _ _)
  have HI:=hide hi
  have HK:=hide hk
  clear hc hi hk hbw hf1 hb1 HC
  generalize ho:readF l n (x.getD [])=o at *
  have HO:=hide ho
  clear ho
  go_wp2_with fail
  exact bodyPost_ret (v:= .tuple #[.agg (fcs xs).toArray,.bool o.isSome]) (results_cell_tmp Tryz.results199 _ _ (w.heap.size+1) TFile _ (0,0) _ rfl HW.out Tryz.underlying130 rfl (by rw [infoFil,List.size_toArray,HK.out.len]) _ rfl) rfl ⟨HB.out,by rw [HO.out];exact CameX.mk HK.out (fun f e=>(HI.out f e).turn HTN.out (by decide))⟩
end
section
set_option maxHeartbeats 1000000
open Go.RowKit
set_option maxRecDepth 100000
theorem Sents.below {w w':World}{at_:Nat→Addr}(h:Sents w at_)(hb:Below w.heap.size w w'):Sents w' at_:=by
 have c:∀ {a:Addr} {v:Value},w.cell? a=some v→w'.cell? a=some v:=fun {a v} e=>by rw [hb.cell (p:=a) (cell_lt e)];exact e
 refine⟨c h.entry,c h.range,c h.check,c h.old,c h.proof,c h.tile,c h.failed,h.apart,fun i hi=>?_⟩
 obtain⟨cs,t,e⟩:=h.block i hi
 refine⟨cs,t,?_⟩
 rw [hb.block _ ?_]
 ·exact e
 ·rcases Nat.lt_or_ge (at_ i).block w.heap.size with h' | h'
  ·exact h'
  ·simp [Array.getElem?_eq_none h'] at e
def told (n:Int):Value:= .agg #[.int .i64 n,.string ⟨#[]⟩]
theorem of_nil (at_:Nat→Addr)(w:World)(hs:Sents w at_):
  Calls Tryz.prog 27 #[.nilIface] w fun e w'=>e= .returned (told 0)∧Below w.heap.size w w':=by
 obtain⟨h0,h1,h2,h3,h4,h5,h6,hap,hbl⟩:=hs
 clear hap hbl h5
 have g0:∀ o,(w.alloc o).cell? ⟨1,0,none⟩=some (.iface 326 (.pointer (some (at_ 0)))):=fun o=>by rw [cell_old _ _ ⟨_,0,none⟩ (cell_lt h0)];exact h0
 have g1:∀ o,(w.alloc o).cell? ⟨2,0,none⟩=some (.iface 326 (.pointer (some (at_ 1)))):=fun o=>by rw [cell_old _ _ ⟨_,0,none⟩ (cell_lt h1)];exact h1
 have g2:∀ o,(w.alloc o).cell? ⟨3,0,none⟩=some (.iface 326 (.pointer (some (at_ 2)))):=fun o=>by rw [cell_old _ _ ⟨_,0,none⟩ (cell_lt h2)];exact h2
 have g3:∀ o,(w.alloc o).cell? ⟨4,0,none⟩=some (.iface 326 (.pointer (some (at_ 3)))):=fun o=>by rw [cell_old _ _ ⟨_,0,none⟩ (cell_lt h3)];exact h3
 have g4:∀ o,(w.alloc o).cell? ⟨5,0,none⟩=some (.iface 326 (.pointer (some (at_ 4)))):=fun o=>by rw [cell_old _ _ ⟨_,0,none⟩ (cell_lt h4)];exact h4
 have g6:∀ o,(w.alloc o).cell? ⟨0,0,none⟩=some (.iface 326 (.pointer (some (at_ 6)))):=fun o=>by rw [cell_old _ _ ⟨_,0,none⟩ (cell_lt h6)];exact h6
 clear h0 h1 h2 h3 h4 h6
 go_enter Tryz.func27,Tryz.ntmps27
 go_wp2_with fail
 refine bodyPost_ret (v:=told 0) (results_cell_row Tryz.results27 _ _ w.heap.size 29 _ (0,0) _ rfl (heap_alloc_old (heap_alloc_old (heap_alloc_last _ _))) Tryz.underlying29 rfl (by kernel_rfl)) rfl ⟨rfl,?_⟩
 exact((below_alloc _ _).trans ((below_alloc _ _).mono (by simp))).trans ((below_alloc _ _).mono (by simp;omega))
theorem assert_no (v:Value)(W:World):(Instr.typeAssert (.iface 326 v) 70 113 true).run Tryz.prog W= .ok (.tuple #[.pointer none,.bool false]) W:=by kernel_rfl
theorem of_range (at_:Nat→Addr)(w:World)(hs:Sents w at_):
  Calls Tryz.prog 27 #[.iface 326 (.pointer (some (at_ 1)))] w fun e w'=>e= .returned (told 2)∧Below w.heap.size w w':=by
 obtain⟨h0,h1,h2,h3,h4,h5,h6,hap,hbl⟩:=hs
 have Hap:=hide (hap 1 0 (by decide) (by decide) (by decide))
 have Hbl:=hide (And.intro (hbl 0 (by decide)) (hbl 1 (by decide)))
 clear hap hbl h5
 have g0:∀ o,(w.alloc o).cell? ⟨1,0,none⟩=some (.iface 326 (.pointer (some (at_ 0)))):=fun o=>by rw [cell_old _ _ ⟨_,0,none⟩ (cell_lt h0)];exact h0
 have g1:∀ o,(w.alloc o).cell? ⟨2,0,none⟩=some (.iface 326 (.pointer (some (at_ 1)))):=fun o=>by rw [cell_old _ _ ⟨_,0,none⟩ (cell_lt h1)];exact h1
 have g2:∀ o,(w.alloc o).cell? ⟨3,0,none⟩=some (.iface 326 (.pointer (some (at_ 2)))):=fun o=>by rw [cell_old _ _ ⟨_,0,none⟩ (cell_lt h2)];exact h2
 have g3:∀ o,(w.alloc o).cell? ⟨4,0,none⟩=some (.iface 326 (.pointer (some (at_ 3)))):=fun o=>by rw [cell_old _ _ ⟨_,0,none⟩ (cell_lt h3)];exact h3
 have g4:∀ o,(w.alloc o).cell? ⟨5,0,none⟩=some (.iface 326 (.pointer (some (at_ 4)))):=fun o=>by rw [cell_old _ _ ⟨_,0,none⟩ (cell_lt h4)];exact h4
 have g6:∀ o,(w.alloc o).cell? ⟨0,0,none⟩=some (.iface 326 (.pointer (some (at_ 6)))):=fun o=>by rw [cell_old _ _ ⟨_,0,none⟩ (cell_lt h6)];exact h6
 clear h0 h1 h2 h3 h4 h6
 have hno:=assert_no (.pointer (some (at_ 1)))
 have hdf:∀ o1 o2 o3,(binOp .eql 70 (.iface 326 (.pointer (some (at_ 1)))) (.iface 326 (.pointer (some (at_ 0))))).run Tryz.prog (((w.alloc o1).alloc o2).alloc o3)= .ok (.bool false) (((w.alloc o1).alloc o2).alloc o3):=fun o1 o2 o3=>by
  obtain⟨⟨c0,t0,e0⟩,⟨c1,t1,e1⟩⟩:=Hbl.out
  exact errs_differ Hap.out ⟨c1,t1,heap_alloc_old (heap_alloc_old (heap_alloc_old e1))⟩ ⟨c0,t0,heap_alloc_old (heap_alloc_old (heap_alloc_old e0))⟩
 have hsm:∀ W,(binOp .eql 70 (.iface 326 (.pointer (some (at_ 1)))) (.iface 326 (.pointer (some (at_ 1))))).run Tryz.prog W= .ok (.bool true) W:=fun W=>by
  obtain⟨i,hi,hcmp⟩:=Option.map_eq_some_iff.1 compPtr
  obtain⟨j,hj,hjs⟩:=Option.map_eq_some_iff.1 sizeStr
  exact run_eql_iface_ptr_same W (at_ 1) Tryz.underlying70 Tryz.underlying326 hi hcmp hj
 go_enter Tryz.func27,Tryz.ntmps27
 go_wp2_with fail
 refine wp_loop_rounds 3 ?_
 rw [rounds_succ]
 go_wp2_with fail
 rw [rounds_succ]
 go_wp2_with fail
 rw [rounds_succ]
 go_wp2_with fail
 refine bodyPost_ret (v:=told 2) (results_cell_row Tryz.results27 _ _ w.heap.size 29 _ (0,0) _ rfl (heap_alloc_old (heap_alloc_old (heap_alloc_last _ _))) Tryz.underlying29 rfl (by kernel_rfl)) rfl ⟨rfl,?_⟩
 exact((below_alloc _ _).trans ((below_alloc _ _).mono (by simp))).trans ((below_alloc _ _).mono (by simp;omega))
end
section
set_option maxHeartbeats 4000000
open Go.RowKit
set_option maxRecDepth 100000
attribute [local go_sem ↓] loadM_fold storeM_fold loadP_fold storeP_fold buildP_fold buildF_fold loadH_fold storeH_fold
structure NOk (d:Dk)(n:Nt):Prop where
 nf:d.fs.length≤1000000000
 fl:∀ f∈d.fs,f.2.length≤1000000000
 ly:∀ l∈n.lies,l.data.length≤1000000000
 ll:n.lies.length≤1000000000
 fe:0≤n.fetches∧n.fetches < 4611686018427387904
 td:∀ t∈n.told,0≤t∧t < 4611686018427387904
def GotF (at_:Nat→Addr)(s:Nat)(p:List UInt8)(w':World)(o:Option Fl)(r:Ending):Prop :=
 (∃ xs f,o=some f∧FOk xs∧FxIs w' xs f∧r= .returned (.tuple #[.agg (fcs xs).toArray,.nilIface])) ∨
 (o=none∧∃ g,s≤g∧w'.heap[g]?=some (.cells #[txv p,errS at_ 5] 115 (0,0))∧r= .returned (.tuple #[.agg (fcs Fx.no).toArray,pathE g]))
theorem Turn.setCellsNew {O:Nat→Prop}{T:List Nat}{a w:World}(h:Turn O T a w){b:Nat}(hb:a.heap.size≤b)(vs:List Value)(o:Nat):Turn O T a (w.setCells b o vs):=by
 obtain⟨r1,r2,r3⟩:=setCells_keep (w:=w) (b:=b) vs o
 exact⟨r1.trans h.os,r2.trans h.tape,r3.trans h.output,by rw [setCells_size];exact h.size,fun k hk=>by
  rw [setCells_away vs o (by omega)]
  exact h.block k hk⟩
theorem tile_end1 {O:Nat→Prop}{nb db:Nat}{n':Nt}{w W5:World}{P:Obj}(hT:Turn O nT w W5)(hN:NetAt W5 O nb db n')(hf:FileAt W5 (w.heap.size+1) Fx.no):
  Turn O nT w ((W5.alloc P).drew.setCells (w.heap.size+1) 0 (fcs Fx.no))∧NetAt ((W5.alloc P).drew.setCells (w.heap.size+1) 0 (fcs Fx.no)) O nb db n'∧FileAt ((W5.alloc P).drew.setCells (w.heap.size+1) 0 (fcs Fx.no)) (w.heap.size+1) Fx.no∧((W5.alloc P).drew.setCells (w.heap.size+1) 0 (fcs Fx.no)).heap[W5.heap.size]?=some P:=by
 have hf':FileAt (W5.alloc P).drew (w.heap.size+1) Fx.no:=heap_alloc_old (o:=P) hf
 have hl:=heap_some_lt hf
 have hTN:=(Turn.refl (fun b=>b=w.heap.size+1) [TFile] (W5.alloc P).drew).setCells (.inl rfl) hf' (by simp) (fcs Fx.no) 0
 refine⟨(hT.alloc P).drew.setCellsNew (Nat.le_succ _) _ _,(hN.below (below_alloc _ _).drew).turn hTN (by decide) (by decide) (by decide),file_whole hf' Fx.no_ok Fx.no_ok,?_⟩
 rw [setCells_away _ _ (by omega)]
 exact heap_alloc_last W5 P
theorem tile_end2 {O:Nat→Prop}{nb db:Nat}{n':Nt}{w W5:World}{P:Obj}(hT:Turn O nT w W5)(hN:NetAt W5 O nb db n')(hf:FileAt W5 (w.heap.size+1) Fx.no):
  Turn O nT w ((W5.drew.setCells (w.heap.size+1) 0 (fcs Fx.no)).alloc P)∧NetAt ((W5.drew.setCells (w.heap.size+1) 0 (fcs Fx.no)).alloc P) O nb db n'∧FileAt ((W5.drew.setCells (w.heap.size+1) 0 (fcs Fx.no)).alloc P) (w.heap.size+1) Fx.no∧((W5.drew.setCells (w.heap.size+1) 0 (fcs Fx.no)).alloc P).heap[(W5.drew.setCells (w.heap.size+1) 0 (fcs Fx.no)).heap.size]?=some P:=by
 have hf':FileAt W5.drew (w.heap.size+1) Fx.no:=hf
 have hTN:=(Turn.refl (fun b=>b=w.heap.size+1) [TFile] W5.drew).setCells (.inl rfl) hf' (by simp) (fcs Fx.no) 0
 refine⟨(hT.drew.setCellsNew (Nat.le_succ _) _ _).alloc P,((hN.below (Below.refl _ _).drew).turn hTN (by decide) (by decide) (by decide)).below (below_alloc _ _),heap_alloc_old (file_whole hf' Fx.no_ok Fx.no_ok),heap_alloc_last _ _⟩
theorem fplace_any (W0:World)(at_:Nat→Addr)(O:Nat→Prop)(nb db cb:Nat)(n:Nt)(d:Dk)(l ix:Int)(k:Nat)(hk0:0 < k)(hk:k≤4)(hix:ix≤9223372036854775807)(w:World)(hW:Below W0.heap.size W0 w)(hE:Env W0)(hS:Sents W0 at_)
  (hO:∀ b,O b→W0.heap.size≤b) (hok:NOk d n) (hD:DiskAt w O db d) (hN:NetAt w O nb db n) (hc:w.cell? ⟨cb,2,none⟩=some (netV nb)) :
  Calls Tryz.prog 188 #[ptrV cb,plV (l,ix,k)] w fun r w'=>Turn O nT w w'∧NetAt w' O nb db (placeM (netF d.fs) n (l,ix,k)).2∧GotF at_ w.heap.size (nameF l ix k) w' (placeM (netF d.fs) n (l,ix,k)).1 r:=by
 have HPM:Hid (placeM (netF d.fs) n (l,ix,(k:Int))=(if (netF d.fs n (nameF l ix k)).1.2 then readF l k (netF d.fs n (nameF l ix k)).1.1 else none,(netF d.fs n (nameF l ix k)).2)):=rfl
 unfold plV
 simp only
 have H0:Hid (Below w.heap.size w ((w.alloc (.cells #[.int .i64 l,.int .i64 ix,.int .i64 k] 126)).alloc (.cells noVA TFile))∧((w.alloc (.cells #[.int .i64 l,.int .i64 ix,.int .i64 k] 126)).alloc (.cells noVA TFile)).heap[w.heap.size]?=some (.cells #[.int .i64 l,.int .i64 ix,.int .i64 k] 126 (0,0))∧FileAt ((w.alloc (.cells #[.int .i64 l,.int .i64 ix,.int .i64 k] 126)).alloc (.cells noVA TFile)) (w.heap.size+1) Fx.no):=by
  refine⟨below_alloc2 _ _ _,heap_alloc_old (heap_alloc_last _ _),?_⟩
  have:=heap_alloc_last (w.alloc (.cells #[.int .i64 l,.int .i64 ix,.int .i64 k] 126)) (.cells noVA TFile)
  rw [show(w.alloc (.cells #[.int .i64 l,.int .i64 ix,.int .i64 k] 126)).heap.size=w.heap.size+1 by simp] at this
  exact this
 have HW:=hide hW
 have HE:=hide hE
 have HS:=hide hS
 have HO:=hide hO
 have HOK:=hide hok
 have HD:=hide hD
 have HN:=hide hN
 have HC:=hide hc
 clear hW hE hS hO hok hD hN hc
 unfold ptrV
 go_enter Tryz.func188,Tryz.ntmps188
 go_wp2_with fail
 generalize (w.alloc (.cells #[.int .i64 l,.int .i64 ix,.int .i64 k] 126)).alloc (.cells noVA TFile)=W1 at *
 have hW1:Below W0.heap.size W0 W1:=HW.out.trans (H0.out.1.mono HW.out.size)
 refine(name_any l ix k hix W1 (HE.out.below hW1)).mono ?_
 rintro r w1 ⟨rfl,hb1⟩
 have hB1:Below w.heap.size w w1:=H0.out.1.trans (hb1.mono H0.out.1.size)
 have HB1:=hide hB1
 have HP1:Hid (w1.heap[w.heap.size]?=some (.cells #[.int .i64 l,.int .i64 ix,.int .i64 k] 126 (0,0))∧FileAt w1 (w.heap.size+1) Fx.no):=⟨(hb1.block _ (heap_some_lt H0.out.2.1)).trans H0.out.2.1,(hb1.block _ (heap_some_lt H0.out.2.2)).trans H0.out.2.2⟩
 have HF:=hide (cfetch_any O nb db cb n d (nameF l ix k) w1 HOK.out.nf HOK.out.fl HOK.out.ly HOK.out.ll HOK.out.fe HOK.out.td (HD.out.stay (O1:=fun _=>False) (T:=[]) (.of_below hB1) (by simp) (by simp)) (HN.out.below hB1) (by rw [hB1.cell (p:=⟨cb,2,none⟩) (cell_lt HC.out)];exact HC.out))
 have HW1:=hide (HW.out.trans (hB1.mono HW.out.size))
 clear hB1 hb1 hW1 H0
 unfold ptrV txv at HF
 generalize hPN:nameF l ix k=pn at *
 have HPN:=hide hPN
 clear hPN
 generalize hNF:netF d.fs n pn=N at *
 clear hNF
 obtain⟨⟨dat,ok⟩,n'⟩:=N
 simp only at *
 go_wp2_with fail
 refine HF.out.mono ?_
 rintro r w2 ⟨v,x,rfl,ht2,hN2,hg2,hx2⟩
 have hp2:w2.heap[w.heap.size]?=some (.cells #[.int .i64 l,.int .i64 ix,.int .i64 k] 126 (0,0)):=ht2.keep HP1.out.1 (by decide)
 have hf2:FileAt w2 (w.heap.size+1) Fx.no:=ht2.keep HP1.out.2 (by decide)
 have p0:w2.cell? ⟨w.heap.size,0,none⟩=some (.int .i64 l):=(dcell hp2 0 _ rfl).1
 have p1:w2.cell? ⟨w.heap.size,1,none⟩=some (.int .i64 ix):=(dcell hp2 1 _ rfl).1
 have p2:w2.cell? ⟨w.heap.size,2,none⟩=some (.int .i64 k):=(dcell hp2 2 _ rfl).1
 have HRD:=hide (pread_any l ix k hk0 hk v x w2 hg2)
 have HT2:Hid (Turn O nT w w2):=hide ((Turn.of_below HB1.out).trans (ht2.mono (fun _ h=> .inl h) (fun _ h=>h)))
 have HW2:Hid (Below W0.heap.size W0 w2):=hide (HW1.out.trans (ht2.below HO.out HW1.out.size))
 have HN2:=hide hN2
 have HF2:=hide hf2
 rw [hx2] at HRD
 unfold plV at HRD
 simp only at HRD
 clear ht2 hN2 hg2 hx2 hp2 hf2 HF
 go_wp2_with fail
 refine HRD.out.mono ?_
 rintro r w3 ⟨hb3,hc3⟩
 obtain⟨xs,hxk,rfl,hxi⟩:=hc3.all
 generalize hO3:readF l k dat=o at *
 have hT3:Turn O nT w w3:=HT2.out.then_below hb3
 have hw3:w.heap.size+1 < w3.heap.size:=Nat.lt_of_lt_of_le (heap_some_lt HF2.out) hb3.size
 have hf3:FileAt w3 (w.heap.size+1) Fx.no:=(hb3.block _ (heap_some_lt HF2.out)).trans HF2.out
 have hf4:FileAt (w3.alloc (.cells noVA TFile)) w3.heap.size Fx.no:=heap_alloc_last _ _
 have hst1:(storeM (.pointer (some ⟨w3.heap.size,0,none⟩)) (.agg (fcs xs).toArray)).run Tryz.prog (w3.alloc (.cells noVA TFile))= .ok () ((w3.alloc (.cells noVA TFile)).setCells w3.heap.size 0 (fcs xs)):=storeM_of (file_there hf4 Fx.no_ok) hxk.len (fcs_one hxk.2)
 have HF5:=hide (file_whole hf4 Fx.no_ok hxk)
 have HB5:Hid (Below w3.heap.size w3 ((w3.alloc (.cells noVA TFile)).setCells w3.heap.size 0 (fcs xs))):=below_setCells (below_alloc _ _) (Nat.le_refl _) _ _
 have HT3:=hide hT3
 have HFx:Hid (FileAt w3 (w.heap.size+1) Fx.no):=hf3
 have HXK:=hide hxk
 have HXI:=hide hxi
 have HW3:Hid (Below W0.heap.size W0 w3):=HW2.out.trans (hb3.mono HW2.out.size)
 have HN3:=hide (HN2.out.below hb3)
 clear hc3 hxi hxk hT3 hf3 hf4 hb3 hO3 HRD HT2 HW2 HN2 HF2
 have HG:Hid (∀ W5,Below w3.heap.size w3 W5→Turn O nT w W5∧NetAt W5 O nb db n'∧FileAt W5 (w.heap.size+1) Fx.no∧W5.cell? ⟨6,0,none⟩=some (errS at_ 5)∧∀ f,o=some f→FxIs W5 xs f):=by
  intro W5 hb
  refine⟨HT3.out.then_below hb,HN3.out.below hb,(hb.block _ hw3).trans HFx.out,?_,fun f e=>(HXI.out f e).below hb⟩
  have hb0:=HW3.out.trans (hb.mono HW3.out.size)
  exact(HS.out.below hb0).tile
 have H5:=hide (HG.out _ HB5.out)
 have hgt:((w3.alloc (.cells noVA TFile)).setCells w3.heap.size 0 (fcs xs)).cell? ⟨6,0,none⟩=some (.iface 326 (.pointer (some (at_ 5)))):=H5.out.2.2.2.1
 have hsz5:w3.heap.size < ((w3.alloc (.cells noVA TFile)).setCells w3.heap.size 0 (fcs xs)).heap.size:=heap_some_lt HF5.out
 have HSZ:Hid (w.heap.size≤((w3.alloc (.cells noVA TFile)).setCells w3.heap.size 0 (fcs xs)).heap.size):=by show _≤_;omega
 clear HG HB5 hsz5
 by_cases hgo:ok=true∧o.isSome=true
 ·obtain⟨rfl,ho⟩:=hgo
  obtain⟨f,rfl⟩:=Option.isSome_iff_exists.1 ho
  have hld:=loadM_of (range_row HF5.out) HXK.out.len
  have hst2:=storeM_of (file_there H5.out.2.2.1 Fx.no_ok) HXK.out.len (fcs_one HXK.out.2)
  have HW6:=hide (file_whole H5.out.2.2.1 Fx.no_ok HXK.out)
  have HT6:=hide (H5.out.1.setCellsNew (Nat.le_succ w.heap.size) (fcs xs) 0)
  have HTN:=hide ((Turn.refl (fun b=>b=w.heap.size+1) [TFile] _).setCells (.inl rfl) H5.out.2.2.1 (by simp) (fcs xs) 0)
  clear ho
  go_wp2_with fail
  refine bodyPost_ret (v:= .tuple #[.agg (fcs xs).toArray,.nilIface]) (results_cell_tmp Tryz.results188 _ _ (w.heap.size+1) TFile _ (0,0) _ rfl HW6.out Tryz.underlying130 rfl (by rw [infoFil,List.size_toArray,HXK.out.len]) _ rfl) rfl ⟨HT6.out,?_,?_⟩
  ·rw [HPM.out];exact H5.out.2.1.turn HTN.out (by decide) (by decide) (by decide)
  ·rw [HPM.out,HPN.out]
   exact .inl ⟨xs,f,rfl,HXK.out,(H5.out.2.2.2.2 f rfl).turn HTN.out (by decide),rfl⟩
 ·have hno:(if ok then o else none)=none:=by
   cases ok with
   | false=>rfl
   | true=>cases o with
    | none=>rfl
    | some f=>exact absurd ⟨rfl,rfl⟩ hgo
  have hbf:=fun w0=>buildF_no w0
  rw [noV_fcs] at hbf
  have HNO:=hide hno
  rw [HNO.out] at HPM
  cases ok with
  | false =>
   go_wp2_with fail
   generalize (w3.alloc (.cells noVA TFile)).setCells w3.heap.size 0 (fcs xs)=W5 at *
   have hf5:FileAt W5 (w.heap.size+1) Fx.no:=H5.out.2.2.1
   have hs1:(storeM (.pointer (some ⟨w.heap.size+1,0,none⟩)) (.agg (fcs Fx.no).toArray)).run Tryz.prog W5.drew= .ok () (W5.drew.setCells (w.heap.size+1) 0 (fcs Fx.no)):=storeM_of (w:=W5.drew) (file_there hf5 Fx.no_ok) Fx.no_ok.len (fcs_one Fx.no_ok.2)
   have hs2:∀ o,(storeM (.pointer (some ⟨w.heap.size+1,0,none⟩)) (.agg (fcs Fx.no).toArray)).run Tryz.prog (W5.alloc o).drew= .ok () ((W5.alloc o).drew.setCells (w.heap.size+1) 0 (fcs Fx.no)):=fun o=>storeM_of (w:=(W5.alloc o).drew) (file_there (w:=(W5.alloc o).drew) (xs:=Fx.no) (heap_alloc_old hf5) Fx.no_ok) Fx.no_ok.len (fcs_one Fx.no_ok.2)
   have hgt2:(W5.drew.setCells (w.heap.size+1) 0 (fcs Fx.no)).cell? ⟨6,0,none⟩=some (.iface 326 (.pointer (some (at_ 5)))):=by
    have h1:(6:Nat) < W0.heap.size:=cell_lt HS.out.tile
    have h2:=HW.out.size
    have h3:(6:Nat)≠w.heap.size+1:=by omega
    rw [World.cell?_of_block (w:=W5) (setCells_away (w:=W5.drew) (fcs Fx.no) 0 h3)]
    exact hgt
   have HF6:=hide hf5
   clear hf5
   go_region
   ·have HEN:=hide (tile_end1 (P:=(.cells #[.string ⟨pn.toArray⟩,.iface 326 (.pointer (some (at_ 5)))] 115)) H5.out.1 H5.out.2.1 HF6.out)
    clear hs1 hs2 hgt2 hbf
    go_wp2_with fail
    refine bodyPost_ret (v:= .tuple #[.agg (fcs Fx.no).toArray,pathE (W5.heap.size)]) (results_cell_tmp Tryz.results188 _ _ (w.heap.size+1) TFile _ (0,0) _ rfl HEN.out.2.2.1 Tryz.underlying130 rfl (by rw [infoFil,List.size_toArray,Fx.no_ok.len]) _ rfl) rfl ⟨HEN.out.1,by rw [HPM.out];exact HEN.out.2.1,?_⟩
    rw [HPM.out,HPN.out]
    exact .inr ⟨rfl,_,HSZ.out,HEN.out.2.2.2,rfl⟩
   ·have HEN:=hide (tile_end2 (P:=(.cells #[.string ⟨pn.toArray⟩,.iface 326 (.pointer (some (at_ 5)))] 115)) H5.out.1 H5.out.2.1 HF6.out)
    clear hs1 hs2 hgt2 hbf
    go_wp2_with fail
    refine bodyPost_ret (v:= .tuple #[.agg (fcs Fx.no).toArray,pathE ((W5.drew.setCells (w.heap.size+1) 0 (fcs Fx.no)).heap.size)]) (results_cell_tmp Tryz.results188 _ _ (w.heap.size+1) TFile _ (0,0) _ rfl HEN.out.2.2.1 Tryz.underlying130 rfl (by rw [infoFil,List.size_toArray,Fx.no_ok.len]) _ rfl) rfl ⟨HEN.out.1,by rw [HPM.out];exact HEN.out.2.1,?_⟩
    rw [HPM.out,HPN.out]
    exact .inr ⟨rfl,_,by rw [setCells_size];exact HSZ.out,HEN.out.2.2.2,rfl⟩
  | true =>
   cases o with
   | some f=>exact absurd ⟨rfl,rfl⟩ hgo
   | none =>
    go_wp2_with fail
    generalize (w3.alloc (.cells noVA TFile)).setCells w3.heap.size 0 (fcs xs)=W5 at *
    have hf5:FileAt W5 (w.heap.size+1) Fx.no:=H5.out.2.2.1
    have hs1:(storeM (.pointer (some ⟨w.heap.size+1,0,none⟩)) (.agg (fcs Fx.no).toArray)).run Tryz.prog W5.drew= .ok () (W5.drew.setCells (w.heap.size+1) 0 (fcs Fx.no)):=storeM_of (w:=W5.drew) (file_there hf5 Fx.no_ok) Fx.no_ok.len (fcs_one Fx.no_ok.2)
    have hs2:∀ o,(storeM (.pointer (some ⟨w.heap.size+1,0,none⟩)) (.agg (fcs Fx.no).toArray)).run Tryz.prog (W5.alloc o).drew= .ok () ((W5.alloc o).drew.setCells (w.heap.size+1) 0 (fcs Fx.no)):=fun o=>storeM_of (w:=(W5.alloc o).drew) (file_there (w:=(W5.alloc o).drew) (xs:=Fx.no) (heap_alloc_old hf5) Fx.no_ok) Fx.no_ok.len (fcs_one Fx.no_ok.2)
    have hgt2:(W5.drew.setCells (w.heap.size+1) 0 (fcs Fx.no)).cell? ⟨6,0,none⟩=some (.iface 326 (.pointer (some (at_ 5)))):=by
     have h1:(6:Nat) < W0.heap.size:=cell_lt HS.out.tile
     have h2:=HW.out.size
     have h3:(6:Nat)≠w.heap.size+1:=by omega
     rw [World.cell?_of_block (w:=W5) (setCells_away (w:=W5.drew) (fcs Fx.no) 0 h3)]
     exact hgt
    have HF6:=hide hf5
    clear hf5
    go_region
    ·have HEN:=hide (tile_end1 (P:=(.cells #[.string ⟨pn.toArray⟩,.iface 326 (.pointer (some (at_ 5)))] 115)) H5.out.1 H5.out.2.1 HF6.out)
     clear hs1 hs2 hgt2 hbf
     go_wp2_with fail
     refine bodyPost_ret (v:= .tuple #[.agg (fcs Fx.no).toArray,pathE (W5.heap.size)]) (results_cell_tmp Tryz.results188 _ _ (w.heap.size+1) TFile _ (0,0) _ rfl HEN.out.2.2.1 Tryz.underlying130 rfl (by rw [infoFil,List.size_toArray,Fx.no_ok.len]) _ rfl) rfl ⟨HEN.out.1,by rw [HPM.out];exact HEN.out.2.1,?_⟩
     rw [HPM.out,HPN.out]
     exact .inr ⟨rfl,_,HSZ.out,HEN.out.2.2.2,rfl⟩
    ·have HEN:=hide (tile_end2 (P:=(.cells #[.string ⟨pn.toArray⟩,.iface 326 (.pointer (some (at_ 5)))] 115)) H5.out.1 H5.out.2.1 HF6.out)
     clear hs1 hs2 hgt2 hbf
     go_wp2_with fail
     refine bodyPost_ret (v:= .tuple #[.agg (fcs Fx.no).toArray,pathE ((W5.drew.setCells (w.heap.size+1) 0 (fcs Fx.no)).heap.size)]) (results_cell_tmp Tryz.results188 _ _ (w.heap.size+1) TFile _ (0,0) _ rfl HEN.out.2.2.1 Tryz.underlying130 rfl (by rw [infoFil,List.size_toArray,Fx.no_ok.len]) _ rfl) rfl ⟨HEN.out.1,by rw [HPM.out];exact HEN.out.2.1,?_⟩
     rw [HPM.out,HPN.out]
     exact .inr ⟨rfl,_,by rw [setCells_size];exact HSZ.out,HEN.out.2.2.2,rfl⟩
end
section
open Go.RowKit Go.Extern.Stop Go.Stop Go.Extern
set_option maxRecDepth 100000
abbrev tyP (t:Nat):Value:= .pointer (some ⟨16,t,none⟩)
abbrev tyV (t:Nat):Value:= .iface 232 (.agg #[tyP t])
theorem ty_of_str (v:Value)(w:World):(ReflectliteType.typeOf #[.iface 326 v]).run Tryz.prog w= .ok (tyV 326) w:=by kernel_rfl
theorem meth_comparable (n:Nat)(v:Value)(w:World):(Go.method (n+1) 232 v "Comparable").run Tryz.prog w= .ok (248,v) w:=by kernel_rfl
theorem meth_unwrap (n:Nat)(v:Value)(w:World):(Go.method (n+1) 113 v "Unwrap").run Tryz.prog w= .ok (241,v) w:=by kernel_rfl
theorem no_is_path (v:Value)(xT:TypeId)(w:World):(Instr.typeAssert (.iface 113 v) xT 234 true).run Tryz.prog w= .ok (.tuple #[.nilIface,.bool false]) w:=run_typeAssert_lacksB Tryz.underlying234 (by kernel_rfl) (by kernel_rfl) v xT w
theorem has_unwrap_path (v:Value)(xT:TypeId)(w:World):(Instr.typeAssert (.iface 113 v) xT 237 true).run Tryz.prog w= .ok (.tuple #[.iface 113 v,.bool true]) w:=run_typeAssert_hasB Tryz.underlying237 (by kernel_rfl) v xT w
end
section
open Go.RowKit Go.Extern.Stop Go.Stop Go.Extern
set_option maxRecDepth 100000
theorem call_cmp (w:World):(callFunc 248 #[.agg #[tyP 326]]).run Tryz.prog w= .ok (.value (.bool true)) w:=by kernel_rfl
theorem is_path (pg:Nat)(b:Addr)(w:World)(h1:w.cell? ⟨pg,1,none⟩=some (.iface 326 (.pointer (some b)))):
  Calls Tryz.prog 46 #[.iface 113 (.pointer (some ⟨pg,0,none⟩)),.iface 326 (.pointer (some b))] w fun e w'=>e= .returned (.bool true)∧w'=w:=by
 obtain⟨i,hi,hcmp⟩:=Option.map_eq_some_iff.1 compPtr
 obtain⟨j,hj,hjs⟩:=Option.map_eq_some_iff.1 sizeStr
 have x1:=@run_callFunc_extern Tryz.prog 75 _ ReflectliteType.typeOf Tryz.func75 (by kernel_rfl) (by kernel_rfl) (by kernel_rfl) (by kernel_rfl)
 have y1:=ty_of_str
 have y2:=call_cmp
 have y3:=meth_comparable
 have y4:=no_is_path
 have y5:=has_unwrap_path
 have y6:=meth_unwrap
 have y7:=run_eql_iface_ptr_same (P:=Tryz.prog) w b Tryz.underlying70 Tryz.underlying326 hi hcmp hj
 have y8:=run_eql_iface_types (P:=Tryz.prog) 113 326 (.pointer (some ⟨pg,0,none⟩)) (.pointer (some b)) Tryz.underlying70 (by decide) w
 go_enter Tryz.func46,Tryz.ntmps46
 go_wp2
 refine wp_loop_rounds 2 ?_
 rw [rounds_succ]
 go_wp2
 rw [rounds_succ]
 go_wp2
 go_ret
 exact⟨rfl,rfl⟩
end
end Go.Proofs.YtinhekmmdlhfkaaGreatDoor
