import Derived.Test.YtinhekmmdlhfkaaGreatDoorG38
import Derived.Test.YtinhekmmdlhfkaaGreatDoorG18
import Derived.Test.YtinhekmmdlhfkaaGreatDoorG24
import Derived.Test.YtinhekmmdlhfkaaGreatDoorG14
import Derived.Test.YtinhekmmdlhfkaaGreatDoorG03
namespace Go.Proofs.YtinhekmmdlhfkaaGreatDoor
section
set_option maxHeartbeats 4000000
open Go.RowKit
set_option maxRecDepth 100000
attribute [local go_sem ↓] loadM_fold storeM_fold loadP_fold storeP_fold buildP_fold buildF_fold loadH_fold storeH_fold loadT_fold storeT_fold
theorem gotV_conv {w:World}{v:Value}{x:Option (List UInt8)}(h:GotV w v x):(convert 76 9 v).run Tryz.prog w= .ok (.string ⟨(x.getD []).toArray⟩) w:=by
 rcases h with ⟨d,rfl,hq⟩ | ⟨rfl,rfl⟩
 ·exact hq.conv
 ·kernel_rfl
theorem check_tr (t key:List UInt8)(ht:t.length≤1048576)(hk:key.length≤9223372036854775807)(w:World)(E:Env w):
  Calls Tryz.prog 57 #[.string ⟨t.toArray⟩,.string ⟨key.toArray⟩] w fun r w'=>Below w.heap.size w w'∧∃ n root b,root.length=8∧n < 9223372036854775808∧r= .returned (.tuple #[.agg (trC n root).toArray,.bool b])∧((b=true∧IsSign t key n root)∨(b=false∧∀ n root,¬ IsSign t key n root)):=by
 refine(check_any t key ht hk w E).mono ?_
 rintro r w' ⟨hb,⟨n,b0,b1,b2,b3,b4,b5,b6,b7,hi,rfl⟩ | ⟨hi,rfl⟩⟩
 ·exact⟨hb,n,_,true,rfl,by have:=hi.1;omega,rfl,.inl ⟨rfl,hi⟩⟩
 ·exact⟨hb,0,none8,false,rfl,by omega,rfl,.inr ⟨rfl,hi⟩⟩
theorem proveC_key {σ:Type}{fe:σ→List UInt8→(List UInt8×Bool)×σ}{con:Nat→Nat→List UInt8→List UInt8→List (List UInt8)→Bool}(c:Cl)(s:σ)(n:Nat)(r:List UInt8):proveC fe con c s n r=proveC fe con (clOf c.size c.root c.room c.proved) s n r:=by
 by_cases h1:n < c.size
 ·rw [proveC_old h1,proveC_old (c:=clOf c.size c.root c.room c.proved) h1];rfl
 ·by_cases h2:n=c.size
  ·by_cases h3:r=c.root
   ·rw [proveC_same h2 h3,proveC_same (c:=clOf c.size c.root c.room c.proved) h2 h3];rfl
   ·rw [proveC_other h2 h3,proveC_other (c:=clOf c.size c.root c.room c.proved) h2 h3];rfl
  ·have h4:c.size < n:=by omega
   by_cases h3:c.size=0
   ·rw [proveC_zero h4 h3,proveC_zero (c:=clOf c.size c.root c.room c.proved) h4 h3];rfl
   ·cases hr:rootsM fe c.proved n ⟨s,[]⟩ (partS 64 c.size 0 n true) with
    | mk o m =>
     cases o with
     | inl p=>rw [proveC_1 h4 h3 hr,proveC_1 (c:=clOf c.size c.root c.room c.proved) h4 h3 hr];rfl
     | inr ps =>
      cases hc:con c.size n c.root r ps with
      | false=>rw [proveC_2 h4 h3 hr hc,proveC_2 (c:=clOf c.size c.root c.room c.proved) h4 h3 hr hc];rfl
      | true=>rw [proveC_3 h4 h3 hr hc,proveC_3 (c:=clOf c.size c.root c.room c.proved) h4 h3 hr hc];rfl
theorem proveC_bad {σ:Type}{fe:σ→List UInt8→(List UInt8×Bool)×σ}{con:Nat→Nat→List UInt8→List UInt8→List (List UInt8)→Bool}{c:Cl}{s s':σ}{n:Nat}{r:List UInt8}{e:Er}{pr:Mm}(h:proveC fe con c s n r=(.inl e,pr,s')):pr=c.proved:=by
 unfold proveC at h
 split at h
 ·simp only [Prod.mk.injEq] at h;exact h.2.1.symm
 ·split at h
  ·split at h
   ·simp at h
   ·simp only [Prod.mk.injEq] at h;exact h.2.1.symm
  ·split at h
   ·simp at h
   ·split at h
    ·simp only [Prod.mk.injEq] at h;exact h.2.1.symm
    ·split at h
     ·simp at h
     ·simp only [Prod.mk.injEq] at h;exact h.2.1.symm
theorem ProveR.join {at_:Nat→Addr}{B:Nat}{w':World}{o:Sum Er (List (List UInt8))}{r:Ending}(h:ProveR at_ B w' o r):∃ v e,r= .returned (.tuple #[v,e])∧((e= .nilIface∧∃ ps,o= .inr ps)∨∃ ty p er,v= .slice none 0 0∧e= .iface ty p∧o= .inl er)∧∀(N:Nat→Prop) (w'':World),Turn N [TCli] w' w''→ProveR at_ B w'' o r:=by
 rcases h with ⟨ps,v,h1,h2,h3,h4⟩ | ⟨p,g,h1,h2,h3⟩ | ⟨h1,h2⟩ | ⟨h1,h2⟩
 ·exact⟨v,_,h4,.inl ⟨rfl,ps,h1⟩,fun N w'' ht=> .inl ⟨ps,v,h1,ownsRow_turn h2 ht (by decide),h3,h4⟩⟩
 ·exact⟨_,_,h3,.inr ⟨_,_,_,rfl,rfl,h1⟩,fun N w'' ht=> .inr (.inl ⟨p,g,h1,ht.keep h2 (by decide),h3⟩)⟩
 ·exact⟨_,_,h2,.inr ⟨_,_,_,rfl,rfl,h1⟩,fun N w'' _=> .inr (.inr (.inl ⟨h1,h2⟩))⟩
 ·exact⟨_,_,h2,.inr ⟨_,_,_,rfl,rfl,h1⟩,fun N w'' _=> .inr (.inr (.inr ⟨h1,h2⟩))⟩
theorem ProveR.lower {at_:Nat→Addr}{B B':Nat}{w':World}{o:Sum Er (List (List UInt8))}{r:Ending}(h:ProveR at_ B w' o r)(hb:B'≤B):ProveR at_ B' w' o r:=by
 rcases h with ⟨ps,v,h1,h2,h3,h4⟩ | h
 ·exact .inl ⟨ps,v,h1,owns_low h2 hb,h3,h4⟩
 ·exact .inr h
theorem trust_set {w:World}{cb nb pm nm size n:Nat}{root rr:List UInt8}{C:Array Value}{key:List UInt8}(hC:w.heap[cb]?=some (.cells C TCli (0,0)))(hcc:CCs C nb pm nm)(hk:C[3]?=some (txv key))(hm:C[0]?=some (.int .i32 1))(_hn:CNum C size root)(h8:rr.length=8):
  (storeT (.pointer (some ⟨cb,4,none⟩)) (.agg (trC n rr).toArray)).run Tryz.prog w= .ok () (w.setCells cb 4 (trC n rr))∧∃ C',(w.setCells cb 4 (trC n rr)).heap[cb]?=some (.cells C' TCli (0,0))∧CCs C' nb pm nm∧C'[3]?=some (txv key)∧C'[0]?=some (.int .i32 1)∧CNum C' n rr:=by
 have hsz:15≤C.size:=by
  have:=(Array.getElem?_eq_some_iff.1 hcc.nee).1
  omega
 have hl:15≤C.toList.length:=by simpa using hsz
 have h9:=trC_len n h8
 have hth:w.there cb 4 9:=by
  intro j hj
  have:=dcell hC (4+j) (C[4+j]'(by omega)) (Array.getElem?_eq_getElem _)
  exact⟨by rw [this.1];rfl,this.2⟩
 have hC':w.heap[cb]?=some (.cells C.toList.toArray TCli (0,0)):=hC
 have hset:=heap_setCells (trC n rr) 4 hC' (by rw [h9];omega)
 have low:∀ i,i < 4→(C.toList.take 4++(trC n rr++C.toList.drop (4+(trC n rr).length))).toArray[i]?=C[i]?:=by
  intro i hi
  rw [List.getElem?_toArray,List.getElem?_append_left (by simp;omega),List.getElem?_take_of_lt hi,Array.getElem?_toList]
 have mid:∀ j,j < 9→(C.toList.take 4++(trC n rr++C.toList.drop (4+(trC n rr).length))).toArray[4+j]?=(trC n rr)[j]?:=by
  intro j hj
  have e4:(C.toList.take 4).length=4:=by simp;omega
  rw [List.getElem?_toArray,List.getElem?_append_right (by omega),e4,Nat.add_sub_cancel_left,List.getElem?_append_left (by omega)]
 have high:∀ j,(C.toList.take 4++(trC n rr++C.toList.drop (4+(trC n rr).length))).toArray[13+j]?=C[13+j]?:=by
  intro j
  have e4:(C.toList.take 4).length=4:=by simp;omega
  rw [List.getElem?_toArray,List.getElem?_append_right (by omega),e4,List.getElem?_append_right (by omega),List.getElem?_drop,h9,Array.getElem?_toList]
  congr 1
  omega
 refine⟨storeT_of hth h8,_,hset,⟨(low 2 (by omega)).trans hcc.net,(high 0).trans hcc.prv,(high 1).trans hcc.nee⟩,(low 3 (by omega)).trans hk,(low 0 (by omega)).trans hm,⟨(mid 0 (by omega)).trans rfl,fun j v hv=>?_,h8⟩⟩
 have hj:j < 8:=by
  have:=(List.getElem?_eq_some_iff.1 hv).1
  simp at this
  omega
 rw [show 5+j=4+(j+1) by omega,mid (j+1) (by omega)]
 exact hv
def cpP:List UInt8 := "checkpoint".toUTF8.data.toList
def UpdR (at_:Nat→Addr)(B:Nat)(w':World)(o:Sum Er (List (List UInt8)))(r:Ending):Prop:=ProveR at_ B w' o r∨(o= .inl .cp∧r= .returned (.tuple #[.slice none 0 0,errS at_ 2]))
theorem update_any (W0:World)(at_:Nat→Addr)(O A OP:Nat→Prop)(cb nb db pm nm:Nat)(d:Dk)(c:Cl)(n:Nt)(w:World)(hE:Env W0)(hS:Sents W0 at_)(hTb:Tabs W0)(h:Pv W0 w O A OP cb nb pm nm c)(hs:Sh W0 w O nb db d n)(hf:n.fetches+20000 < 4611686018427387904)(hsz:c.size < 9223372036854775808)(hkl:c.key.length≤9223372036854775807)(htl:(netF d.fs n cpP).1.1.length≤1048576)(hpl:c.proved.length≤100000000000)(hwf:WfM c.proved):
  Calls Tryz.prog 32 #[ptrV cb] w fun r w'=>∃ o,ChkIs c.key (netF d.fs n cpP).1 o∧CR W0 w w' O A OP cb nb db pm nm d (updC (netF d.fs) conC c (netF d.fs n cpP).2 o).2.1 (updC (netF d.fs) conC c (netF d.fs n cpP).2 o).2.2 (fun _=>True)∧UpdR at_ w.heap.size w' (updC (netF d.fs) conC c (netF d.fs n cpP).2 o).1 r:=by
 obtain⟨C,hC,hB⟩:=h.cli
 have HL:=hide (lock_any ⟨cb,0,none⟩ w (dcell hC 0 _ hB.mu).1 (dcell hC 0 _ hB.mu).2)
 obtain⟨hcs,ht⟩:=lock_cs (k:=8401) h hs hC hB (Below.refl _ w) (by omega) (by omega)
 have HT:=hide ht
 have HH:=hide h
 have HBL:=hide hB.locked
 have HSZ:Hid ((w.setCell ⟨cb,0,none⟩ (.int .i32 1)).heap.size=w.heap.size):=by show _=_;simp [World.setCell]
 have c3:(w.setCell ⟨cb,0,none⟩ (.int .i32 1)).cell? ⟨cb,3,none⟩=some (txv c.key):=(dcell hcs.cli 3 _ hB.locked.2.1).1
 have HCS:=hide hcs
 have HE:=hide hE
 have HS:=hide hS
 have HTB:=hide hTb
 have HNUM:=hide (And.intro hkl (And.intro htl (And.intro hpl hwf)))
 clear hC hB h hs hcs ht hS hE hTb hpl hwf hkl htl
 unfold ptrV
 go_enter_defers Tryz.func32,Tryz.ntmps32
 go_wp2_with fail
 refine HL.out.mono ?_
 rintro r w2 ⟨rfl,rfl⟩
 clear HL
 generalize w.setCell ⟨cb,0,none⟩ (.int .i32 1)=W2 at *
 have HOK:=hide (HCS.out.st.ok (by have:=HCS.out.few;omega))
 have HFE:=hide (cfetch_any O nb db cb n d cpP W2 HOK.out.nf HOK.out.fl HOK.out.ly HOK.out.ll HOK.out.fe HOK.out.td HCS.out.disk HCS.out.net (dcell HCS.out.cli 2 _ HCS.out.cells.net).1)
 unfold ptrV at HFE
 go_wp2_with fail
 refine HFE.out.mono ?_
 rintro r w3 ⟨v,x,rfl,ht3,hn3,hgv,hx⟩
 have HC3:Hid (CS W0 w3 O (Ext A W2 w3) OP cb nb db pm nm (C.setIfInBounds 0 (.int .i32 1)) d c.room c.proved ⟨(netF d.fs n cpP).2,[]⟩ 8400):=by
  refine HCS.out.next (ht3.mono (fun _ h=> .inl h) (by decide)) ⟨(netF d.fs n cpP).2,[]⟩ 8400 hn3 (HCS.out.st.step cpP) ?_ (HCS.out.nee.stay ht3 (fun b hb e=>HCS.out.apart b e hb) (by decide) (by decide) (fun _ h=> .inl h)) (by simp)
  show(netF d.fs n cpP).2.fetches+_ < _
  rw [netF_cnt]
  have:=HCS.out.few
  simp only at this
  omega
 have HT3:Hid (Turn (fun b=>O b∨A b∨OP b∨b=cb) (TCli::clT) W2 w3):=ht3.mono (fun _ h=> .inl h) (by decide)
 have HA3:Hid (AInc A (Ext A W2 w3) W2 w3):=ainc_ext A W2 w3
 have HGV:=hide hgv
 have HX:=hide hx
 clear ht3 hn3 hgv hx HFE HOK HCS c3
 generalize hNF:netF d.fs n cpP=NF at *
 obtain⟨⟨t,fetched⟩,n3⟩:=NF
 have HNF:=hide hNF
 clear hNF
 simp only at *
 have HK:Hid (∀ X,Below w3.heap.size w3 X→(convert 76 9 v).run Tryz.prog X= .ok (.string ⟨t.toArray⟩) X∧X.cell? ⟨cb,3,none⟩=some (.string ⟨c.key.toArray⟩)):=by
  intro X hX
  have:=gotV_conv (GotV.turn (O:=fun _=>False) (T:=[]) HGV.out (.of_below hX) (by decide))
  rw [HX.out] at this
  exact⟨this,(dcell ((hX.block _ (heap_some_lt HC3.out.cli)).trans HC3.out.cli) 3 _ HBL.out.2.1).1⟩
 have HCHK:Hid (∀ X,Below w3.heap.size w3 X→Calls Tryz.prog 57 #[.string ⟨t.toArray⟩,.string ⟨c.key.toArray⟩] X fun r w'=>∃ nn rr b,r= .returned (.tuple #[.agg (trC nn rr).toArray,.bool b])∧Below X.heap.size X w'∧rr.length=8∧nn < 9223372036854775808∧((b=true∧IsSign t c.key nn rr)∨(b=false∧∀ n root,¬ IsSign t c.key n root))):=by
  intro X hX
  refine(check_tr t c.key HNUM.out.2.1 HNUM.out.1 X (HE.out.below (HC3.out.below hX).base)).mono ?_
  rintro r w' ⟨hb,nn,rr,b,h8,hn,rfl,hck⟩
  exact⟨nn,rr,b,rfl,hb,h8,hn,hck⟩
 have HST1:Hid (∀(w4:World) (nn:Nat) (rr:List UInt8),Below (w3.alloc (.cells #[.int .i64 0,.int .u8 0,.int .u8 0,.int .u8 0,.int .u8 0,.int .u8 0,.int .u8 0,.int .u8 0,.int .u8 0] 93)).drew.heap.size (w3.alloc (.cells #[.int .i64 0,.int .u8 0,.int .u8 0,.int .u8 0,.int .u8 0,.int .u8 0,.int .u8 0,.int .u8 0,.int .u8 0] 93)).drew w4→rr.length=8→(storeT (.pointer (some ⟨w3.heap.size,0,none⟩)) (.agg (trC nn rr).toArray)).run Tryz.prog w4= .ok () (w4.setCells w3.heap.size 0 (trC nn rr))∧(w4.setCells w3.heap.size 0 (trC nn rr)).heap[w3.heap.size]?=some (.cells (trC nn rr).toArray 93 (0,0))):=by
  intro w4 nn rr hb h8
  have hz:w4.heap[w3.heap.size]?=some (.cells (trC 0 none8).toArray 93 (0,0)):=by
   rw [hb.block _ (by show _ < (w3.alloc _).heap.size;simp)]
   exact heap_alloc_last w3 _
  exact⟨storeT_of (row_there hz) h8,row_whole hz (by rw [trC_len _ h8];rfl)⟩
 have HST2:Hid (∀(w4:World) (nn:Nat) (rr:List UInt8),rr.length=8→(storeT (.pointer (some ⟨w4.heap.size,0,none⟩)) (.agg (trC nn rr).toArray)).run Tryz.prog (w4.alloc (.cells #[.int .i64 0,.int .u8 0,.int .u8 0,.int .u8 0,.int .u8 0,.int .u8 0,.int .u8 0,.int .u8 0,.int .u8 0] 93))= .ok () ((w4.alloc (.cells #[.int .i64 0,.int .u8 0,.int .u8 0,.int .u8 0,.int .u8 0,.int .u8 0,.int .u8 0,.int .u8 0,.int .u8 0] 93)).setCells w4.heap.size 0 (trC nn rr))∧((w4.alloc (.cells #[.int .i64 0,.int .u8 0,.int .u8 0,.int .u8 0,.int .u8 0,.int .u8 0,.int .u8 0,.int .u8 0,.int .u8 0] 93)).setCells w4.heap.size 0 (trC nn rr)).heap[w4.heap.size]?=some (.cells (trC nn rr).toArray 93 (0,0))):=by
  intro w4 nn rr h8
  have hz:(w4.alloc (.cells #[.int .i64 0,.int .u8 0,.int .u8 0,.int .u8 0,.int .u8 0,.int .u8 0,.int .u8 0,.int .u8 0,.int .u8 0] 93)).heap[w4.heap.size]?=some (.cells (trC 0 none8).toArray 93 (0,0)):=heap_alloc_last w4 _
  exact⟨storeT_of (row_there hz) h8,row_whole hz (by rw [trC_len _ h8];rfl)⟩
 have HD0:Hid (Below w3.heap.size w3 w3.drew):=(Below.refl _ w3).drew
 have HD1:Hid (∀ o,Below w3.heap.size w3 (w3.alloc o).drew):=fun o=>(below_alloc w3 o).drew
 go_wp2_with fail
 go_cut [6,7] from 26 to 34 (fun s6 s7 wx=>∃(tb nn:Nat) (rr:List UInt8) (b:Bool),s6= .pointer (some ⟨tb,0,none⟩)∧s7= .bool b∧wx.heap[tb]?=some (.cells (trC nn rr).toArray 93 (0,0))∧w3.heap.size≤tb∧Below w3.heap.size w3 wx∧rr.length=8∧nn < 9223372036854775808∧((b=true∧IsSign t c.key nn rr)∨(b=false∧∀ n root,¬ IsSign t c.key n root)))
 case first =>
  go_region_held3 (fun X=>(convert 76 9 v).run Tryz.prog X= .ok (.string ⟨t.toArray⟩) X∧X.cell? ⟨cb,3,none⟩=some (.string ⟨c.key.toArray⟩)) (first | exact HK.out _ HD0.out | exact HK.out _ (HD1.out _) | exact HK.out _ HB4.out | exact HK.out _ (HB4.out.alloc HB4.out.size _) | exact HK.out _ (below_setCells HB4.out (Nat.le_refl _) _ _) | exact HK.out _ (below_setCells (HB4.out.alloc HB4.out.size _) HB4.out.size _ _)) (first
   | (go_at_call 57;refine(HCHK.out _ (by first | exact HD0.out | exact HD1.out _)).mono ?_;rintro r w4 ⟨nn,rr,b,rfl,hb4,h8,hnn,hck⟩;have HB4:Hid (Below w3.heap.size w3 w4):=(by first | exact HD0.out.trans (hb4.mono HD0.out.size) | exact(HD1.out _).trans (hb4.mono (HD1.out _).size));have HCK:=hide hck;have HNN:=hide hnn;have H8:=hide h8;(first | (have HQ:=hide (HST1.out w4 nn rr hb4 h8)) | (have HQ:=hide (HST2.out w4 nn rr h8)));have hst:=HQ.out.1;clear hb4 h8 hnn hck))
  all_goals (rename_i hheld;clear hheld)
  all_goals go_wp2_with fail
  all_goals go_meet
  all_goals first
   | exact⟨w3.heap.size,nn,rr,b,rfl,rfl,HQ.out.2,Nat.le_refl _,below_setCells HB4.out (Nat.le_refl _) _ _,H8.out,HNN.out,HCK.out⟩
   | exact⟨w4.heap.size,nn,rr,b,rfl,rfl,HQ.out.2,HB4.out.size,below_setCells (HB4.out.alloc HB4.out.size _) HB4.out.size _ _,H8.out,HNN.out,HCK.out⟩
 case rest =>
  obtain⟨tb,nn,rr,b,rfl,rfl,htb,htl,hbx,h8,hnn,hck⟩:=hcut
  obtain⟨X,hX⟩:∃ X,X=wc:=⟨_,rfl⟩
  subst hX
  have HBX:=hide hbx
  have HTBK:=hide htb
  have HCK:=hide hck
  have HNN:=hide (And.intro h8 hnn)
  clear htb htl hbx h8 hnn hck HK HCHK HST1 HST2 HD0 HD1
  cases fetched with
  | false =>
   have HC4:=hide (HC3.out.below HBX.out)
   have HU:=hide (unlock_def ⟨cb,0,none⟩ .returning X.drew (dcell HC4.out.cli 0 _ HBL.out.2.2.2).1 (dcell HC4.out.cli 0 _ HBL.out.2.2.2).2)
   have qe:X.cell? ⟨3,0,none⟩=some (.iface 326 (.pointer (some (at_ 2)))):=base_cell HC4.out.base HS.out.check
   go_wp2_with fail
   go_region_held3 (fun w'=>w'.cell? ⟨3,0,none⟩=some (.iface 326 (.pointer (some (at_ 2))))) (go_keep) (fail)
   rename_i hheld
   clear hheld
   go_wp2_with fail
   refine leaves_cons (f:=55) (args:=#[.pointer (some ⟨cb,0,none⟩)]) (by simp) (by simp [go_sem]) ?_
   refine HU.out.mono ?_
   rintro e u' w9 ⟨rfl,rfl,rfl⟩
   simp only [Leaves,settle]
   refine⟨.tuple #[.slice none 0 0,errS at_ 2],by simp [results,Tryz.results32,go_sem,errS],?_⟩
   rw [HNF.out]
   refine⟨none,.inl rfl,?_,.inr ⟨rfl,rfl⟩⟩
   exact unlock_cr (w8:=X.drew) (c':=c) HH.out HT.out ((HT3.out.then_below HBX.out).then_below (Below.refl _ X).drew) ((HA3.out.below HBX.out.size).below (Nat.le_refl _)) (AInc.refl _ _ _) (HC4.out.below (Below.refl _ X).drew) HBL.out.2.1 HBL.out.2.2.1 HBL.out.2.2.2 (fun _=>trivial)
  | true =>
   cases b with
   | false =>
    have HC4:=hide (HC3.out.below HBX.out)
    have HU:=hide (unlock_def ⟨cb,0,none⟩ .returning X.drew (dcell HC4.out.cli 0 _ HBL.out.2.2.2).1 (dcell HC4.out.cli 0 _ HBL.out.2.2.2).2)
    have qe:X.cell? ⟨3,0,none⟩=some (.iface 326 (.pointer (some (at_ 2)))):=base_cell HC4.out.base HS.out.check
    go_wp2_with fail
    go_region_held3 (fun w'=>w'.cell? ⟨3,0,none⟩=some (.iface 326 (.pointer (some (at_ 2))))) (go_keep) (fail)
    rename_i hheld
    clear hheld
    go_wp2_with fail
    refine leaves_cons (f:=55) (args:=#[.pointer (some ⟨cb,0,none⟩)]) (by simp) (by simp [go_sem]) ?_
    refine HU.out.mono ?_
    rintro e u' w9 ⟨rfl,rfl,rfl⟩
    simp only [Leaves,settle]
    refine⟨.tuple #[.slice none 0 0,errS at_ 2],by simp [results,Tryz.results32,go_sem,errS],?_⟩
    rw [HNF.out]
    refine⟨none,?_,?_,.inr ⟨rfl,rfl⟩⟩
    ·rcases HCK.out with h | h
     ·exact absurd h.1 (by decide)
     ·exact .inr h.2
    exact unlock_cr (w8:=X.drew) (c':=c) HH.out HT.out ((HT3.out.then_below HBX.out).then_below (Below.refl _ X).drew) ((HA3.out.below HBX.out.size).below (Nat.le_refl _)) (AInc.refl _ _ _) (HC4.out.below (Below.refl _ X).drew) HBL.out.2.1 HBL.out.2.2.1 HBL.out.2.2.2 (fun _=>trivial)
   | true =>
    have HSG:Hid (IsSign t c.key nn rr):=by
     rcases HCK.out with h | h
     ·exact h.2
     ·exact absurd h.1 (by decide)
    have HC4:=hide (HC3.out.below HBX.out)
    have HT4:=hide (HT3.out.then_below HBX.out)
    have HA4:=hide (HA3.out.below HBX.out.size)
    have hlt:(loadT (.pointer (some ⟨tb,0,none⟩))).run Tryz.prog X= .ok (.agg (trC nn rr).toArray) X:=loadT_of (range_row HTBK.out) HNN.out.1
    have HPR:=hide (prove_any W0 at_ O (Ext A W2 w3) OP cb nb db pm nm _ d c.room c.proved n3 0 c.size nn c.root rr hsz HNN.out.2 HNN.out.1 HBL.out.2.2.1 HE.out HS.out HTB.out HNUM.out.2.2.1 HNUM.out.2.2.2 (fun b hb=>(HH.out.own b (.inr (.inl hb))).1) X HC4.out)
    rw [← proveC_key] at HPR
    have HUP:Hid (∀ o pr s1,proveC (netF d.fs) conC c n3 nn rr=(o,pr,s1)→updC (netF d.fs) conC c n3 (some (nn,rr))=match o with | .inl e=>(.inl e,c,s1) | .inr ps=>(.inr ps,{ c with size:=nn,root:=rr,proved:=pr },s1)):=by
     intro o pr s1 e
     unfold updC
     simp only [e]
     cases o<;>rfl
    have HBAD:Hid (∀ e pr s1,proveC (netF d.fs) conC c n3 nn rr=(.inl e,pr,s1)→pr=c.proved):=fun e pr s1 h=>proveC_bad h
    clear HC3 HT3 HA3
    unfold ptrV at HPR
    generalize proveC (netF d.fs) conC c n3 nn rr=PC at *
    obtain⟨o,pr2,n4⟩:=PC
    simp only at *
    go_wp2_with fail
    refine HPR.out.mono ?_
    rintro r w5 ⟨hout,hr⟩
    obtain⟨pv,ev,rfl,hcase,hr⟩:=hr.join
    obtain⟨A',OP',hA,hP,hc5,-⟩:=hout.cs
    have HT5:Hid (Turn (fun b=>O b∨A b∨OP b∨b=cb) (TCli::clT) W2 w5):=by
     refine HT4.out.trans ((AInc.turn (cb:=cb) hout.turn).mono (fun b hb=>?_) (fun _ h=>h))
     rcases hb with hb | hb | hb | hb
     ·exact .inl (.inl hb)
     ·exact(HA4.out.2 b hb).imp (fun h=> .inr (.inl h)) id
     ·exact .inl (.inr (.inr (.inl hb)))
     ·exact .inl (.inr (.inr (.inr hb)))
    have HSX:=hide HT4.out.size
    have HA5:Hid (AInc A A' W2 w5):=⟨fun b hb=>hA.1 b (HA4.out.1 b hb),fun b hb=>by
     have:=HSX.out
     rcases hA.2 b hb with h | h
     ·exact(HA4.out.2 b h).imp id (fun h=>⟨h.1,Nat.lt_of_lt_of_le h.2 hout.turn.size⟩)
     ·exact .inr ⟨by omega,h.2⟩⟩
    have HP5:Hid (AInc OP OP' W2 w5):=⟨hP.1,fun b hb=>(hP.2 b hb).imp id (fun h=>⟨Nat.le_trans HSX.out h.1,h.2⟩)⟩
    have HC5:=hide hc5
    have HR:=hide hr
    have HTB5:=hide (hout.turn.keep HTBK.out (by decide))
    clear hout hr hA hP hc5 HPR HC4 HT4 HA4 HTBK hlt
    have HB0:Hid (w.heap.size≤X.heap.size):=by have:=HSX.out;have:=HSZ.out;show _≤_;omega
    rcases hcase with ⟨rfl,ps,rfl⟩ | ⟨ty,p,er,rfl,rfl,rfl⟩
    ·have hlt:(loadT (.pointer (some ⟨tb,0,none⟩))).run Tryz.prog w5= .ok (.agg (trC nn rr).toArray) w5:=loadT_of (range_row HTB5.out) HNN.out.1
     obtain⟨hst,C',hC',hcc',hk',hm',hn'⟩:=trust_set (n:=nn) HC5.out.cli HC5.out.cells HBL.out.2.1 HBL.out.2.2.2 HBL.out.2.2.1 HNN.out.1
     have HCC:=hide (And.intro hcc' (And.intro hk' (And.intro hm' hn')))
     have ht6:Turn (fun b=>b=cb) [TCli] w5 (w5.setCells cb 4 (trC nn rr)):=Turn.setCells (O:=fun b=>b=cb) (T:=[TCli]) (Turn.refl _ _ w5) (.inl rfl) HC5.out.cli (by simp) _ _
     have HCB:Hid (W0.heap.size≤cb∧¬ A' cb∧¬ OP' cb):=by
      have h1:=HH.out.own cb (.inr (.inr rfl))
      have h2:=HSZ.out
      refine⟨h1.1,fun e=>?_,fun e=>?_⟩
      ·rcases HA5.out.2 cb e with h | h
       ·exact HH.out.cbA h
       ·omega
      ·rcases HP5.out.2 cb e with h | h
       ·exact HH.out.cbP h
       ·omega
     have HC6:=hide (HC5.out.client ht6 HCB.out hC' hcc')
     have HT6:=hide ht6
     have HU:=hide (unlock_def ⟨cb,0,none⟩ .returning (w5.setCells cb 4 (trC nn rr)) (dcell hC' 0 _ hm').1 (dcell hC' 0 _ hm').2)
     clear hC' hcc' hk' hm' hn' ht6
     generalize w5.setCells cb 4 (trC nn rr)=W6 at *
     go_wp2_with fail
     refine leaves_cons (f:=55) (args:=#[.pointer (some ⟨cb,0,none⟩)]) (by simp) (by simp [go_sem]) ?_
     refine HU.out.mono ?_
     rintro e u' w9 ⟨rfl,rfl,rfl⟩
     simp only [Leaves,settle]
     refine⟨.tuple #[pv,.nilIface],by simp [results,Tryz.results32,go_sem],?_⟩
     rw [HNF.out]
     refine⟨some (nn,rr),⟨rfl,HSG.out⟩,?_⟩
     rw [HUP.out _ _ _ rfl]
     have s6:=HT6.out.size
     refine⟨unlock_cr (w8:=W6) (c':={ c with size:=nn,root:=rr,proved:=pr2 }) HH.out HT.out (HT5.out.trans (HT6.out.mono (fun b hb=> .inl (.inr (.inr (.inr hb)))) (by decide))) (HA5.out.below s6) (HP5.out.below s6) HC6.out HCC.out.2.1 HCC.out.2.2.2 HCC.out.2.2.1 (fun _=>trivial),.inl ((HR.out (fun b=>b=cb) _ ?_).lower HB0.out)⟩
     exact HT6.out.trans ((Turn.set (O:=fun b=>b=cb) (T:=[TCli]) (Turn.refl _ _ W6) (.inl rfl) HC6.out.cli (by simp) _).mono (fun _ h=> .inl h) (fun _ h=>h))
    ·obtain rfl:=HBAD.out _ _ _ rfl
     have HU:=hide (unlock_def ⟨cb,0,none⟩ .returning w5 (dcell HC5.out.cli 0 _ HBL.out.2.2.2).1 (dcell HC5.out.cli 0 _ HBL.out.2.2.2).2)
     go_wp2_with fail
     refine leaves_cons (f:=55) (args:=#[.pointer (some ⟨cb,0,none⟩)]) (by simp) (by simp [go_sem]) ?_
     refine HU.out.mono ?_
     rintro e u' w9 ⟨rfl,rfl,rfl⟩
     simp only [Leaves,settle]
     refine⟨.tuple #[.slice none 0 0,.iface ty p],by simp [results,Tryz.results32,go_sem],?_⟩
     rw [HNF.out]
     refine⟨some (nn,rr),⟨rfl,HSG.out⟩,?_⟩
     rw [HUP.out _ _ _ rfl]
     refine⟨unlock_cr (w8:=w5) (c':=c) HH.out HT.out HT5.out HA5.out HP5.out HC5.out HBL.out.2.1 HBL.out.2.2.1 HBL.out.2.2.2 (fun _=>trivial),.inl ((HR.out (fun b=>b=cb) _ ?_).lower HB0.out)⟩
     exact Turn.set (O:=fun b=>b=cb) (T:=[TCli]) (Turn.refl _ _ w5) (.inl rfl) HC5.out.cli (by simp) _
end
section
set_option maxHeartbeats 4000000
open Go.RowKit
set_option maxRecDepth 100000
attribute [local go_sem ↓] loadM_fold storeM_fold loadP_fold storeP_fold buildP_fold buildF_fold loadH_fold storeH_fold loadT_fold storeT_fold
def buildT (parts:Array (Nat×Value)):Sem Value:=Instr.build 93 parts
theorem buildT_fold (parts:Array (Nat×Value)):Instr.build 93 parts=buildT parts:=rfl
def buildC (parts:Array (Nat×Value)):Sem Value:=Instr.build TCli parts
theorem buildC_fold (parts:Array (Nat×Value)):Instr.build TCli parts=buildC parts:=rfl
attribute [local go_sem ↓] buildT_fold buildC_fold
theorem buildT_of (h:List UInt8)(hl:h.length=8)(w:World):(buildT #[(1,.agg (hv h))]).run Tryz.prog w= .ok (.agg (trC 0 h).toArray) w:=by
 obtain⟨b0,b1,b2,b3,b4,b5,b6,b7,rfl⟩:=hv8 h hl
 kernel_rfl
def cliC (tv:Value)(key:List UInt8)(n:Nat)(root:List UInt8)(pm nm:Nat):List Value:=[.int .i32 0,.int .u32 0,tv,txv key]++(trC n root++[ptrV pm,ptrV nm])
theorem buildC_of (tv:Value)(htv:tv= .nilIface∨∃ t p,tv= .iface t p)(key h:List UInt8)(hl:h.length=8)(pm nm:Nat)(w:World):(buildC #[(1,tv),(2,.string ⟨key.toArray⟩),(3,.agg (trC 0 h).toArray),(4,.pointer (some ⟨pm,0,none⟩)),(5,.pointer (some ⟨nm,0,none⟩))]).run Tryz.prog w= .ok (.agg (cliC tv key 0 h pm nm).toArray) w:=by
 obtain⟨b0,b1,b2,b3,b4,b5,b6,b7,rfl⟩:=hv8 h hl
 rcases htv with rfl | ⟨t,p,rfl⟩
 ·kernel_rfl
 ·kernel_rfl
theorem newC_any (tv:Value)(htv:tv= .nilIface∨∃ t p,tv= .iface t p)(key:List UInt8)(room:Int)(w:World):
  Calls Tryz.prog 31 #[tv,txv key,.int .i64 room] w fun r w'=>∃(cb pm nm:Nat) (A OP:Nat→Prop),r= .returned (ptrV cb)∧Below w.heap.size w w'∧cb < w'.heap.size∧w.heap.size≤cb∧(∀ k,A k→w.heap.size≤k∧k < cb)∧(∀ k,OP k→w.heap.size≤k∧k < cb∧¬ A k)∧MemP w' OP pm room []∧MemN w' A nm maxI []∧w'.heap[cb]?=some (.cells (cliC tv key 0 (rootF 0 []) pm nm).toArray TCli (0,0)):=by
 have HR:=hide (root_any 0 (.slice none 0 0) [] w (by simp) (by simp) (by simp) ⟨none,0,rfl,by simp,.inl rfl⟩)
 have HR8:Hid ((rootF 0 []).length=8):=rootF_length _ _
 have HV:=hide htv
 clear htv
 generalize rootF 0 []=R at *
 have hbT:=fun X=>buildT_of R HR8.out X
 have hbC:=fun pm nm X=>buildC_of tv HV.out key R HR8.out pm nm X
 unfold txv
 go_enter Tryz.func31,Tryz.ntmps31
 go_wp2_with fail
 refine HR.out.mono ?_
 rintro r w1 ⟨rfl,hb1⟩
 have HB1:=hide hb1
 clear hb1 HR
 go_wp2_with fail
 refine(newP_any room w1).mono ?_
 rintro r w2 ⟨pm,rfl,hb2,hmp⟩
 have HB2:=hide hb2
 have HMP:=hide hmp
 clear hb2 hmp
 unfold ptrV
 go_wp2_with fail
 refine(newN_any maxI w2).mono ?_
 rintro r w3 ⟨nm,rfl,hb3,hmn⟩
 have HB3:=hide hb3
 have HMN:=hide hmn
 clear hb3 hmn
 unfold ptrV
 go_wp2_with fail
 go_ret
 have s1:=HB1.out.size
 have s2:=HB2.out.size
 have s3:=HB3.out.size
 have hb4:=below_alloc w3 (.cells (cliC tv key 0 R pm nm).toArray TCli)
 refine⟨w3.heap.size,pm,nm,fun k=>w2.heap.size≤k∧k < w3.heap.size,fun k=>w1.heap.size≤k∧k < w2.heap.size,rfl,?_,by simp,by omega,fun k hk=>⟨by omega,hk.2⟩,fun k hk=>⟨by omega,by omega,fun h=>by omega⟩,(HMP.out.below HB3.out (fun _ h=>h)).below hb4 (fun _ h=>h),HMN.out.below hb4 (fun _ h=>h),heap_alloc_last _ _⟩
 exact((HB1.out.trans (HB2.out.mono (by omega))).trans (HB3.out.mono (by omega))).trans (hb4.mono (by omega))
theorem cliC_bl {nb n pm nm:Nat}{key root:List UInt8}(room:Int)(pr:Mm)(h:root.length=8):CBl (cliC (netV nb) key n root pm nm).toArray nb pm nm ⟨key,n,root,room,pr⟩:=by
 have h9:=trC_len n h
 have hi:∀ j,(cliC (netV nb) key n root pm nm).toArray[4+j]?=(trC n root++[ptrV pm,ptrV nm])[j]?:=fun j=>by
  rw [List.getElem?_toArray,cliC,List.getElem?_append_right (by simp)]
  congr 1
  simp
 have hp:(trC n root++[ptrV pm,ptrV nm])[9]?=some (ptrV pm):=by
  rw [List.getElem?_append_right (by omega),h9];rfl
 have hn:(trC n root++[ptrV pm,ptrV nm])[10]?=some (ptrV nm):=by
  rw [List.getElem?_append_right (by omega),h9];rfl
 refine⟨⟨rfl,(hi 9).trans hp,(hi 10).trans hn⟩,rfl,rfl,⟨(hi 0).trans ?_,fun j v hv=>?_,h⟩⟩
 ·rw [List.getElem?_append_left (by omega)];rfl
 ·have hj:j < 8:=by
   have:=(List.getElem?_eq_some_iff.1 hv).1
   simp at this
   omega
  rw [show 5+j=4+(j+1) by omega,hi (j+1),List.getElem?_append_left (by omega)]
  exact hv
theorem newC_net (W0:World)(O:Nat→Prop)(nb:Nat)(key:List UInt8)(room:Int)(w:World)(hb0:W0.heap.size≤w.heap.size)(hO:∀ b,O b→b < w.heap.size):
  Calls Tryz.prog 31 #[netV nb,txv key,.int .i64 room] w fun r w'=>∃(cb pm nm:Nat) (A OP:Nat→Prop),r= .returned (ptrV cb)∧Below w.heap.size w w'∧w.heap.size≤cb∧(∀ k,A k∨OP k→w.heap.size≤k)∧Pv W0 w' O A OP cb nb pm nm ⟨key,0,rootF 0 [],room,[]⟩:=by
 refine(newC_any (netV nb) (.inr ⟨_,_,rfl⟩) key room w).mono ?_
 rintro r w' ⟨cb,pm,nm,A,OP,rfl,hb,h1,h2,hA,hP,hmp,hmn,hc⟩
 refine⟨cb,pm,nm,A,OP,rfl,hb,h2,fun k hk=>hk.elim (fun h=>(hA k h).1) (fun h=>(hP k h).1),⟨fun b hb'=>?_,fun b h=>(hP b h).2.2,fun h=>Nat.lt_irrefl _ (hA cb h).2,fun h=>Nat.lt_irrefl _ (hP cb h).2.1,⟨_,hc,cliC_bl room [] (rootF_length _ _)⟩,⟨[],hmp,.nil⟩,hmn⟩⟩
 have:w.heap.size≤b∧b≤cb:=by
  rcases hb' with h | h | rfl
  ·have:=hA b h;omega
  ·have:=hP b h;omega
  ·omega
 exact⟨by omega,by omega,fun h=>by have:=hO b h;omega⟩
end
end Go.Proofs.YtinhekmmdlhfkaaGreatDoor
