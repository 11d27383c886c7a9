import Derived.Test.YtinhekmmdlhfkaaGreatDoorG38
import Derived.Test.YtinhekmmdlhfkaaGreatDoorG18
import Derived.Test.YtinhekmmdlhfkaaGreatDoorG25
import Derived.Test.YtinhekmmdlhfkaaGreatDoorG26
import Derived.Test.YtinhekmmdlhfkaaGreatDoorG14
import Derived.Test.YtinhekmmdlhfkaaGreatDoorG03
namespace Go.Proofs.YtinhekmmdlhfkaaGreatDoor
section
set_option maxHeartbeats 4000000
open Go.RowKit
set_option maxRecDepth 100000
attribute [local go_sem ↓] yq yk yt yp yn yo yu yl zay zae
theorem z0g {w:World}{v:Value}{x:Option (List UInt8)}(h:zfd w v x):(convert 76 9 v).run Tryz.prog w= .ok (.string ⟨(x.getD []).toArray⟩) w:=by
 rcases h with ⟨d,rfl,hq⟩ | ⟨rfl,rfl⟩
 ·exact hq.conv
 ·kernel_rfl
theorem z3o (t key:List UInt8)(ht:t.length≤1048576)(hk:key.length≤9223372036854775807)(w:World)(E:Env w):
  Calls Tryz.prog 57 #[.string ⟨t.toArray⟩,.string ⟨key.toArray⟩] w fun r w'=>Below w.heap.size w w'∧∃ n root b,root.length=8∧n < 9223372036854775808∧r= .returned (.tuple #[.agg (trC n root).toArray,.bool b])∧((b=true∧jq t key n root)∨(b=false∧∀ n root,¬ jq t key n root)):=by
 refine(zpq t key ht hk w E).mono ?_
 rintro r w' ⟨hb,⟨n,b0,b1,b2,b3,b4,b5,b6,b7,hi,rfl⟩ | ⟨hi,rfl⟩⟩
 ·exact⟨hb,n,_,true,rfl,by have:=hi.1;omega,rfl,.inl ⟨rfl,hi⟩⟩
 ·exact⟨hb,0,xd,false,rfl,by omega,rfl,.inr ⟨rfl,hi⟩⟩
theorem zv4 {σ:Type}{fe:σ→List UInt8→(List UInt8×Bool)×σ}{con:Nat→Nat→List UInt8→List UInt8→List (List UInt8)→Bool}(c:Cl)(s:σ)(n:Nat)(r:List UInt8):qi fe con c s n r=qi fe con (ju c.size c.root c.room c.proved) s n r:=by
 by_cases h1:n < c.size
 ·rw [zfi h1,zfi (c:=ju c.size c.root c.room c.proved) h1];rfl
 ·by_cases h2:n=c.size
  ·by_cases h3:r=c.root
   ·rw [zec h2 h3,zec (c:=ju c.size c.root c.room c.proved) h2 h3];rfl
   ·rw [zc3 h2 h3,zc3 (c:=ju c.size c.root c.room c.proved) h2 h3];rfl
  ·have h4:c.size < n:=by omega
   by_cases h3:c.size=0
   ·rw [zed h4 h3,zed (c:=ju c.size c.root c.room c.proved) h4 h3];rfl
   ·cases hr:yh fe c.proved n ⟨s,[]⟩ (xr 64 c.size 0 n true) with
    | mk o m =>
     cases o with
     | inl p=>rw [zjd h4 h3 hr,zjd (c:=ju c.size c.root c.room c.proved) h4 h3 hr];rfl
     | inr ps =>
      cases hc:con c.size n c.root r ps with
      | false=>rw [ziw h4 h3 hr hc,ziw (c:=ju c.size c.root c.room c.proved) h4 h3 hr hc];rfl
      | true=>rw [zi8 h4 h3 hr hc,zi8 (c:=ju c.size c.root c.room c.proved) h4 h3 hr hc];rfl
theorem zvu {σ:Type}{fe:σ→List UInt8→(List UInt8×Bool)×σ}{con:Nat→Nat→List UInt8→List UInt8→List (List UInt8)→Bool}{c:Cl}{s s':σ}{n:Nat}{r:List UInt8}{e:Er}{pr:Mm}(h:qi fe con c s n r=(.inl e,pr,s')):pr=c.proved:=by
 unfold qi at h
 split at h
 ·simp only [Prod.mk.injEq] at h;exact h.2.1.symm
 ·split at h
  ·split at h
   ·simp at h
   ·simp only [Prod.mk.injEq] at h;exact h.2.1.symm
  ·split at h
   ·simp at h
   ·split at h
    ·simp only [Prod.mk.injEq] at h;exact h.2.1.symm
    ·split at h
     ·simp at h
     ·simp only [Prod.mk.injEq] at h;exact h.2.1.symm
theorem zgw.join {at_:Nat→Addr}{B:Nat}{w':World}{o:Sum Er (List (List UInt8))}{r:Ending}(h:zgw at_ B w' o r):∃ v e,r= .returned (.tuple #[v,e])∧((e= .nilIface∧∃ ps,o= .inr ps)∨∃ ty p er,v= .slice none 0 0∧e= .iface ty p∧o= .inl er)∧∀(N:Nat→Prop) (w'':World),zf N [qw] w' w''→zgw at_ B w'' o r:=by
 rcases h with ⟨ps,v,h1,h2,h3,h4⟩ | ⟨p,g,h1,h2,h3⟩ | ⟨h1,h2⟩ | ⟨h1,h2⟩
 ·exact⟨v,_,h4,.inl ⟨rfl,ps,h1⟩,fun N w'' ht=> .inl ⟨ps,v,h1,zo h2 ht (by decide),h3,h4⟩⟩
 ·exact⟨_,_,h3,.inr ⟨_,_,_,rfl,rfl,h1⟩,fun N w'' ht=> .inr (.inl ⟨p,g,h1,ht.keep h2 (by decide),h3⟩)⟩
 ·exact⟨_,_,h2,.inr ⟨_,_,_,rfl,rfl,h1⟩,fun N w'' _=> .inr (.inr (.inl ⟨h1,h2⟩))⟩
 ·exact⟨_,_,h2,.inr ⟨_,_,_,rfl,rfl,h1⟩,fun N w'' _=> .inr (.inr (.inr ⟨h1,h2⟩))⟩
theorem zgw.lower {at_:Nat→Addr}{B B':Nat}{w':World}{o:Sum Er (List (List UInt8))}{r:Ending}(h:zgw at_ B w' o r)(hb:B'≤B):zgw at_ B' w' o r:=by
 rcases h with ⟨ps,v,h1,h2,h3,h4⟩ | h
 ·exact .inl ⟨ps,v,h1,zdu h2 hb,h3,h4⟩
 ·exact .inr h
theorem zzh {w:World}{cb nb pm nm size n:Nat}{root rr:List UInt8}{C:Array Value}{key:List UInt8}(hC:w.heap[cb]?=some (.cells C qw (0,0)))(hcc:CCs C nb pm nm)(hk:C[3]?=some (txv key))(hm:C[0]?=some (.int .i32 1))(_hn:zjj C size root)(h8:rr.length=8):
  (ze6 (.pointer (some ⟨cb,4,none⟩)) (.agg (trC n rr).toArray)).run Tryz.prog w= .ok () (w.setCells cb 4 (trC n rr))∧∃ C',(w.setCells cb 4 (trC n rr)).heap[cb]?=some (.cells C' qw (0,0))∧CCs C' nb pm nm∧C'[3]?=some (txv key)∧C'[0]?=some (.int .i32 1)∧zjj C' n rr:=by
 have hsz:15≤C.size:=by
  have:=(Array.getElem?_eq_some_iff.1 hcc.nee).1
  omega
 have hl:15≤C.toList.length:=by simpa using hsz
 have h9:=zb7 n h8
 have hth:w.there cb 4 9:=by
  intro j hj
  have:=zg hC (4+j) (C[4+j]'(by omega)) (Array.getElem?_eq_getElem _)
  exact⟨by rw [this.1];rfl,this.2⟩
 have hC':w.heap[cb]?=some (.cells C.toList.toArray qw (0,0)):=hC
 have hset:=zan (trC n rr) 4 hC' (by rw [h9];omega)
 have low:∀ i,i < 4→(C.toList.take 4++(trC n rr++C.toList.drop (4+(trC n rr).length))).toArray[i]?=C[i]?:=by
  intro i hi
  rw [List.getElem?_toArray,List.getElem?_append_left (by simp;omega),List.getElem?_take_of_lt hi,Array.getElem?_toList]
 have mid:∀ j,j < 9→(C.toList.take 4++(trC n rr++C.toList.drop (4+(trC n rr).length))).toArray[4+j]?=(trC n rr)[j]?:=by
  intro j hj
  have e4:(C.toList.take 4).length=4:=by simp;omega
  rw [List.getElem?_toArray,List.getElem?_append_right (by omega),e4,Nat.add_sub_cancel_left,List.getElem?_append_left (by omega)]
 have high:∀ j,(C.toList.take 4++(trC n rr++C.toList.drop (4+(trC n rr).length))).toArray[13+j]?=C[13+j]?:=by
  intro j
  have e4:(C.toList.take 4).length=4:=by simp;omega
  rw [List.getElem?_toArray,List.getElem?_append_right (by omega),e4,List.getElem?_append_right (by omega),List.getElem?_drop,h9,Array.getElem?_toList]
  congr 1
  omega
 refine⟨zdd hth h8,_,hset,⟨(low 2 (by omega)).trans hcc.net,(high 0).trans hcc.prv,(high 1).trans hcc.nee⟩,(low 3 (by omega)).trans hk,(low 0 (by omega)).trans hm,⟨(mid 0 (by omega)).trans rfl,fun j v hv=>?_,h8⟩⟩
 have hj:j < 8:=by
  have:=(List.getElem?_eq_some_iff.1 hv).1
  simp at this
  omega
 rw [show 5+j=4+(j+1) by omega,mid (j+1) (by omega)]
 exact hv
def cpP:List UInt8 := "checkpoint".toUTF8.data.toList
def z8e (at_:Nat→Addr)(B:Nat)(w':World)(o:Sum Er (List (List UInt8)))(r:Ending):Prop:=zgw at_ B w' o r∨(o= .inl .cp∧r= .returned (.tuple #[.slice none 0 0,jo at_ 2]))
theorem zu6 (W0:World)(at_:Nat→Addr)(O A OP:Nat→Prop)(cb nb db pm nm:Nat)(d:Dk)(c:Cl)(n:Nt)(w:World)(hE:Env W0)(hS:qm W0 at_)(hTb:zdn W0)(h:Pv W0 w O A OP cb nb pm nm c)(hs:Sh W0 w O nb db d n)(hf:n.fetches+20000 < 4611686018427387904)(hsz:c.size < 9223372036854775808)(hkl:c.key.length≤9223372036854775807)(htl:(zq d.fs n cpP).1.1.length≤1048576)(hpl:c.proved.length≤100000000000)(hwf:WfM c.proved):
  Calls Tryz.prog 32 #[zt cb] w fun r w'=>∃ o,zkx c.key (zq d.fs n cpP).1 o∧CR W0 w w' O A OP cb nb db pm nm d (zdp (zq d.fs) za5 c (zq d.fs n cpP).2 o).2.1 (zdp (zq d.fs) za5 c (zq d.fs n cpP).2 o).2.2 (fun _=>True)∧z8e at_ w.heap.size w' (zdp (zq d.fs) za5 c (zq d.fs n cpP).2 o).1 r:=by
 obtain⟨C,hC,hB⟩:=h.cli
 have HL:=za (zne ⟨cb,0,none⟩ w (zg hC 0 _ hB.mu).1 (zg hC 0 _ hB.mu).2)
 obtain⟨hcs,ht⟩:=zwu (k:=8401) h hs hC hB (Below.refl _ w) (by omega) (by omega)
 have HT:=za ht
 have HH:=za h
 have HBL:=za hB.locked
 have HSZ:Hid ((w.setCell ⟨cb,0,none⟩ (.int .i32 1)).heap.size=w.heap.size):=by show _=_;simp [World.setCell]
 have c3:(w.setCell ⟨cb,0,none⟩ (.int .i32 1)).cell? ⟨cb,3,none⟩=some (txv c.key):=(zg hcs.cli 3 _ hB.locked.2.1).1
 have HCS:=za hcs
 have HE:=za hE
 have HS:=za hS
 have HTB:=za hTb
 have HNUM:=za (And.intro hkl (And.intro htl (And.intro hpl hwf)))
 clear hC hB h hs hcs ht hS hE hTb hpl hwf hkl htl
 unfold zt
 go_enter_defers Tryz.func32,Tryz.ntmps32
 go_wp2_with fail
 refine HL.o.mono ?_
 rintro r w2 ⟨rfl,rfl⟩
 clear HL
 generalize w.setCell ⟨cb,0,none⟩ (.int .i32 1)=W2 at *
 have HOK:=za (HCS.o.st.ok (by have:=HCS.o.few;omega))
 have HFE:=za (znf O nb db cb n d cpP W2 HOK.o.nf HOK.o.fl HOK.o.ly HOK.o.ll HOK.o.fe HOK.o.td HCS.o.disk HCS.o.net (zg HCS.o.cli 2 _ HCS.o.cells.net).1)
 unfold zt at HFE
 go_wp2_with fail
 refine HFE.o.mono ?_
 rintro r w3 ⟨v,x,rfl,ht3,hn3,hgv,hx⟩
 have HC3:Hid (CS W0 w3 O (Ext A W2 w3) OP cb nb db pm nm (C.setIfInBounds 0 (.int .i32 1)) d c.room c.proved ⟨(zq d.fs n cpP).2,[]⟩ 8400):=by
  refine HCS.o.next (ht3.mono (fun _ h=> .inl h) (by decide)) ⟨(zq d.fs n cpP).2,[]⟩ 8400 hn3 (HCS.o.st.step cpP) ?_ (HCS.o.nee.stay ht3 (fun b hb e=>HCS.o.apart b e hb) (by decide) (by decide) (fun _ h=> .inl h)) (by simp)
  show(zq d.fs n cpP).2.fetches+_ < _
  rw [zby]
  have:=HCS.o.few
  simp only at this
  omega
 have HT3:Hid (zf (fun b=>O b∨A b∨OP b∨b=cb) (qw::clT) W2 w3):=ht3.mono (fun _ h=> .inl h) (by decide)
 have HA3:Hid (vf A (Ext A W2 w3) W2 w3):=znl A W2 w3
 have HGV:=za hgv
 have HX:=za hx
 clear ht3 hn3 hgv hx HFE HOK HCS c3
 generalize hNF:zq d.fs n cpP=NF at *
 obtain⟨⟨t,fetched⟩,n3⟩:=NF
 have HNF:=za hNF
 clear hNF
 simp only at *
 have HK:Hid (∀ X,Below w3.heap.size w3 X→(convert 76 9 v).run Tryz.prog X= .ok (.string ⟨t.toArray⟩) X∧X.cell? ⟨cb,3,none⟩=some (.string ⟨c.key.toArray⟩)):=by
  intro X hX
  have:=z0g (zfd.turn (O:=fun _=>False) (T:=[]) HGV.o (.of_below hX) (by decide))
  rw [HX.o] at this
  exact⟨this,(zg ((hX.block _ (zb HC3.o.cli)).trans HC3.o.cli) 3 _ HBL.o.2.1).1⟩
 have HCHK:Hid (∀ X,Below w3.heap.size w3 X→Calls Tryz.prog 57 #[.string ⟨t.toArray⟩,.string ⟨c.key.toArray⟩] X fun r w'=>∃ nn rr b,r= .returned (.tuple #[.agg (trC nn rr).toArray,.bool b])∧Below X.heap.size X w'∧rr.length=8∧nn < 9223372036854775808∧((b=true∧jq t c.key nn rr)∨(b=false∧∀ n root,¬ jq t c.key n root))):=by
  intro X hX
  refine(z3o t c.key HNUM.o.2.1 HNUM.o.1 X (HE.o.below (HC3.o.below hX).base)).mono ?_
  rintro r w' ⟨hb,nn,rr,b,h8,hn,rfl,hck⟩
  exact⟨nn,rr,b,rfl,hb,h8,hn,hck⟩
 have HST1:Hid (∀(w4:World) (nn:Nat) (rr:List UInt8),Below (w3.alloc (.cells #[.int .i64 0,.int .u8 0,.int .u8 0,.int .u8 0,.int .u8 0,.int .u8 0,.int .u8 0,.int .u8 0,.int .u8 0] 93)).drew.heap.size (w3.alloc (.cells #[.int .i64 0,.int .u8 0,.int .u8 0,.int .u8 0,.int .u8 0,.int .u8 0,.int .u8 0,.int .u8 0,.int .u8 0] 93)).drew w4→rr.length=8→(ze6 (.pointer (some ⟨w3.heap.size,0,none⟩)) (.agg (trC nn rr).toArray)).run Tryz.prog w4= .ok () (w4.setCells w3.heap.size 0 (trC nn rr))∧(w4.setCells w3.heap.size 0 (trC nn rr)).heap[w3.heap.size]?=some (.cells (trC nn rr).toArray 93 (0,0))):=by
  intro w4 nn rr hb h8
  have hz:w4.heap[w3.heap.size]?=some (.cells (trC 0 xd).toArray 93 (0,0)):=by
   rw [hb.block _ (by show _ < (w3.alloc _).heap.size;simp)]
   exact heap_alloc_last w3 _
  exact⟨zdd (jb hz) h8,qz hz (by rw [zb7 _ h8];rfl)⟩
 have HST2:Hid (∀(w4:World) (nn:Nat) (rr:List UInt8),rr.length=8→(ze6 (.pointer (some ⟨w4.heap.size,0,none⟩)) (.agg (trC nn rr).toArray)).run Tryz.prog (w4.alloc (.cells #[.int .i64 0,.int .u8 0,.int .u8 0,.int .u8 0,.int .u8 0,.int .u8 0,.int .u8 0,.int .u8 0,.int .u8 0] 93))= .ok () ((w4.alloc (.cells #[.int .i64 0,.int .u8 0,.int .u8 0,.int .u8 0,.int .u8 0,.int .u8 0,.int .u8 0,.int .u8 0,.int .u8 0] 93)).setCells w4.heap.size 0 (trC nn rr))∧((w4.alloc (.cells #[.int .i64 0,.int .u8 0,.int .u8 0,.int .u8 0,.int .u8 0,.int .u8 0,.int .u8 0,.int .u8 0,.int .u8 0] 93)).setCells w4.heap.size 0 (trC nn rr)).heap[w4.heap.size]?=some (.cells (trC nn rr).toArray 93 (0,0))):=by
  intro w4 nn rr h8
  have hz:(w4.alloc (.cells #[.int .i64 0,.int .u8 0,.int .u8 0,.int .u8 0,.int .u8 0,.int .u8 0,.int .u8 0,.int .u8 0,.int .u8 0] 93)).heap[w4.heap.size]?=some (.cells (trC 0 xd).toArray 93 (0,0)):=heap_alloc_last w4 _
  exact⟨zdd (jb hz) h8,qz hz (by rw [zb7 _ h8];rfl)⟩
 have HD0:Hid (Below w3.heap.size w3 w3.drew):=(Below.refl _ w3).drew
 have HD1:Hid (∀ o,Below w3.heap.size w3 (w3.alloc o).drew):=fun o=>(ze w3 o).drew
 go_wp2_with fail
 go_cut [6,7] from 26 to 34 (fun s6 s7 wx=>∃(tb nn:Nat) (rr:List UInt8) (b:Bool),s6= .pointer (some ⟨tb,0,none⟩)∧s7= .bool b∧wx.heap[tb]?=some (.cells (trC nn rr).toArray 93 (0,0))∧w3.heap.size≤tb∧Below w3.heap.size w3 wx∧rr.length=8∧nn < 9223372036854775808∧((b=true∧jq t c.key nn rr)∨(b=false∧∀ n root,¬ jq t c.key n root)))
 case first =>
  go_region_held3 (fun X=>(convert 76 9 v).run Tryz.prog X= .ok (.string ⟨t.toArray⟩) X∧X.cell? ⟨cb,3,none⟩=some (.string ⟨c.key.toArray⟩)) (first | exact HK.o _ HD0.o | exact HK.o _ (HD1.o _) | exact HK.o _ HB4.o | exact HK.o _ (HB4.o.alloc HB4.o.size _) | exact HK.o _ (zu HB4.o (Nat.le_refl _) _ _) | exact HK.o _ (zu (HB4.o.alloc HB4.o.size _) HB4.o.size _ _)) (first
   | (go_at_call 57;refine(HCHK.o _ (by first | exact HD0.o | exact HD1.o _)).mono ?_;rintro r w4 ⟨nn,rr,b,rfl,hb4,h8,hnn,hck⟩;have HB4:Hid (Below w3.heap.size w3 w4):=(by first | exact HD0.o.trans (hb4.mono HD0.o.size) | exact(HD1.o _).trans (hb4.mono (HD1.o _).size));have HCK:=za hck;have HNN:=za hnn;have H8:=za h8;(first | (have HQ:=za (HST1.o w4 nn rr hb4 h8)) | (have HQ:=za (HST2.o w4 nn rr h8)));have hst:=HQ.o.1;clear hb4 h8 hnn hck))
  all_goals (rename_i hheld;clear hheld)
  all_goals go_wp2_with fail
  all_goals go_meet
  all_goals first
   | exact⟨w3.heap.size,nn,rr,b,rfl,rfl,HQ.o.2,Nat.le_refl _,zu HB4.o (Nat.le_refl _) _ _,H8.o,HNN.o,HCK.o⟩
   | exact⟨w4.heap.size,nn,rr,b,rfl,rfl,HQ.o.2,HB4.o.size,zu (HB4.o.alloc HB4.o.size _) HB4.o.size _ _,H8.o,HNN.o,HCK.o⟩
 case rest =>
  obtain⟨tb,nn,rr,b,rfl,rfl,htb,htl,hbx,h8,hnn,hck⟩:=hcut
  obtain⟨X,hX⟩:∃ X,X=wc:=⟨_,rfl⟩
  subst hX
  have HBX:=za hbx
  have HTBK:=za htb
  have HCK:=za hck
  have HNN:=za (And.intro h8 hnn)
  clear htb htl hbx h8 hnn hck HK HCHK HST1 HST2 HD0 HD1
  cases fetched with
  | false =>
   have HC4:=za (HC3.o.below HBX.o)
   have HU:=za (zca ⟨cb,0,none⟩ .returning X.drew (zg HC4.o.cli 0 _ HBL.o.2.2.2).1 (zg HC4.o.cli 0 _ HBL.o.2.2.2).2)
   have qe:X.cell? ⟨3,0,none⟩=some (.iface 326 (.pointer (some (at_ 2)))):=zde HC4.o.base HS.o.check
   go_wp2_with fail
   go_region_held3 (fun w'=>w'.cell? ⟨3,0,none⟩=some (.iface 326 (.pointer (some (at_ 2))))) (go_keep) (fail)
   rename_i hheld
   clear hheld
   go_wp2_with fail
   refine leaves_cons (f:=55) (args:=#[.pointer (some ⟨cb,0,none⟩)]) (by simp) (by simp [go_sem]) ?_
   refine HU.o.mono ?_
   rintro e u' w9 ⟨rfl,rfl,rfl⟩
   simp only [Leaves,settle]
   refine⟨.tuple #[.slice none 0 0,jo at_ 2],by simp [results,Tryz.results32,go_sem,jo],?_⟩
   rw [HNF.o]
   refine⟨none,.inl rfl,?_,.inr ⟨rfl,rfl⟩⟩
   exact zer (w8:=X.drew) (c':=c) HH.o HT.o ((HT3.o.then_below HBX.o).then_below (Below.refl _ X).drew) ((HA3.o.below HBX.o.size).below (Nat.le_refl _)) (vf.refl _ _ _) (HC4.o.below (Below.refl _ X).drew) HBL.o.2.1 HBL.o.2.2.1 HBL.o.2.2.2 (fun _=>trivial)
  | true =>
   cases b with
   | false =>
    have HC4:=za (HC3.o.below HBX.o)
    have HU:=za (zca ⟨cb,0,none⟩ .returning X.drew (zg HC4.o.cli 0 _ HBL.o.2.2.2).1 (zg HC4.o.cli 0 _ HBL.o.2.2.2).2)
    have qe:X.cell? ⟨3,0,none⟩=some (.iface 326 (.pointer (some (at_ 2)))):=zde HC4.o.base HS.o.check
    go_wp2_with fail
    go_region_held3 (fun w'=>w'.cell? ⟨3,0,none⟩=some (.iface 326 (.pointer (some (at_ 2))))) (go_keep) (fail)
    rename_i hheld
    clear hheld
    go_wp2_with fail
    refine leaves_cons (f:=55) (args:=#[.pointer (some ⟨cb,0,none⟩)]) (by simp) (by simp [go_sem]) ?_
    refine HU.o.mono ?_
    rintro e u' w9 ⟨rfl,rfl,rfl⟩
    simp only [Leaves,settle]
    refine⟨.tuple #[.slice none 0 0,jo at_ 2],by simp [results,Tryz.results32,go_sem,jo],?_⟩
    rw [HNF.o]
    refine⟨none,?_,?_,.inr ⟨rfl,rfl⟩⟩
    ·rcases HCK.o with h | h
     ·exact absurd h.1 (by decide)
     ·exact .inr h.2
    exact zer (w8:=X.drew) (c':=c) HH.o HT.o ((HT3.o.then_below HBX.o).then_below (Below.refl _ X).drew) ((HA3.o.below HBX.o.size).below (Nat.le_refl _)) (vf.refl _ _ _) (HC4.o.below (Below.refl _ X).drew) HBL.o.2.1 HBL.o.2.2.1 HBL.o.2.2.2 (fun _=>trivial)
   | true =>
    have HSG:Hid (jq t c.key nn rr):=by
     rcases HCK.o with h | h
     ·exact h.2
     ·exact absurd h.1 (by decide)
    have HC4:=za (HC3.o.below HBX.o)
    have HT4:=za (HT3.o.then_below HBX.o)
    have HA4:=za (HA3.o.below HBX.o.size)
    have hlt:(zmh (.pointer (some ⟨tb,0,none⟩))).run Tryz.prog X= .ok (.agg (trC nn rr).toArray) X:=zf2 (yv HTBK.o) HNN.o.1
    have HPR:=za (zyi W0 at_ O (Ext A W2 w3) OP cb nb db pm nm _ d c.room c.proved n3 0 c.size nn c.root rr hsz HNN.o.2 HNN.o.1 HBL.o.2.2.1 HE.o HS.o HTB.o HNUM.o.2.2.1 HNUM.o.2.2.2 (fun b hb=>(HH.o.own b (.inr (.inl hb))).1) X HC4.o)
    rw [← zv4] at HPR
    have HUP:Hid (∀ o pr s1,qi (zq d.fs) za5 c n3 nn rr=(o,pr,s1)→zdp (zq d.fs) za5 c n3 (some (nn,rr))=match o with | .inl e=>(.inl e,c,s1) | .inr ps=>(.inr ps,{ c with size:=nn,root:=rr,proved:=pr },s1)):=by
     intro o pr s1 e
     unfold zdp
     simp only [e]
     cases o<;>rfl
    have HBAD:Hid (∀ e pr s1,qi (zq d.fs) za5 c n3 nn rr=(.inl e,pr,s1)→pr=c.proved):=fun e pr s1 h=>zvu h
    clear HC3 HT3 HA3
    unfold zt at HPR
    generalize qi (zq d.fs) za5 c n3 nn rr=PC at *
    obtain⟨o,pr2,n4⟩:=PC
    simp only at *
    go_wp2_with fail
    refine HPR.o.mono ?_
    rintro r w5 ⟨hout,hr⟩
    obtain⟨pv,ev,rfl,hcase,hr⟩:=hr.join
    obtain⟨A',OP',hA,hP,hc5,-⟩:=hout.cs
    have HT5:Hid (zf (fun b=>O b∨A b∨OP b∨b=cb) (qw::clT) W2 w5):=by
     refine HT4.o.trans ((vf.turn (cb:=cb) hout.turn).mono (fun b hb=>?_) (fun _ h=>h))
     rcases hb with hb | hb | hb | hb
     ·exact .inl (.inl hb)
     ·exact(HA4.o.2 b hb).imp (fun h=> .inr (.inl h)) id
     ·exact .inl (.inr (.inr (.inl hb)))
     ·exact .inl (.inr (.inr (.inr hb)))
    have HSX:=za HT4.o.size
    have HA5:Hid (vf A A' W2 w5):=⟨fun b hb=>hA.1 b (HA4.o.1 b hb),fun b hb=>by
     have:=HSX.o
     rcases hA.2 b hb with h | h
     ·exact(HA4.o.2 b h).imp id (fun h=>⟨h.1,Nat.lt_of_lt_of_le h.2 hout.turn.size⟩)
     ·exact .inr ⟨by omega,h.2⟩⟩
    have HP5:Hid (vf OP OP' W2 w5):=⟨hP.1,fun b hb=>(hP.2 b hb).imp id (fun h=>⟨Nat.le_trans HSX.o h.1,h.2⟩)⟩
    have HC5:=za hc5
    have HR:=za hr
    have HTB5:=za (hout.turn.keep HTBK.o (by decide))
    clear hout hr hA hP hc5 HPR HC4 HT4 HA4 HTBK hlt
    have HB0:Hid (w.heap.size≤X.heap.size):=by have:=HSX.o;have:=HSZ.o;show _≤_;omega
    rcases hcase with ⟨rfl,ps,rfl⟩ | ⟨ty,p,er,rfl,rfl,rfl⟩
    ·have hlt:(zmh (.pointer (some ⟨tb,0,none⟩))).run Tryz.prog w5= .ok (.agg (trC nn rr).toArray) w5:=zf2 (yv HTB5.o) HNN.o.1
     obtain⟨hst,C',hC',hcc',hk',hm',hn'⟩:=zzh (n:=nn) HC5.o.cli HC5.o.cells HBL.o.2.1 HBL.o.2.2.2 HBL.o.2.2.1 HNN.o.1
     have HCC:=za (And.intro hcc' (And.intro hk' (And.intro hm' hn')))
     have ht6:zf (fun b=>b=cb) [qw] w5 (w5.setCells cb 4 (trC nn rr)):=zf.setCells (O:=fun b=>b=cb) (T:=[qw]) (zf.refl _ _ w5) (.inl rfl) HC5.o.cli (by simp) _ _
     have HCB:Hid (W0.heap.size≤cb∧¬ A' cb∧¬ OP' cb):=by
      have h1:=HH.o.own cb (.inr (.inr rfl))
      have h2:=HSZ.o
      refine⟨h1.1,fun e=>?_,fun e=>?_⟩
      ·rcases HA5.o.2 cb e with h | h
       ·exact HH.o.cbA h
       ·omega
      ·rcases HP5.o.2 cb e with h | h
       ·exact HH.o.cbP h
       ·omega
     have HC6:=za (HC5.o.client ht6 HCB.o hC' hcc')
     have HT6:=za ht6
     have HU:=za (zca ⟨cb,0,none⟩ .returning (w5.setCells cb 4 (trC nn rr)) (zg hC' 0 _ hm').1 (zg hC' 0 _ hm').2)
     clear hC' hcc' hk' hm' hn' ht6
     generalize w5.setCells cb 4 (trC nn rr)=W6 at *
     go_wp2_with fail
     refine leaves_cons (f:=55) (args:=#[.pointer (some ⟨cb,0,none⟩)]) (by simp) (by simp [go_sem]) ?_
     refine HU.o.mono ?_
     rintro e u' w9 ⟨rfl,rfl,rfl⟩
     simp only [Leaves,settle]
     refine⟨.tuple #[pv,.nilIface],by simp [results,Tryz.results32,go_sem],?_⟩
     rw [HNF.o]
     refine⟨some (nn,rr),⟨rfl,HSG.o⟩,?_⟩
     rw [HUP.o _ _ _ rfl]
     have s6:=HT6.o.size
     refine⟨zer (w8:=W6) (c':={ c with size:=nn,root:=rr,proved:=pr2 }) HH.o HT.o (HT5.o.trans (HT6.o.mono (fun b hb=> .inl (.inr (.inr (.inr hb)))) (by decide))) (HA5.o.below s6) (HP5.o.below s6) HC6.o HCC.o.2.1 HCC.o.2.2.2 HCC.o.2.2.1 (fun _=>trivial),.inl ((HR.o (fun b=>b=cb) _ ?_).lower HB0.o)⟩
     exact HT6.o.trans ((zf.set (O:=fun b=>b=cb) (T:=[qw]) (zf.refl _ _ W6) (.inl rfl) HC6.o.cli (by simp) _).mono (fun _ h=> .inl h) (fun _ h=>h))
    ·obtain rfl:=HBAD.o _ _ _ rfl
     have HU:=za (zca ⟨cb,0,none⟩ .returning w5 (zg HC5.o.cli 0 _ HBL.o.2.2.2).1 (zg HC5.o.cli 0 _ HBL.o.2.2.2).2)
     go_wp2_with fail
     refine leaves_cons (f:=55) (args:=#[.pointer (some ⟨cb,0,none⟩)]) (by simp) (by simp [go_sem]) ?_
     refine HU.o.mono ?_
     rintro e u' w9 ⟨rfl,rfl,rfl⟩
     simp only [Leaves,settle]
     refine⟨.tuple #[.slice none 0 0,.iface ty p],by simp [results,Tryz.results32,go_sem],?_⟩
     rw [HNF.o]
     refine⟨some (nn,rr),⟨rfl,HSG.o⟩,?_⟩
     rw [HUP.o _ _ _ rfl]
     refine⟨zer (w8:=w5) (c':=c) HH.o HT.o HT5.o HA5.o HP5.o HC5.o HBL.o.2.1 HBL.o.2.2.1 HBL.o.2.2.2 (fun _=>trivial),.inl ((HR.o (fun b=>b=cb) _ ?_).lower HB0.o)⟩
     exact zf.set (O:=fun b=>b=cb) (T:=[qw]) (zf.refl _ _ w5) (.inl rfl) HC5.o.cli (by simp) _
end
section
set_option maxHeartbeats 4000000
open Go.RowKit
set_option maxRecDepth 100000
attribute [local go_sem ↓] yq yk yt yp yn yo yu yl zay zae
def z35 (parts:Array (Nat×Value)):Sem Value:=Instr.build 93 parts
theorem zr6 (parts:Array (Nat×Value)):Instr.build 93 parts=z35 parts:=rfl
def z2n (parts:Array (Nat×Value)):Sem Value:=Instr.build qw parts
theorem zsf (parts:Array (Nat×Value)):Instr.build qw parts=z2n parts:=rfl
attribute [local go_sem ↓] zr6 zsf
theorem zyp (h:List UInt8)(hl:h.length=8)(w:World):(z35 #[(1,.agg (hv h))]).run Tryz.prog w= .ok (.agg (trC 0 h).toArray) w:=by
 obtain⟨b0,b1,b2,b3,b4,b5,b6,b7,rfl⟩:=hv8 h hl
 kernel_rfl
def zye (tv:Value)(key:List UInt8)(n:Nat)(root:List UInt8)(pm nm:Nat):List Value:=[.int .i32 0,.int .u32 0,tv,txv key]++(trC n root++[zt pm,zt nm])
theorem zzp (tv:Value)(htv:tv= .nilIface∨∃ t p,tv= .iface t p)(key h:List UInt8)(hl:h.length=8)(pm nm:Nat)(w:World):(z2n #[(1,tv),(2,.string ⟨key.toArray⟩),(3,.agg (trC 0 h).toArray),(4,.pointer (some ⟨pm,0,none⟩)),(5,.pointer (some ⟨nm,0,none⟩))]).run Tryz.prog w= .ok (.agg (zye tv key 0 h pm nm).toArray) w:=by
 obtain⟨b0,b1,b2,b3,b4,b5,b6,b7,rfl⟩:=hv8 h hl
 rcases htv with rfl | ⟨t,p,rfl⟩
 ·kernel_rfl
 ·kernel_rfl
theorem z49 (tv:Value)(htv:tv= .nilIface∨∃ t p,tv= .iface t p)(key:List UInt8)(room:Int)(w:World):
  Calls Tryz.prog 31 #[tv,txv key,.int .i64 room] w fun r w'=>∃(cb pm nm:Nat) (A OP:Nat→Prop),r= .returned (zt cb)∧Below w.heap.size w w'∧cb < w'.heap.size∧w.heap.size≤cb∧(∀ k,A k→w.heap.size≤k∧k < cb)∧(∀ k,OP k→w.heap.size≤k∧k < cb∧¬ A k)∧zct w' OP pm room []∧vt w' A nm zbe []∧w'.heap[cb]?=some (.cells (zye tv key 0 (qb 0 []) pm nm).toArray qw (0,0)):=by
 have HR:=za (zf1 0 (.slice none 0 0) [] w (by simp) (by simp) (by simp) ⟨none,0,rfl,by simp,.inl rfl⟩)
 have HR8:Hid ((qb 0 []).length=8):=jn _ _
 have HV:=za htv
 clear htv
 generalize qb 0 []=R at *
 have hbT:=fun X=>zyp R HR8.o X
 have hbC:=fun pm nm X=>zzp tv HV.o key R HR8.o pm nm X
 unfold txv
 go_enter Tryz.func31,Tryz.ntmps31
 go_wp2_with fail
 refine HR.o.mono ?_
 rintro r w1 ⟨rfl,hb1⟩
 have HB1:=za hb1
 clear hb1 HR
 go_wp2_with fail
 refine(z3i room w1).mono ?_
 rintro r w2 ⟨pm,rfl,hb2,hmp⟩
 have HB2:=za hb2
 have HMP:=za hmp
 clear hb2 hmp
 unfold zt
 go_wp2_with fail
 refine(z1q zbe w2).mono ?_
 rintro r w3 ⟨nm,rfl,hb3,hmn⟩
 have HB3:=za hb3
 have HMN:=za hmn
 clear hb3 hmn
 unfold zt
 go_wp2_with fail
 go_ret
 have s1:=HB1.o.size
 have s2:=HB2.o.size
 have s3:=HB3.o.size
 have hb4:=ze w3 (.cells (zye tv key 0 R pm nm).toArray qw)
 refine⟨w3.heap.size,pm,nm,fun k=>w2.heap.size≤k∧k < w3.heap.size,fun k=>w1.heap.size≤k∧k < w2.heap.size,rfl,?_,by simp,by omega,fun k hk=>⟨by omega,hk.2⟩,fun k hk=>⟨by omega,by omega,fun h=>by omega⟩,(HMP.o.below HB3.o (fun _ h=>h)).below hb4 (fun _ h=>h),HMN.o.below hb4 (fun _ h=>h),heap_alloc_last _ _⟩
 exact((HB1.o.trans (HB2.o.mono (by omega))).trans (HB3.o.mono (by omega))).trans (hb4.mono (by omega))
theorem z7g {nb n pm nm:Nat}{key root:List UInt8}(room:Int)(pr:Mm)(h:root.length=8):CBl (zye (znk nb) key n root pm nm).toArray nb pm nm ⟨key,n,root,room,pr⟩:=by
 have h9:=zb7 n h
 have hi:∀ j,(zye (znk nb) key n root pm nm).toArray[4+j]?=(trC n root++[zt pm,zt nm])[j]?:=fun j=>by
  rw [List.getElem?_toArray,zye,List.getElem?_append_right (by simp)]
  congr 1
  simp
 have hp:(trC n root++[zt pm,zt nm])[9]?=some (zt pm):=by
  rw [List.getElem?_append_right (by omega),h9];rfl
 have hn:(trC n root++[zt pm,zt nm])[10]?=some (zt nm):=by
  rw [List.getElem?_append_right (by omega),h9];rfl
 refine⟨⟨rfl,(hi 9).trans hp,(hi 10).trans hn⟩,rfl,rfl,⟨(hi 0).trans ?_,fun j v hv=>?_,h⟩⟩
 ·rw [List.getElem?_append_left (by omega)];rfl
 ·have hj:j < 8:=by
   have:=(List.getElem?_eq_some_iff.1 hv).1
   simp at this
   omega
  rw [show 5+j=4+(j+1) by omega,hi (j+1),List.getElem?_append_left (by omega)]
  exact hv
theorem z1p (W0:World)(O:Nat→Prop)(nb:Nat)(key:List UInt8)(room:Int)(w:World)(hb0:W0.heap.size≤w.heap.size)(hO:∀ b,O b→b < w.heap.size):
  Calls Tryz.prog 31 #[znk nb,txv key,.int .i64 room] w fun r w'=>∃(cb pm nm:Nat) (A OP:Nat→Prop),r= .returned (zt cb)∧Below w.heap.size w w'∧w.heap.size≤cb∧(∀ k,A k∨OP k→w.heap.size≤k)∧Pv W0 w' O A OP cb nb pm nm ⟨key,0,qb 0 [],room,[]⟩:=by
 refine(z49 (znk nb) (.inr ⟨_,_,rfl⟩) key room w).mono ?_
 rintro r w' ⟨cb,pm,nm,A,OP,rfl,hb,h1,h2,hA,hP,hmp,hmn,hc⟩
 refine⟨cb,pm,nm,A,OP,rfl,hb,h2,fun k hk=>hk.elim (fun h=>(hA k h).1) (fun h=>(hP k h).1),⟨fun b hb'=>?_,fun b h=>(hP b h).2.2,fun h=>Nat.lt_irrefl _ (hA cb h).2,fun h=>Nat.lt_irrefl _ (hP cb h).2.1,⟨_,hc,z7g room [] (jn _ _)⟩,⟨[],hmp,.nil⟩,hmn⟩⟩
 have:w.heap.size≤b∧b≤cb:=by
  rcases hb' with h | h | rfl
  ·have:=hA b h;omega
  ·have:=hP b h;omega
  ·omega
 exact⟨by omega,by omega,fun h=>by have:=hO b h;omega⟩
end
end Go.Proofs.YtinhekmmdlhfkaaGreatDoor
