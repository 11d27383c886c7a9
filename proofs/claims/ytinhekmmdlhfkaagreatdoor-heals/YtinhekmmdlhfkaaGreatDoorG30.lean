import Derived.Test.YtinhekmmdlhfkaaGreatDoorG29
namespace Go.Proofs.YtinhekmmdlhfkaaGreatDoor
section
set_option maxHeartbeats 2000000
open Go.RowKit
set_option maxRecDepth 100000
attribute [local go_sem ↓] loadM_fold storeM_fold loadP_fold storeP_fold buildP_fold buildF_fold loadH_fold storeH_fold
theorem All2.mapR {α β γ:Type}{R:α→β→Prop}{R':α→γ→Prop}{l:List α}{m:List β}(h:All2 R l m)(g:β→γ)(hr:∀ a∈l,∀ b,R a b→R' a (g b)):All2 R' l (m.map g):=by
 induction h using All2.ind with
 | nil=>exact .nil
 | cons h1 _ ih=>exact .cons (hr _ (by simp) _ h1) (ih fun a ha b=>hr a (by simp [ha]) b)
theorem nodup_map {α β:Type}{f:α→β}{l:List α}(h:(l.map f).Nodup){a b:α}(ha:a∈l)(hb:b∈l)(e:f a=f b):a=b:=by
 obtain⟨i,hi,ei⟩:=List.getElem_of_mem ha
 obtain⟨j,hj,ej⟩:=List.getElem_of_mem hb
 have hp:=List.pairwise_iff_getElem.1 (List.pairwise_map.1 h)
 rcases Nat.lt_trichotomy i j with hlt | heq | hgt
 ·exact absurd (by rw [ei,ej];exact e) (hp i j hi hj hlt)
 ·subst heq;rw [← ei,← ej]
 ·exact absurd (by rw [ei,ej];exact e.symm) (hp j i hj hi hgt)
theorem MemN.nodup {w:World}{A:Nat→Prop}{nm:Nat}{room:Int}{L:LsN}(h:MemN w A nm room L):(L.map (·.2.1)).Nodup:=by
 obtain⟨hb,eb,nx,pv,h⟩:=h
 obtain⟨D,-,-,h3,-⟩:=h.map
 unfold LsN.ks at h3
 rw [List.map_map] at h3
 exact h3
theorem NdIs.setF {w w':World}{A:Nat→Prop}{nm:Nat}{LN:LsN}{nd:Mm}(hM:MemN w A nm maxI LN)(hR:All2 (NdR w A) LN nd)(hN:(LN.map (·.2.2)).Nodup){p:Pl}{b fb:Nat}(hg:LN.get p=some (b,ptrV fb))(ht:Turn (fun x=>x=fb) [TFile] w w'){xs ys:List Px}(hf:FileAt w fb xs)(hf':FileAt w' fb ys)(hk:FOk ys){f':Fl}(hi:FxIs w' ys f')(hA:A fb):
  NdIs w' A nm (nd.set p f'):=by
 refine⟨LN,hM.keep ht (by decide) (by decide) (fun k _ e=>by subst e;exact⟨_,_,_,hf⟩),?_,hN⟩
 have hmem:=lsN_mem hg
 refine hR.mapR _ (fun a ha y hr=>?_)
 by_cases hy:y.1=p
 ·rw [if_pos hy]
  have:a=(b,p,ptrV fb):=nodup_map hM.nodup ha hmem (by show a.2.1=p;rw [hr.1,hy])
  subst this
  exact⟨rfl,fb,ys,rfl,hA,hf',hk,hi⟩
 ·rw [if_neg hy]
  obtain⟨fb2,xs2,e2,h3,h4,h5,h6⟩:=hr.2
  have hne:fb2≠fb:=by
   intro e
   subst e
   have:a=(b,p,ptrV fb2):=nodup_map hN ha hmem e2
   rw [this] at hr
   exact hy hr.1.symm
  exact⟨hr.1,fb2,xs2,e2,h3,ht.stay h4 hne,h5,h6.turn ht (by decide)⟩
theorem rootX_is {w:World}{xs:List Px}{f:Fl}(h:FxIs w xs f):rootX xs=rootP f:=by
 obtain⟨a,b,c,d,rfl⟩:=list4 h.1
 obtain⟨a',b',c',d',rfl⟩:=list4 h.2.1
 have h0:=h.2.2 0 (by omega)
 have h1:=h.2.2 1 (by omega)
 have h2:=h.2.2 2 (by omega)
 have h3:=h.2.2 3 (by omega)
 have f0:a.fits=a'.fits:=h0.fits
 have f1:b.fits=b'.fits:=h1.fits
 have f2:c.fits=c'.fits:=h2.fits
 have f3:d.fits=d'.fits:=h3.fits
 have g0:a.hash=a'.hash:=h0.hash
 have g1:b.hash=b'.hash:=h1.hash
 have g2:c.hash=c'.hash:=h2.hash
 have g3:d.hash=d'.hash:=h3.hash
 unfold rootX rootP
 simp only [f0,f1,f2,f3,g0,g1,g2,g3]
theorem set_is {w:World}{xs:List Px}{f:Fl}(h:FxIs w xs f)(k:Nat){z:Px}{c:Pc}(hz:PxIs w z c):FxIs w (xs.set k z) (f.set k c):=by
 refine⟨by rw [List.length_set];exact h.1,by rw [List.length_set];exact h.2.1,fun i hi=>?_⟩
 have e1:(xs.set k z).getD i .no=if i=k∧k < xs.length then z else xs.getD i .no:=by
  simp only [List.getD_eq_getElem?_getD,List.getElem?_set]
  by_cases hik:k=i
  ·subst hik
   by_cases hk:k < xs.length
   ·simp [hk]
   ·simp [hk]
  ·have:¬ i=k:=fun e=>hik e.symm
   simp [hik,this]
 rw [e1,set_get,h.1,h.2.1]
 split
 ·exact hz
 ·exact h.2.2 i hi
theorem CS.setNd {W0 w w':World}{O A OP:Nat→Prop}{cb nb db pm nm:Nat}{C:Array Value}{d:Dk}{room:Int}{pr:Mm}{m:Ms Nt}{k:Nat}(h:CS W0 w O A OP cb nb db pm nm C d room pr m k)(ht:Turn A [TFile] w w'){nd':Mm}(hnd:NdIs w' A nm nd')(hl:nd'.length=m.needed.length):CS W0 w' O A OP cb nb db pm nm C d room pr { m with needed:=nd' } k :=
 ⟨h.base.trans (ht.below (fun b hb=>h.own b (.inr hb)) h.base.size),h.own,h.apart,fun b hb=>Nat.lt_of_lt_of_le (h.lt b hb) ht.size,h.disk.stay ht (by decide) (by decide),h.net.turn ht (by decide) (by decide) (by decide),h.st,h.few,ht.keep h.cli (by decide),h.cells,h.prv.stay ht (fun b hb e=>h.away b hb (.inr e)) (by decide) (fun _ h=>h),h.away,hnd,by have:=h.short;simp only;omega⟩
theorem Mm.set_len (m:Mm)(p:Pl)(f:Fl):(m.set p f).length=m.length:=by simp [Mm.set]
theorem CS.find {W0 w:World}{O A OP:Nat→Prop}{cb nb db pm nm:Nat}{C:Array Value}{d:Dk}{room:Int}{pr:Mm}{m:Ms Nt}{k:Nat}(h:CS W0 w O A OP cb nb db pm nm C d room pr m k)(p:Pl)(hp:PlOk p):∃(a:Option Addr) (b:Bool),
  ((b=false∧a=none∧m.needed.get p=none)∨(b=true∧∃ LN bb fb xs f,a=some ⟨fb,0,none⟩∧MemN w A nm maxI LN∧All2 (NdR w A) LN m.needed∧(LN.map (·.2.2)).Nodup∧LN.get p=some (bb,ptrV fb)∧m.needed.get p=some f∧A fb∧FileAt w fb xs∧FOk xs∧FxIs w xs f)) ∧
  ∀ w0,Below w.heap.size w w0→Calls Tryz.prog 144 #[ptrV nm,plV p] w0 fun r w'=>r= .returned (.tuple #[.pointer a,.bool b])∧Below w0.heap.size w0 w':=by
 obtain⟨LN,hmn,hnd,hndup⟩:=h.nee
 rcases NdIs.get hnd p with ⟨g1,g2⟩ | ⟨b,v,f,g1,g2,⟨fb,xs,rfl,hA,hf,hk,hi⟩,-⟩
 ·exact⟨none,false,.inl ⟨rfl,rfl,g2⟩,fun w0 hb=>getN_no A nm maxI LN _ hp w0 (hmn.below hb (fun _ h=>h)) g1⟩
 ·exact⟨_,true,.inr ⟨rfl,LN,b,fb,xs,f,rfl,hmn,hnd,hndup,g1,g2,hA,hf,hk,hi⟩,fun w0 hb=>getN_yes A nm maxI LN _ hp w0 (hmn.below hb (fun _ h=>h)) b _ g1⟩
def WdN (nd:Mm):Prop:=∀ x∈nd,1≤x.1.2.2
theorem WdN.set {nd:Mm}(h:WdN nd)(p:Pl)(f:Fl):WdN (nd.set p f):=by
 intro x hx
 have:x.1∈(nd.set p f).map (·.1):=List.mem_map_of_mem hx
 rw [Mm.set_keys] at this
 obtain⟨y,hy,ey⟩:=List.mem_map.1 this
 rw [← ey];exact h y hy
theorem plOk_of (size:Nat)(hsz:size < 9223372036854775808)(l:Int)(h1:-1≤l)(h2:l≤100)(j:Nat)(hj:j < 9223372036854775808):PlOk (placeN size l j):=by
 have hc:=cntL_le l size
 unfold placeN
 refine⟨⟨by simp only;omega,by simp only;omega⟩,⟨by simp only;omega,by simp only;omega⟩,⟨by simp only;omega,by simp only;omega⟩⟩
abbrev SettleOk (W0:World)(O A OP:Nat→Prop)(cb nb db pm nm:Nat)(C:Array Value)(d:Dk)(room:Int)(pr:Mm)(size k f:Nat):Prop :=
 ∀(L j:Nat) (h:List UInt8) (m:Ms Nt) (w:World),33≤L+f→L≤40→j < 9223372036854775808→h.length=8→WdN m.needed→CS W0 w O A OP cb nb db pm nm C d room pr m k →
  Calls Tryz.prog 146 #[ptrV cb,.int .i64 size,.int .i64 L,.int .i64 j,.agg (hv h)] w fun r w'=>r= .returned (.tuple #[])∧Turn A [TFile] w w'∧CS W0 w' O A OP cb nb db pm nm C d room pr { m with needed:=settleM size f m.needed L j h } k
theorem settle_none (W0:World)(O A OP:Nat→Prop)(cb nb db pm nm:Nat)(C:Array Value)(d:Dk)(room:Int)(pr:Mm)(size k:Nat)(hsz:size < 9223372036854775808)(L j:Nat)(h:List UInt8)(m:Ms Nt)(w:World)(hL:L≤40)(hj:j < 9223372036854775808)(hno:m.needed.get (placeN size (L:Int) j)=none)(hcs:CS W0 w O A OP cb nb db pm nm C d room pr m k):
  Calls Tryz.prog 146 #[ptrV cb,.int .i64 size,.int .i64 L,.int .i64 j,.agg (hv h)] w fun r w'=>r= .returned (.tuple #[])∧Turn A [TFile] w w'∧CS W0 w' O A OP cb nb db pm nm C d room pr m k:=by
 have HPOK:=hide (plOk_of size hsz (L:Int) (by omega) (by omega) j hj)
 have HPIN:=hide (fun w=>placeIn_any size hsz (L:Int) (by omega) (by omega) j hj w)
 have HCS:=hide hcs
 obtain⟨a,b,hab,hget⟩:=hcs.find (placeN size (L:Int) j) HPOK.out
 have HAB:=hide hab
 have HGET:=hide hget
 have HNO:=hide hno
 clear hcs hab hget hj hno
 unfold ptrV at HGET ⊢
 go_enter Tryz.func146,Tryz.ntmps146
 go_wp2_with fail
 have HB1:Hid (Below w.heap.size w (w.alloc (.cells (hv h) 91))):=below_alloc w _
 have HX1:Hid ((w.alloc (.cells (hv h) 91)).heap[w.heap.size]?=some (.cells (hv h) 91 (0,0))):=heap_alloc_last _ _
 generalize w.alloc (.cells (hv h) 91)=W1 at *
 go_cut [10,11] from 14 to 25 (fun s10 s11 wx=>s10= .pointer a∧s11= .bool b∧Below W1.heap.size W1 wx)
 case first =>
  have hcl:W1.heap[cb]?=some (.cells C TCli (0,0)):=(HB1.out.block _ (heap_some_lt HCS.out.cli)).trans HCS.out.cli
  have HCL:=hide hcl
  have c14:W1.cell? ⟨cb,14,none⟩=some (.pointer (some ⟨nm,0,none⟩)):=(dcell hcl 14 _ HCS.out.cells.nee).1
  clear hcl
  go_region_with (first
   | (go_at_call 145;refine(HPIN.out _).mono ?_;rintro r w2 ⟨rfl,hb2⟩;have HB2:=hide (below_undrew hb2);have c14':w2.cell? ⟨cb,14,none⟩=some (.pointer (some ⟨nm,0,none⟩)):=(dcell ((HB2.out.block _ (heap_some_lt HCL.out)).trans HCL.out) 14 _ HCS.out.cells.nee).1;clear hb2)
   | (go_at_call 144;refine(HGET.out w2 (by exact HB1.out.trans (HB2.out.mono HB1.out.size))).mono ?_;rintro r w3 ⟨rfl,hb3⟩;have HB3:=hide (HB2.out.trans (hb3.mono HB2.out.size));clear hb3))
  all_goals go_wp2_with fail
  all_goals go_meet
  all_goals exact⟨rfl,rfl,HB3.out⟩
 case rest =>
  obtain⟨rfl,rfl,hbx⟩:=hcut
  obtain⟨X,hX⟩:∃ X,X=wc:=⟨_,rfl⟩
  subst hX
  have HBX:=hide (HB1.out.trans (hbx.mono HB1.out.size))
  have HHX:Hid (X.heap[w.heap.size]?=some (.cells (hv h) 91 (0,0))):=(hbx.block _ (heap_some_lt HX1.out)).trans HX1.out
  have HCX:=hide (HCS.out.below HBX.out)
  clear hbx HGET
  rcases HAB.out with ⟨rfl,rfl,hg⟩ | ⟨rfl,LN,bb,fb,xs,fl,rfl,hmn,hnd,hndup,hlg,hg,-⟩
  ·go_wp2_with fail
   first | go_end0 | refine bodyPost_ret (results_none rfl _ _ _) rfl ?_
   exact⟨rfl,.of_below HBX.out,HCX.out⟩
  ·exfalso
   have:=HNO.out
   rw [hg] at this
   simp at this
theorem settle_step (W0:World)(O A OP:Nat→Prop)(cb nb db pm nm:Nat)(C:Array Value)(d:Dk)(room:Int)(pr:Mm)(size k f:Nat)(hsz:size < 9223372036854775808)(ih:SettleOk W0 O A OP cb nb db pm nm C d room pr size k f):SettleOk W0 O A OP cb nb db pm nm C d room pr size k (f+1):=by
 intro L j h m w hLf hL hj h8 hwd hcs
 obtain⟨kk,hkk⟩:∃ kk,kk=j % 4:=⟨_,rfl⟩
 have hrem:(j:Int) % 4=(kk:Int):=by omega
 have hk4:kk < 4:=by omega
 have HKK:=hide hkk
 have HK4:=hide hk4
 have HPOK:=hide (plOk_of size hsz (L:Int) (by omega) (by omega) j hj)
 have HPIN:=hide (fun w=>placeIn_any size hsz (L:Int) (by omega) (by omega) j hj w)
 have HIH:=hide ih
 have HCS:=hide hcs
 have HWD:=hide hwd
 have H8:=hide h8
 have HNUM:Hid (33≤L+(f+1)∧L≤40∧j < 9223372036854775808):=⟨hLf,hL,hj⟩
 obtain⟨a,b,hab,hget⟩:=hcs.find (placeN size (L:Int) j) HPOK.out
 have HAB:=hide hab
 have HGET:=hide hget
 have HSM:Hid (settleM size (f+1) m.needed L j h=match m.needed.get (placeN size (L:Int) j) with
  | none=>m.needed
  | some fl=>match rootP (fl.set (j % 4) ⟨true,true,h,[]⟩) with
   | some up=>settleM size f (m.needed.set (placeN size (L:Int) j) (fl.set (j % 4) ⟨true,true,h,[]⟩)) (L+1) (j / 4) up
   | none=>m.needed.set (placeN size (L:Int) j) (fl.set (j % 4) ⟨true,true,h,[]⟩)):=rfl
 clear ih hcs hwd hab hget hkk hk4 hLf hj h8
 unfold ptrV at HGET ⊢
 go_enter Tryz.func146,Tryz.ntmps146
 go_wp2_with fail
 have HB1:Hid (Below w.heap.size w (w.alloc (.cells (hv h) 91))):=below_alloc w _
 have HX1:Hid ((w.alloc (.cells (hv h) 91)).heap[w.heap.size]?=some (.cells (hv h) 91 (0,0))):=heap_alloc_last _ _
 generalize w.alloc (.cells (hv h) 91)=W1 at *
 go_cut [10,11] from 14 to 25 (fun s10 s11 wx=>s10= .pointer a∧s11= .bool b∧Below W1.heap.size W1 wx)
 case first =>
  have hcl:W1.heap[cb]?=some (.cells C TCli (0,0)):=(HB1.out.block _ (heap_some_lt HCS.out.cli)).trans HCS.out.cli
  have HCL:=hide hcl
  have c14:W1.cell? ⟨cb,14,none⟩=some (.pointer (some ⟨nm,0,none⟩)):=(dcell hcl 14 _ HCS.out.cells.nee).1
  clear hcl hrem
  go_region_with (first
   | (go_at_call 145;refine(HPIN.out _).mono ?_;rintro r w2 ⟨rfl,hb2⟩;have HB2:=hide (below_undrew hb2);have c14':w2.cell? ⟨cb,14,none⟩=some (.pointer (some ⟨nm,0,none⟩)):=(dcell ((HB2.out.block _ (heap_some_lt HCL.out)).trans HCL.out) 14 _ HCS.out.cells.nee).1;clear hb2)
   | (go_at_call 144;refine(HGET.out w2 (by exact HB1.out.trans (HB2.out.mono HB1.out.size))).mono ?_;rintro r w3 ⟨rfl,hb3⟩;have HB3:=hide (HB2.out.trans (hb3.mono HB2.out.size));clear hb3))
  all_goals go_wp2_with fail
  all_goals go_meet
  all_goals exact⟨rfl,rfl,HB3.out⟩
 case rest =>
  obtain⟨rfl,rfl,hbx⟩:=hcut
  obtain⟨X,hX⟩:∃ X,X=wc:=⟨_,rfl⟩
  subst hX
  have HBX:=hide (HB1.out.trans (hbx.mono HB1.out.size))
  have HHX:Hid (X.heap[w.heap.size]?=some (.cells (hv h) 91 (0,0))):=(hbx.block _ (heap_some_lt HX1.out)).trans HX1.out
  have HCX:=hide (HCS.out.below HBX.out)
  clear hbx HGET
  rcases HAB.out with ⟨rfl,rfl,hg⟩ | ⟨rfl,LN,bb,fb,xs,fl,rfl,hmn,hnd,hndup,hlg,hg,hA,hf,hfk,hfi⟩
  ·go_wp2_with fail
   first | go_end0 | refine bodyPost_ret (results_none rfl _ _ _) rfl ?_
   rw [HSM.out,hg]
   exact⟨rfl,.of_below HBX.out,HCX.out⟩
  ·have hfX:FileAt X fb xs:=(HBX.out.block _ (heap_some_lt hf)).trans hf
   have HF:=hide hfX
   have HFK:=hide hfk
   have HFI:=hide (hfi.below HBX.out)
   have HLG:=hide hlg
   have HGG:=hide hg
   have HA:=hide hA
   have hzk:(⟨true,true,h,.slice none 0 0⟩:Px).ok:=⟨H8.out,_,_,_,rfl⟩
   have HZK:=hide hzk
   have hkx:kk < xs.length:=by rw [hfk.1];exact HK4.out
   have hlh:(loadH (.pointer (some ⟨w.heap.size,0,none⟩))).run Tryz.prog X.drew= .ok (.agg (hv h)) X.drew:=loadH_of (w:=X.drew) (range_row (w:=X.drew) (cs:=h.map bv) HHX.out) H8.out
   have hbp:=fun w0=>buildP_fit h H8.out w0
   have hth:X.drew.there fb (kk*11) 11:=by
    have:=FileAt.there (w:=X.drew) (fb:=fb) (xs:=xs) hfX hfk.2 hkx (o:=0) (n:=11) (by omega)
    rw [Nat.add_zero] at this
    exact this
   have hst:=storeP_of hth (Px.cs_len hzk) (Px.cs_one hzk)
   have HF2:Hid (FileAt (X.drew.setCells fb (kk*11) (⟨true,true,h,.slice none 0 0⟩:Px).cs) fb (xs.set kk ⟨true,true,h,.slice none 0 0⟩)):=FileAt.set (w:=X.drew) hfX hfk.2 hkx hzk
   have HK2:Hid (FOk (xs.set kk ⟨true,true,h,.slice none 0 0⟩)):=⟨by rw [List.length_set];exact hfk.1,set_ok hfk.2 kk hzk⟩
   have HT2:Hid (Turn (fun x=>x=fb) [TFile] X (X.drew.setCells fb (kk*11) (⟨true,true,h,.slice none 0 0⟩:Px).cs)):=((Turn.refl (fun x=>x=fb) [TFile] X).drew).setCells (w:=X.drew) (.inl rfl) hfX (by simp) _ _
   have HMN:=hide (hmn.below HBX.out (fun _ h=>h))
   have HND:Hid (All2 (NdR X A) LN m.needed):=hnd.mono (fun a' _ b' hr=>⟨hr.1,hr.2.turn (O:=fun _=>False) (T:=[]) (.of_below HBX.out) (by simp) (by simp) (fun _ h=>h)⟩)
   have HNDUP:=hide hndup
   have hk4:kk < 4:=HK4.out
   clear hf hfX hfk hfi hlg hg hA hzk hkx hth hmn hnd hndup HAB
   go_wp2_with fail
   go_region
   generalize X.drew.setCells fb (kk*11) (⟨true,true,h,.slice none 0 0⟩:Px).cs=V at *
   have HTA:Hid (Turn A [TFile] X V):=HT2.out.mono (fun b hb=>by rw [hb];exact HA.out) (fun _ h=>h)
   have HIV:Hid (FxIs V (xs.set kk ⟨true,true,h,.slice none 0 0⟩) (fl.set kk ⟨true,true,h,[]⟩)):=set_is (HFI.out.turn HT2.out (by decide)) kk ⟨rfl,rfl,rfl,.inl ⟨rfl,rfl⟩⟩
   have HCV:Hid (CS W0 V O A OP cb nb db pm nm C d room pr { m with needed:=m.needed.set (placeN size (L:Int) j) (fl.set kk ⟨true,true,h,[]⟩) } k):=HCX.out.setNd HTA.out (NdIs.setF HMN.out HND.out HNDUP.out HLG.out HT2.out HF.out HF2.out HK2.out HIV.out HA.out) (Mm.set_len _ _ _)
   have hld:=loadM_of (range_row HF2.out) HK2.out.len
   have HRX:=hide (rootX_is HIV.out)
   have HFR:=hide (froot_any _ HK2.out V)
   clear hlh hbp hst
   go_wp2_with fail
   refine HFR.out.mono ?_
   rintro r w5 ⟨hb5,hr5⟩
   rw [HRX.out] at hr5
   have HB5:=hide hb5
   have HSM2:=HSM.out
   rw [HGG.out] at HSM2
   simp only at HSM2
   rw [← HKK.out] at HSM2
   have HSM3:=hide HSM2
   have HG:Hid (∀ y:List UInt8,y.length=8→(storeH (.pointer (some ⟨w5.heap.size,0,none⟩)) (.agg (hv y))).run Tryz.prog (w5.alloc (.cells no8A 91))= .ok () ((w5.alloc (.cells no8A 91)).setCells w5.heap.size 0 (y.map bv))∧((w5.alloc (.cells no8A 91)).setCells w5.heap.size 0 (y.map bv)).heap[w5.heap.size]?=some (.cells (hv y) 91 (0,0))∧Below w5.heap.size w5 ((w5.alloc (.cells no8A 91)).setCells w5.heap.size 0 (y.map bv))):=by
    intro y hy
    have hf4:(w5.alloc (.cells no8A 91)).heap[w5.heap.size]?=some (.cells (none8.map bv).toArray 91 (0,0)):=heap_alloc_last _ _
    have hf5:=row_whole hf4 (ds:=y.map bv) (by simp [hy,none8])
    exact⟨storeH_of (by have:=row_there hf4;simpa [none8] using this) hy,hf5,below_setCells (below_alloc _ _) (Nat.le_refl _) _ _⟩
   clear hb5 HSM2 HSM HFR hld
   rcases hr5 with ⟨up,hup,rfl⟩ | ⟨hup,rfl⟩
   ·have hup8:up.length=8:=by
     obtain⟨-,-,e⟩:=rootP_some hup
     rw [e];exact nodeH_length _ _
    obtain⟨hst,hf6,hb6⟩:=HG.out up hup8
    have hlh:=loadH_of (range_row (cs:=up.map bv) hf6) hup8
    have HUP8:=hide hup8
    have HUP:=hide hup
    have HB6:Hid (Below V.heap.size V ((w5.alloc (.cells no8A 91)).setCells w5.heap.size 0 (up.map bv))):=HB5.out.trans (hb6.mono HB5.out.size)
    have hwl:wrap64 ((L:Int)+1)=((L+1:Nat):Int):=by unfold wrap64;omega
    obtain⟨q,hq⟩:∃ q,q=j / 4:=⟨_,rfl⟩
    have hqi:(j:Int) / 4=(q:Int):=by omega
    have hqw:wrap64 (q:Int)=(q:Int):=by have:=HNUM.out;unfold wrap64;omega
    have HQ:=hide hq
    have HL32:Hid (L+1≤40∧33≤L+1+f∧q < 9223372036854775808):=by
     have hn:=HNUM.out
     refine⟨?_,by omega,by omega⟩
     have hw:=HWD.out _ (Mm.get_mem HGG.out)
     unfold placeN at hw
     simp only at hw
     rcases Nat.lt_or_ge L 32 with h' | h'
     ·omega
     ·exfalso
      have hz:cntL (L:Int) size=0:=by
       unfold cntL
       rw [Int.toNat_natCast]
       refine Nat.div_eq_of_lt (Nat.lt_of_lt_of_le hsz ?_)
       exact Nat.le_trans (by decide:9223372036854775808≤4 ^ 32) (Nat.pow_le_pow_right (by omega) h')
      rw [hz] at hw
      omega
    have HREC:=hide (HIH.out (L+1) q up { m with needed:=m.needed.set (placeN size (L:Int) j) (fl.set kk ⟨true,true,h,[]⟩) } _ HL32.out.2.1 HL32.out.1 HL32.out.2.2 hup8 (HWD.out.set _ _) (HCV.out.below HB6.out))
    clear hf6 hb6 hup hup8 hq HG
    unfold ptrV at HREC
    go_wp2_with fail
    rw [show(L:Int)+1=((L+1:Nat):Int) from by omega]
    refine HREC.out.mono ?_
    rintro r w9 ⟨rfl,ht9,hcs9⟩
    have HT9:=hide ht9
    have HC9:=hide hcs9
    clear ht9 hcs9 HREC
    go_wp2_with fail
    first | go_end0 | refine bodyPost_ret (results_none rfl _ _ _) rfl ?_
    rw [HSM3.out,HUP.out,← HQ.out]
    exact⟨rfl,(((Turn.of_below HBX.out).trans (HTA.out.mono (fun _ h=> .inl h) (fun _ h=>h))).then_below HB6.out).trans (HT9.out.mono (fun _ h=> .inl h) (fun _ h=>h)),HC9.out⟩
   ·obtain⟨hst,hf6,hb6⟩:=HG.out none8 rfl
    have HUP:=hide hup
    have HB6:Hid (Below V.heap.size V ((w5.alloc (.cells no8A 91)).setCells w5.heap.size 0 (none8.map bv))):=HB5.out.trans (hb6.mono HB5.out.size)
    clear hf6 hb6 hup HG
    go_wp2_with fail
    first | go_end0 | refine bodyPost_ret (results_none rfl _ _ _) rfl ?_
    rw [HSM3.out,HUP.out]
    exact⟨rfl,((Turn.of_below HBX.out).trans (HTA.out.mono (fun _ h=> .inl h) (fun _ h=>h))).then_below HB6.out,HCV.out.below HB6.out⟩
theorem settle_any (W0:World)(O A OP:Nat→Prop)(cb nb db pm nm:Nat)(C:Array Value)(d:Dk)(room:Int)(pr:Mm)(size k:Nat)(hsz:size < 9223372036854775808):∀ f,SettleOk W0 O A OP cb nb db pm nm C d room pr size k f:=by
 intro f
 induction f with
 | zero =>
  intro L j h m w h1 h2 hj h8 hwd hcs
  refine settle_none W0 O A OP cb nb db pm nm C d room pr size k hsz L j h m w h2 hj ?_ hcs
  cases hg:m.needed.get (placeN size (L:Int) j) with
  | none=>rfl
  | some fl =>
   exfalso
   have hw:=hwd _ (Mm.get_mem hg)
   unfold placeN at hw
   simp only at hw
   have hz:cntL (L:Int) size=0:=by
    unfold cntL
    rw [Int.toNat_natCast]
    refine Nat.div_eq_of_lt (Nat.lt_of_lt_of_le hsz ?_)
    exact Nat.le_trans (by decide:9223372036854775808≤4 ^ 32) (Nat.pow_le_pow_right (by omega) (by omega))
   rw [hz] at hw
   omega
 | succ f ih=>exact settle_step W0 O A OP cb nb db pm nm C d room pr size k f hsz ih
end
end Go.Proofs.YtinhekmmdlhfkaaGreatDoor
