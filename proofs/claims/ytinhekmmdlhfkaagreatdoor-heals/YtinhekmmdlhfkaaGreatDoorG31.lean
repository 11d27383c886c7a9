import Derived.Test.YtinhekmmdlhfkaaGreatDoorG30
import Derived.Test.YtinhekmmdlhfkaaGreatDoorG18
namespace Go.Proofs.YtinhekmmdlhfkaaGreatDoor
section
set_option maxHeartbeats 4000000
open Go.RowKit
set_option maxRecDepth 100000
attribute [local go_sem ↓] loadM_fold storeM_fold loadP_fold storeP_fold buildP_fold buildF_fold loadH_fold storeH_fold
def besB (x y:Px):Bool:=x.there&&y.fits&&eqH x.hash y.hash
def besN (ys:List Px):Nat→List Px→List Px
 | 0,xs=>xs
 | k+1,xs=>if besB ((besN ys k xs).getD k .no) (ys.getD k .no) then (besN ys k xs).set k { (besN ys k xs).getD k .no with fits:=true } else besN ys k xs
def besX (xs ys:List Px):List Px:=List.zipWith (fun a b=>if besB a b then { a with fits:=true } else a) xs ys
theorem besN_ok {xs ys:List Px}(hx:FOk xs):∀ k,FOk (besN ys k xs)
 | 0=>hx
 | k+1=>by
  have:=besN_ok (ys:=ys) hx k
  unfold besN
  split
  ·exact⟨by simp [this.1],set_ok this.2 k ⟨(getD_ok this k).1,(getD_ok this k).2⟩⟩
  ·exact this
theorem besN_all {xs ys:List Px}(hx:FOk xs)(hy:FOk ys):besN ys 4 xs=besX xs ys:=by
 obtain⟨a,b,c,d,rfl⟩:=list4 hx.1
 obtain⟨a',b',c',d',rfl⟩:=list4 hy.1
 simp only [besN,besX,List.zipWith_cons_cons,List.zipWith_nil_right]
 cases ha:besB a a'<;>cases hb:besB b b'<;>cases hc:besB c c'<;>cases hd:besB d d'<;>simp [ha,hb,hc,hd]
theorem besX_is {w:World}{xs ys:List Px}{f g:Fl}(h:FxIs w xs f)(h':FxIs w ys g):FxIs w (besX xs ys) (besideF f g):=by
 obtain⟨a1,a2,a3⟩:=h
 obtain⟨b1,b2,b3⟩:=h'
 refine⟨by simp [besX,a1,b1],by simp [besideF,a2,b2],fun k hk=>?_⟩
 have e1:(besX xs ys).getD k .no=if besB (xs.getD k .no) (ys.getD k .no) then { xs.getD k .no with fits:=true } else xs.getD k .no:=by
  unfold besX
  have h1:k < xs.length:=by omega
  have h2:k < ys.length:=by omega
  simp only [List.getD_eq_getElem?_getD,List.getElem?_zipWith,List.getElem?_eq_getElem h1,List.getElem?_eq_getElem h2,Option.getD_some]
 have e2:besB (xs.getD k .no) (ys.getD k .no)=((f.getD k .no).there&&(g.getD k .no).fits&&decide ((f.getD k .no).hash=(g.getD k .no).hash)):=by
  unfold besB eqH
  rw [(a3 k hk).there,(b3 k hk).fits,(a3 k hk).hash,(b3 k hk).hash]
 rw [e1,besideF_get f g a2 b2 k hk,e2]
 split
 ·exact⟨(a3 k hk).there,rfl,(a3 k hk).hash,(a3 k hk).ent⟩
 ·exact a3 k hk
theorem besX_ok {xs ys:List Px}(hx:FOk xs)(hy:FOk ys):FOk (besX xs ys):=by rw [← besN_all hx hy];exact besN_ok hx 4
theorem find_in {w:World}{A:Nat→Prop}{nm:Nat}{LN:LsN}{nd:Mm}(hmn:MemN w A nm maxI LN)(hnd:All2 (NdR w A) LN nd)(p:Pl)(hp:PlOk p):∃(a:Option Addr) (b:Bool),
  ((b=false∧a=none∧nd.get p=none)∨(b=true∧∃ bb fb xs f,a=some ⟨fb,0,none⟩∧LN.get p=some (bb,ptrV fb)∧nd.get p=some f∧A fb∧FileAt w fb xs∧FOk xs∧FxIs w xs f)) ∧
  ∀ w0,Below w.heap.size w w0→Calls Tryz.prog 144 #[ptrV nm,plV p] w0 fun r w'=>r= .returned (.tuple #[.pointer a,.bool b])∧Below w0.heap.size w0 w':=by
 rcases NdIs.get hnd p with ⟨g1,g2⟩ | ⟨b,v,f,g1,g2,⟨fb,xs,rfl,hA,hf,hk,hi⟩,-⟩
 ·exact⟨none,false,.inl ⟨rfl,rfl,g2⟩,fun w0 hb=>getN_no A nm maxI LN _ hp w0 (hmn.below hb (fun _ h=>h)) g1⟩
 ·exact⟨_,true,.inr ⟨rfl,b,fb,xs,f,rfl,g1,g2,hA,hf,hk,hi⟩,fun w0 hb=>getN_yes A nm maxI LN _ hp w0 (hmn.below hb (fun _ h=>h)) b _ g1⟩
theorem getD_at {xs:List Px}{k:Nat}(hk:k < xs.length):xs[k]=xs.getD k .no:=by simp [List.getD_eq_getElem?_getD,hk]
theorem settleEntry_any (W0:World)(O A OP:Nat→Prop)(cb nb db pm nm:Nat)(C:Array Value)(d:Dk)(room:Int)(pr:Mm)(size k i:Nat)(hsz:size < 9223372036854775808)(hi:i < size)(leaf:List UInt8)(h8:leaf.length=8)(m:Ms Nt)(w:World)(hwd:WdN m.needed)(hbun:(m.needed.get (placeN size (-1) i)).isSome=true)(hcs:CS W0 w O A OP cb nb db pm nm C d room pr m k):
  Calls Tryz.prog 103 #[ptrV cb,.int .i64 size,.int .i64 i,.agg (hv leaf)] w fun r w'=>r= .returned (.tuple #[])∧Turn A [TFile] w w'∧CS W0 w' O A OP cb nb db pm nm C d room pr { m with needed:=settleE size m.needed i leaf } k:=by
 have hi63:i < 9223372036854775808:=by omega
 have HP1:=hide (plOk_of size hsz (-1) (by omega) (by omega) i hi63)
 have HP0:=hide (plOk_of size hsz 0 (by omega) (by omega) i hi63)
 have HPIN1:=hide (fun w=>placeIn_any size hsz (-1) (by omega) (by omega) i hi63 w)
 have HPIN0:=hide (fun w=>placeIn_any size hsz 0 (by omega) (by omega) i hi63 w)
 have HST:=hide (fun w0 hcs0=>settle_any W0 O A OP cb nb db pm nm C d room pr size k hsz 64 0 i leaf m w0 (by omega) (by omega) hi63 h8 hwd hcs0)
 have HCS:=hide hcs
 have H8:=hide h8
 have HBN:Hid ((settleM size 64 m.needed 0 i leaf).get (placeN size (-1) i)≠none):=by
  intro e
  obtain⟨f,hf⟩:=Option.isSome_iff_exists.1 hbun
  have h1:=Mm.get_mem hf
  have h2:placeN size (-1) i∈(settleM size 64 m.needed 0 i leaf).map (·.1):=by rw [settleM_keys];exact List.mem_map_of_mem h1
  obtain⟨y,hy,ey⟩:=List.mem_map.1 h2
  exact Mm.get_none e y hy ey
 have HSE:Hid (settleE size m.needed i leaf=match (settleM size 64 m.needed 0 i leaf).get (placeN size 0 i) with
  | none=>settleM size 64 m.needed 0 i leaf
  | some ls=>match (settleM size 64 m.needed 0 i leaf).get (placeN size (-1) i) with
   | none=>settleM size 64 m.needed 0 i leaf
   | some b=>(settleM size 64 m.needed 0 i leaf).set (placeN size (-1) i) (besideF b ls)):=rfl
 clear hwd hcs h8 hbun hi63
 unfold ptrV
 go_enter Tryz.func103,Tryz.ntmps103
 have hlh:(loadH (.pointer (some ⟨w.heap.size,0,none⟩))).run Tryz.prog (w.alloc (.cells (hv leaf) 91))= .ok (.agg (hv leaf)) (w.alloc (.cells (hv leaf) 91)):=loadH_of (range_row (cs:=leaf.map bv) (heap_alloc_last _ _)) H8.out
 go_wp2_with fail
 have HB1:Hid (Below w.heap.size w (w.alloc (.cells (hv leaf) 91))):=below_alloc w _
 generalize w.alloc (.cells (hv leaf) 91)=W1 at *
 have HS2:=hide (HST.out W1 (HCS.out.below HB1.out))
 unfold ptrV at HS2
 refine HS2.out.mono ?_
 rintro r w2 ⟨rfl,ht2,hcs2⟩
 have HT2:Hid (Turn A [TFile] w w2):=(Turn.of_below HB1.out).trans (ht2.mono (fun _ h=> .inl h) (fun _ h=>h))
 have HC2:=hide hcs2
 clear ht2 hcs2 HS2 HST hlh
 generalize settleM size 64 m.needed 0 i leaf=nd at *
 obtain⟨LN,hmn,hnd,hndup⟩:=HC2.out.nee
 obtain⟨a1,b1,hab1,hget1⟩:=find_in hmn hnd (placeN size (-1) i) HP1.out
 obtain⟨a0,b0,hab0,hget0⟩:=find_in hmn hnd (placeN size 0 i) HP0.out
 have HMN:=hide hmn
 have HND:=hide hnd
 have HNDUP:=hide hndup
 clear hmn hnd hndup
 have HAB1:=hide hab1
 have HAB0:=hide hab0
 have HG1:=hide hget1
 have HG0:=hide hget0
 clear hab1 hab0 hget1 hget0
 unfold ptrV at HG1 HG0
 have HCL:=hide HC2.out.cli
 go_wp2_with fail
 go_cut [8,9] from 18 to 28 (fun s8 s9 wx=>s8= .pointer a1∧s9= .bool b1∧Below w2.heap.size w2 wx)
 case first =>
  have c14:w2.cell? ⟨cb,14,none⟩=some (.pointer (some ⟨nm,0,none⟩)):=(dcell HCL.out 14 _ HC2.out.cells.nee).1
  go_region_with (first
   | (go_at_call 145;refine(HPIN1.out _).mono ?_;rintro r w3 ⟨rfl,hb3⟩;have HB3:=hide (below_undrew hb3);have c14':w3.cell? ⟨cb,14,none⟩=some (.pointer (some ⟨nm,0,none⟩)):=(dcell ((HB3.out.block _ (heap_some_lt HCL.out)).trans HCL.out) 14 _ HC2.out.cells.nee).1;clear hb3)
   | (go_at_call 144;refine(HG1.out w3 (by exact HB3.out)).mono ?_;rintro r w4 ⟨rfl,hb4⟩;have HB4:=hide (HB3.out.trans (hb4.mono HB3.out.size));clear hb4))
  all_goals go_wp2_with fail
  all_goals go_meet
  all_goals exact⟨rfl,rfl,HB4.out⟩
 case rest =>
  obtain⟨rfl,rfl,hbx⟩:=hcut
  obtain⟨X,hX⟩:∃ X,X=wc:=⟨_,rfl⟩
  subst hX
  have HBX:=hide hbx
  have HCLX:Hid (X.heap[cb]?=some (.cells C TCli (0,0))):=(hbx.block _ (heap_some_lt HCL.out)).trans HCL.out
  clear hbx
  go_wp2_with fail
  go_cut [10,11] from 29 to 39 (fun s10 s11 wx=>s10= .pointer a0∧s11= .bool b0∧Below w2.heap.size w2 wx)
  case first =>
   have c14:X.cell? ⟨cb,14,none⟩=some (.pointer (some ⟨nm,0,none⟩)):=(dcell HCLX.out 14 _ HC2.out.cells.nee).1
   go_region_with (first
    | (go_at_call 145;refine(HPIN0.out _).mono ?_;rintro r w3 ⟨rfl,hb3⟩;have HB3:=hide (below_undrew hb3);have c14':w3.cell? ⟨cb,14,none⟩=some (.pointer (some ⟨nm,0,none⟩)):=(dcell ((HB3.out.block _ (heap_some_lt HCLX.out)).trans HCLX.out) 14 _ HC2.out.cells.nee).1;clear hb3)
    | (go_at_call 144;refine(HG0.out w3 (by exact HBX.out.trans (HB3.out.mono HBX.out.size))).mono ?_;rintro r w4 ⟨rfl,hb4⟩;have HB4:=hide ((HBX.out.trans (HB3.out.mono HBX.out.size)).trans (hb4.mono (HBX.out.trans (HB3.out.mono HBX.out.size)).size));clear hb4))
   all_goals go_wp2_with fail
   all_goals go_meet
   all_goals exact⟨rfl,rfl,HB4.out⟩
  case rest =>
   obtain⟨rfl,rfl,hby⟩:=hcut
   obtain⟨Y,hY⟩:∃ Y,Y=wc:=⟨_,rfl⟩
   subst hY
   have HBY:=hide hby
   clear hby HBX HCLX HG1 HG0
   rcases HAB0.out with ⟨rfl,rfl,hg0⟩ | ⟨rfl,bb,fbl,ys,ls,rfl,hlg0,hg0,hA0,hf0,hfk0,hfi0⟩
   ·go_wp2_with fail
    first | go_end0 | refine bodyPost_ret (results_none rfl _ _ _) rfl ?_
    rw [HSE.out,hg0]
    exact⟨rfl,HT2.out.then_below HBY.out,HC2.out.below HBY.out⟩
   ·rcases HAB1.out with ⟨rfl,rfl,hg1⟩ | ⟨rfl,bb1,fbb,xs,bf,rfl,hlg1,hg1,hA1,hf1,hfk1,hfi1⟩
    ·exact absurd hg1 HBN.out
    ·have hne:fbb≠fbl:=by
      intro e
      subst e
      have:=nodup_map HNDUP.out (lsN_mem hlg1) (lsN_mem hlg0) rfl
      simp only [Prod.mk.injEq] at this
      have h2:=this.2.1
      unfold placeN at h2
      simp only [Prod.mk.injEq] at h2
      omega
     have HNE:=hide hne
     have HFB:Hid (FileAt Y fbb xs):=(HBY.out.block _ (heap_some_lt hf1)).trans hf1
     have HFL:Hid (FileAt Y fbl ys):=(HBY.out.block _ (heap_some_lt hf0)).trans hf0
     have HXK:=hide hfk1
     have HYK:=hide hfk0
     have HXI:=hide (hfi1.below HBY.out)
     have HYI:=hide (hfi0.below HBY.out)
     have HLG:=hide hlg1
     have HAA:=hide hA1
     have HGG0:=hide hg0
     have HGG1:=hide hg1
     have HCY:=hide (HC2.out.below HBY.out)
     have HMY:=hide (HMN.out.below HBY.out (fun _ h=>h))
     have HNY:Hid (All2 (NdR Y A) LN nd):=HND.out.mono (fun a' _ b' hr=>⟨hr.1,hr.2.turn (O:=fun _=>False) (T:=[]) (.of_below HBY.out) (by simp) (by simp) (fun _ h=>h)⟩)
     clear hne hf1 hf0 hfk1 hfk0 hfi1 hfi0 hlg1 hlg0 hg0 hg1 hA1 hA0 HAB1 HAB0
     go_wp2_with fail
     go_loopw [42,12] (fun ix _ wr=>∃ q:Nat,q≤4∧ix= .int .i64 q∧Turn (fun x=>x=fbb) [TFile] Y wr∧FileAt wr fbb (besN ys q xs)∧FileAt wr fbl ys) (fun ix _ _=>4 - (intOf ix).toNat)
     case atStart=>exact⟨0,by omega,rfl,Turn.refl _ _ _,HFB.out,HFL.out⟩
     case round =>
      obtain⟨q,hq,rfl,ht,hf,hl⟩:=hrel
      by_cases hlt:q < 4
      ·have hz:=besN_ok (ys:=ys) HXK.out q
       have hkl:q < (besN ys q xs).length:=by rw [hz.1];exact hlt
       have hyl:q < ys.length:=by rw [HYK.out.1];exact hlt
       have c0:wr.cell? ⟨fbb,q*11,none⟩=some (.bool ((besN ys q xs).getD q .no).there):=by
        have:=(hf.cell hz.2 hkl (j:=0) (v:= .bool (besN ys q xs)[q].there) (by omega) rfl).1
        rw [getD_at hkl] at this
        exact this
       obtain⟨c1,z1⟩:=hf.cell hz.2 hkl (j:=1) (v:= .bool (besN ys q xs)[q].fits) (by omega) rfl
       rw [getD_at hkl] at c1
       have d1:wr.cell? ⟨fbl,q*11+1,none⟩=some (.bool (ys.getD q .no).fits):=by
        have:=(hl.cell HYK.out.2 hyl (j:=1) (v:= .bool ys[q].fits) (by omega) rfl).1
        rw [getD_at hyl] at this
        exact this
       have hh8:=(getD_ok hz q).1
       have hy8:=(getD_ok HYK.out q).1
       have hlx:∀ n,(loadH (.pointer (some ⟨fbb,q*11+2,none⟩))).run Tryz.prog (wr.drewN n)= .ok (.agg (hv ((besN ys q xs).getD q .no).hash)) (wr.drewN n):=fun n=>by
        refine loadH_of (w:=wr.drewN n) ?_ hh8
        have:=FileAt.hash (w:=wr.drewN n) (xs:=besN ys q xs) (fb:=fbb) hf hz.2 hkl
        rw [getD_at hkl] at this
        exact this
       have hly:∀ n,(loadH (.pointer (some ⟨fbl,q*11+2,none⟩))).run Tryz.prog (wr.drewN n)= .ok (.agg (hv (ys.getD q .no).hash)) (wr.drewN n):=fun n=>by
        refine loadH_of (w:=wr.drewN n) ?_ hy8
        have:=FileAt.hash (w:=wr.drewN n) (xs:=ys) (fb:=fbl) hl HYK.out.2 hyl
        rw [getD_at hyl] at this
        exact this
       have heq:=fun w0=>eql_hash ((besN ys q xs).getD q .no).hash (ys.getD q .no).hash hh8 hy8 w0
       have HBN1:Hid (besN ys (q+1) xs=if besB ((besN ys q xs).getD q .no) (ys.getD q .no) then (besN ys q xs).set q { (besN ys q xs).getD q .no with fits:=true } else besN ys q xs):=rfl
       have HZO:Hid (({ (besN ys q xs).getD q .no with fits:=true }:Px).ok):=⟨(getD_ok hz q).1,(getD_ok hz q).2⟩
       have HF8:=hide (fun n=>FileAt.set1 (w:=wr.drewN n) hf hz.2 hkl (j:=1) (v:= .bool true) (x:={ (besN ys q xs).getD q .no with fits:=true }) (by omega) HZO.out (by rw [getD_at hkl];rfl))
       have HT8:Hid (∀ n,Turn (fun x=>x=fbb) [TFile] Y ((wr.drewN n).setCell ⟨fbb,q*11+1,none⟩ (.bool true))∧FileAt ((wr.drewN n).setCell ⟨fbb,q*11+1,none⟩ (.bool true)) fbl ys):=fun n=>by
        have t1:=(ht.drewN n).set (o:=q*11+1) (.inl rfl) hf (by simp) (.bool true)
        have t2:Turn (fun x=>x=fbb) [TFile] wr ((wr.drewN n).setCell ⟨fbb,q*11+1,none⟩ (.bool true)):=((Turn.refl (fun x=>x=fbb) [TFile] wr).drewN n).set (o:=q*11+1) (.inl rfl) hf (by simp) (.bool true)
        exact⟨t1,t2.stay hl (fun e=>HNE.out e.symm)⟩
       have HT:=hide ht
       have HF:=hide hf
       have HL:=hide hl
       have i0:(0:Int)≤(q:Int):=by omega
       have i1:(q:Int) < 4:=by omega
       clear ht hf hl hz hkl hyl hh8 hy8
       generalize hxe:(besN ys q xs).getD q .no=x at *
       generalize hye:ys.getD q .no=y at *
       clear hxe hye
       generalize besN ys q xs=xq at *
       cases ha:x.there with
       | false =>
        rw [ha] at c0
        go_wp2_with fail
        go_quiet (fail)
        go_wp2_with fail
        go_roundw
        case rel=>exact⟨q+1,by omega,by go_num,HT.out.drewN _,by rw [HBN1.out,if_neg (by unfold besB;rw [ha];simp)];exact HF.out,HL.out⟩
        case measure=>simp [intOf];omega
       | true =>
        rw [ha] at c0
        cases hb:y.fits with
        | false =>
         rw [hb] at d1
         go_wp2_with fail
         go_quiet (fail)
         go_wp2_with fail
         go_roundw
         case rel=>exact⟨q+1,by omega,by go_num,HT.out.drewN _,by rw [HBN1.out,if_neg (by unfold besB;rw [ha,hb];simp)];exact HF.out,HL.out⟩
         case measure=>simp [intOf];omega
        | true =>
         rw [hb] at d1
         cases he:eqH x.hash y.hash with
         | false =>
          rw [he] at heq
          go_wp2_with fail
          go_quiet (fail)
          go_wp2_with fail
          go_roundw
          case rel=>exact⟨q+1,by omega,by go_num,HT.out.drewN _,by rw [HBN1.out,if_neg (by unfold besB;rw [ha,hb,he];simp)];exact HF.out,HL.out⟩
          case measure=>simp [intOf];omega
         | true =>
          rw [he] at heq
          go_wp2_with fail
          go_quiet (fail)
          go_wp2_with fail
          go_roundw
          case rel=>exact⟨q+1,by omega,by go_num,(HT8.out _).1,by rw [HBN1.out,if_pos (by unfold besB;rw [ha,hb,he];rfl)];exact HF8.out _,(HT8.out _).2⟩
          case measure=>simp [intOf];omega
      ·obtain rfl:q=4:=by omega
       have hb:=besX_is (HXI.out.turn ht (by decide)) (HYI.out.turn ht (by decide))
       rw [besN_all HXK.out HYK.out] at hf
       have hTA:Turn A [TFile] Y wr:=ht.mono (fun b hb=>by rw [hb];exact HAA.out) (fun _ h=>h)
       go_wp2_with fail
       first | go_end0 | refine bodyPost_ret (results_none rfl _ _ _) rfl ?_
       rw [HSE.out,HGG0.out,HGG1.out]
       exact⟨rfl,(HT2.out.then_below HBY.out).trans (hTA.mono (fun _ h=> .inl h) (fun _ h=>h)),HCY.out.setNd hTA (NdIs.setF HMY.out HNY.out HNDUP.out HLG.out ht HFB.out hf (besX_ok HXK.out HYK.out) hb HAA.out) (Mm.set_len _ _ _)⟩
end
section
set_option maxHeartbeats 4000000
open Go.RowKit
set_option maxRecDepth 100000
attribute [local go_sem ↓] loadM_fold storeM_fold loadP_fold storeP_fold buildP_fold buildF_fold loadH_fold storeH_fold
theorem fitsAt_set (f:Fl)(k:Nat):fitsAt f k=f.set k { f.getD k .no with fits:=true }:=by
 unfold fitsAt
 apply List.ext_getElem?
 intro i
 rw [List.getElem?_modify,List.getElem?_set]
 by_cases hik:k=i
 ·subst hik
  by_cases hk:k < f.length
  ·simp [hk,List.getD_eq_getElem?_getD]
  ·simp [hk]
 ·simp [hik]
def trC (n:Nat)(root:List UInt8):List Value:= .int .i64 n::root.map bv
theorem settleOlder_any (W0:World)(O A OP:Nat→Prop)(cb nb db pm nm:Nat)(C:Array Value)(d:Dk)(room:Int)(pr:Mm)(size k old:Nat)(hsz:size < 9223372036854775808)(h1:1≤old)(hold:old < 9223372036854775808)(root:List UInt8)(h8:root.length=8)(m:Ms Nt)(w:World)(hTb:Tabs W0)(hwd:WdN m.needed)(hcs:CS W0 w O A OP cb nb db pm nm C d room pr m k):
  Calls Tryz.prog 99 #[ptrV cb,.int .i64 size,.agg (trC old root).toArray] w fun r w'=>r= .returned (.tuple #[])∧Turn A [TFile] w w'∧CS W0 w' O A OP cb nb db pm nm C d room pr { m with needed:=settleO size m.needed old root } k:=by
 obtain⟨hdv,hl32,-⟩:=lvl_spec old h1 (by omega)
 have hq1:1≤old / 4 ^ lvl old:=Nat.div_pos (Nat.le_of_dvd h1 hdv) (Nat.pow_pos (by omega))
 have hqle:old / 4 ^ lvl old≤old:=Nat.div_le_self _ _
 obtain⟨J,hJ⟩:∃ J,J=old / 4 ^ lvl old - 1:=⟨_,rfl⟩
 have hc1:((cntL ((lvl old:Nat):Int) old:Nat):Int)=(J:Int)+1:=by unfold cntL;rw [Int.toNat_natCast];omega
 have HC1:=hide hc1
 have HTZ:=hide (fun w (hT:Tabs w)=>tz_any old (by omega) (by omega) w hT)
 have HCA:=hide (fun(x:Nat) (hx:x < 9223372036854775808) w=>countAt_wide ((lvl old:Nat):Int) (by omega) (by omega) x hx w)
 have HQ:Hid (((Lib.ctz 64 old:Nat):Int) / 2=((lvl old:Nat):Int)):=by show _=_;unfold lvl;omega
 have hw64:IntKind.u64.wrap (old:Int)=(old:Int):=by
  have h1:(old:Int) < 18446744073709551616:=by omega
  have h0:0≤(old:Int):=by omega
  simp [IntKind.wrap,IntKind.bits,IntKind.signed]
  omega
 have hJ63:J < 9223372036854775808:=by omega
 have HPOK:=hide (plOk_of size hsz ((lvl old:Nat):Int) (by omega) (by omega) J hJ63)
 have HPIN:=hide (fun w=>placeIn_any size hsz ((lvl old:Nat):Int) (by omega) (by omega) J hJ63 w)
 have HSET:=hide (fun(x:List UInt8) (hx:x.length=8) (m':Ms Nt) w0 (hw':WdN m'.needed) hcs0=>settle_any W0 O A OP cb nb db pm nm C d room pr size k hsz 64 (lvl old) J x m' w0 (by omega) (by omega) hJ63 hx hw' hcs0)
 have HSO:Hid (settleO size m.needed old root=match m.needed.get (placeN size ((lvl old:Nat):Int) J) with
  | none=>m.needed
  | some fl =>
   if J=0 then settleM size 64 m.needed (lvl old) 0 root
   else if J=1 then
    (if nodeH (fl.getD 0 .no).hash (fl.getD 1 .no).hash=root then settleM size 64 (m.needed.set (placeN size ((lvl old:Nat):Int) 1) (fitsAt fl 0)) (lvl old) 1 (fl.getD 1 .no).hash else m.needed)
   else settleM size 64 m.needed (lvl old) J (fl.getD (J % 4) .no).hash):=by rw [hJ];rfl
 have HCS:=hide hcs
 have HWD:=hide hwd
 have H8:=hide h8
 have HTB:=hide hTb
 have HN:Hid (old < 9223372036854775808∧J < 9223372036854775808):=⟨hold,hJ63⟩
 clear hcs hwd h8 hTb hJ hdv hq1 hqle hold h1 hc1 hJ63
 generalize lvl old=L at *
 generalize Lib.ctz 64 old=Z at *
 unfold ptrV
 go_enter Tryz.func99,Tryz.ntmps99
 have hB1:Below w.heap.size w (w.alloc (.cells (trC old root).toArray 93)):=below_alloc w _
 have hX1:(w.alloc (.cells (trC old root).toArray 93)).heap[w.heap.size]?=some (.cells (trC old root).toArray 93 (0,0)):=heap_alloc_last _ _
 have t0:(w.alloc (.cells (trC old root).toArray 93)).cell? ⟨w.heap.size,0,none⟩=some (.int .i64 old):=(dcell hX1 0 _ rfl).1
 have HB1:=hide hB1
 have HX1:=hide hX1
 clear hB1 hX1
 go_wp2_with fail
 clear hw64
 generalize w.alloc (.cells (trC old root).toArray 93)=W1 at *
 have HC:=hide (HCS.out.below HB1.out)
 refine(HTZ.out W1 (HTB.out.below HC.out.base)).mono ?_
 rintro r w1 ⟨rfl,rfl⟩
 have hwl:wrap64 (L:Int)=(L:Int):=by unfold wrap64;omega
 go_wp2_with fail
 rw [HQ.out,hwl]
 refine(HCA.out old HN.out.1 w1).mono ?_
 rintro r w2 ⟨rfl,rfl⟩
 rw [HC1.out]
 have hwj:wrap64 ((J:Int)+1 - 1)=(J:Int):=by have:=HN.out.2;unfold wrap64;omega
 have hwj2:wrap64 (J:Int)=(J:Int):=by have:=HN.out.2;unfold wrap64;omega
 obtain⟨LN,hmn,hnd,hndup⟩:=HC.out.nee
 obtain⟨a,b,hab,hget⟩:=find_in hmn hnd (placeN size (L:Int) J) HPOK.out
 have HAB:=hide hab
 have HGET:=hide hget
 have HMN:=hide hmn
 have HND:=hide hnd
 have HNDUP:=hide hndup
 unfold ptrV at HGET
 have HCL:=hide HC.out.cli
 clear hmn hnd hndup hab hget hwl
 go_wp2_with fail
 rw [hwj2]
 clear hwj hwj2
 go_cut [8,9] from 21 to 32 (fun s8 s9 wx=>s8= .pointer a∧s9= .bool b∧Below w2.heap.size w2 wx)
 case first =>
  have c14:w2.cell? ⟨cb,14,none⟩=some (.pointer (some ⟨nm,0,none⟩)):=(dcell HCL.out 14 _ HC.out.cells.nee).1
  go_region_with (first
   | (go_at_call 145;refine(HPIN.out _).mono ?_;rintro r w3 ⟨rfl,hb3⟩;have HB3:=hide (below_undrew hb3);have c14':w3.cell? ⟨cb,14,none⟩=some (.pointer (some ⟨nm,0,none⟩)):=(dcell ((HB3.out.block _ (heap_some_lt HCL.out)).trans HCL.out) 14 _ HC.out.cells.nee).1;clear hb3)
   | (go_at_call 144;refine(HGET.out w3 (by exact HB3.out)).mono ?_;rintro r w4 ⟨rfl,hb4⟩;have HB4:=hide (HB3.out.trans (hb4.mono HB3.out.size));clear hb4))
  all_goals go_wp2_with fail
  all_goals go_meet
  all_goals exact⟨rfl,rfl,HB4.out⟩
 case rest =>
  obtain⟨rfl,rfl,hbx⟩:=hcut
  obtain⟨X,hX⟩:∃ X,X=wc:=⟨_,rfl⟩
  subst hX
  have HBX:=hide hbx
  have HXX:Hid (X.heap[w.heap.size]?=some (.cells (trC old root).toArray 93 (0,0))):=(hbx.block _ (heap_some_lt HX1.out)).trans HX1.out
  have HCX:=hide (HC.out.below hbx)
  have HTX:Hid (Turn A [TFile] w X):=(Turn.of_below HB1.out).then_below hbx
  clear hbx HGET t0
  rcases HAB.out with ⟨rfl,rfl,hg⟩ | ⟨rfl,bb,fb,xs,fl,rfl,hlg,hg,hA,hf,hfk,hfi⟩
  ·go_wp2_with fail
   first | go_end0 | refine bodyPost_ret (results_none rfl _ _ _) rfl ?_
   rw [HSO.out,hg]
   exact⟨rfl,HTX.out,HCX.out⟩
  ·have hfX:FileAt X fb xs:=(HBX.out.block _ (heap_some_lt hf)).trans hf
   obtain⟨kk,hkk⟩:∃ kk,kk=J % 4:=⟨_,rfl⟩
   have hrem:(J:Int) % 4=(kk:Int):=by omega
   have hk4:kk < 4:=by omega
   have hkl:kk < xs.length:=by rw [hfk.1];exact hk4
   have h0l:0 < xs.length:=by rw [hfk.1];omega
   have hx8:=(getD_ok hfk kk).1
   have hlx:(loadH (.pointer (some ⟨fb,kk*11+2,none⟩))).run Tryz.prog X= .ok (.agg (hv (xs.getD kk .no).hash)) X:=by
    refine loadH_of ?_ hx8
    have:=FileAt.hash hfX hfk.2 hkl
    rw [getD_at hkl] at this
    exact this
   have HG:Hid (∀ y:List UInt8,y.length=8→(storeH (.pointer (some ⟨X.heap.size,0,none⟩)) (.agg (hv y))).run Tryz.prog (X.alloc (.cells no8A 91))= .ok () ((X.alloc (.cells no8A 91)).setCells X.heap.size 0 (y.map bv))∧((X.alloc (.cells no8A 91)).setCells X.heap.size 0 (y.map bv)).heap[X.heap.size]?=some (.cells (y.map bv).toArray 91 (0,0))∧Below X.heap.size X ((X.alloc (.cells no8A 91)).setCells X.heap.size 0 (y.map bv))):=by
    intro y hy
    have hf4:(X.alloc (.cells no8A 91)).heap[X.heap.size]?=some (.cells (none8.map bv).toArray 91 (0,0)):=heap_alloc_last _ _
    have hf5:=row_whole hf4 (ds:=y.map bv) (by simp [hy,none8])
    exact⟨storeH_of (by have:=row_there hf4;simpa [none8] using this) hy,hf5,below_setCells (below_alloc _ _) (Nat.le_refl _) _ _⟩
   obtain⟨hst,hx9,hb9⟩:=HG.out _ hx8
   have HKK:=hide hkk
   have HF:=hide hfX
   have HFK:=hide hfk
   have HFI:=hide (hfi.below HBX.out)
   have HLG:=hide hlg
   have HGG:=hide hg
   have HA:=hide hA
   have HX8:=hide hx8
   have HX9:=hide hx9
   have HB9:=hide hb9
   have HXH:Hid ((xs.getD kk .no).hash=(fl.getD (J % 4) .no).hash):=by show _=_;rw [← hkk];exact(hfi.2.2 kk hk4).hash
   have HX0:Hid ((xs.getD 0 .no).hash=(fl.getD 0 .no).hash):=(hfi.2.2 0 (by omega)).hash
   have H08:=hide (getD_ok hfk 0).1
   have HL0:Hid (∀ w0,FileAt w0 fb xs→(loadH (.pointer (some ⟨fb,2,none⟩))).run Tryz.prog w0= .ok (.agg (hv (xs.getD 0 .no).hash)) w0):=fun w0 hf0=>by
    refine loadH_of ?_ H08.out
    have:=FileAt.hash hf0 HFK.out.2 h0l
    rw [getD_at h0l] at this
    simpa using this
   clear hfX hfk hfi hlg hg hA hf hkl hkk HG hx8 hx9 hb9 HAB h0l
   generalize (xs.getD kk .no).hash=xh at *
   generalize (xs.getD 0 .no).hash=x0h at *
   have HFV:Hid (FileAt ((X.alloc (.cells no8A 91)).setCells X.heap.size 0 (xh.map bv)) fb xs):=(HB9.out.block _ (heap_some_lt HF.out)).trans HF.out
   have HCV:=hide (HCX.out.below HB9.out)
   have HTV:=hide (HTX.out.then_below HB9.out)
   have HRV:Hid (((X.alloc (.cells no8A 91)).setCells X.heap.size 0 (xh.map bv)).heap[w.heap.size]?=some (.cells (trC old root).toArray 93 (0,0))):=(HB9.out.block _ (heap_some_lt HXX.out)).trans HXX.out
   have hXV:X.heap.size < ((X.alloc (.cells no8A 91)).setCells X.heap.size 0 (xh.map bv)).heap.size:=heap_some_lt HX9.out
   have hlr:(loadH (.pointer (some ⟨w.heap.size,1,none⟩))).run Tryz.prog ((X.alloc (.cells no8A 91)).setCells X.heap.size 0 (xh.map bv))= .ok (.agg (hv root)) ((X.alloc (.cells no8A 91)).setCells X.heap.size 0 (xh.map bv)):=by
    refine loadH_of ?_ H8.out
    intro j v hv'
    have:=range_row HRV.out (1+j) v (by unfold trC;rw [Nat.add_comm,List.getElem?_cons_succ];exact hv')
    rw [Nat.zero_add] at this
    exact this
   have hlh:=loadH_of (range_row HX9.out) HX8.out
   by_cases j0:J=0
   ·have j0d:((J:Int)==0)=true:=by simp [j0]
    have J0:=hide j0
    clear j0
    have hth:=row_there HX9.out
    rw [List.length_map,HX8.out] at hth
    have hst:=storeH_of hth H8.out
    have hx2:=row_whole HX9.out (ds:=root.map bv) (by rw [List.length_map,List.length_map,HX8.out,H8.out])
    have hB2:Below X.heap.size X (((X.alloc (.cells no8A 91)).setCells X.heap.size 0 (xh.map bv)).setCells X.heap.size 0 (root.map bv)):=below_setCells HB9.out (Nat.le_refl _) _ _
    have hl2:=loadH_of (range_row hx2) H8.out
    have HC2:=hide (HCX.out.below hB2)
    have HT2:=hide (HTX.out.then_below hB2)
    have HS2:=hide (HSET.out root H8.out m _ HWD.out HC2.out)
    unfold ptrV at HS2
    clear hth hx2 hB2
    go_wp2_with fail
    refine HS2.out.mono ?_
    rintro r w9 ⟨rfl,ht9,hc9⟩
    have HT9:=hide ht9
    have HC9:=hide hc9
    clear ht9 hc9 HS2
    go_wp2_with fail
    first | go_end0 | refine bodyPost_ret (results_none rfl _ _ _) rfl ?_
    have hso:=HSO.out
    rw [HGG.out] at hso
    simp only [J0.out,if_true] at hso
    have hc9:=HC9.out
    rw [J0.out] at hc9
    rw [hso]
    exact⟨rfl,HT2.out.trans (HT9.out.mono (fun _ h=> .inl h) (fun _ h=>h)),hc9⟩
   ·have j0d:((J:Int)==0)=false:=by simpa using (by omega:¬(J:Int)=0)
    by_cases j1:J=1
    ·have j1d:((J:Int)==1)=true:=by simp [j1]
     have J1:=hide j1
     clear j1 j0
     obtain⟨N,hN,hN8,hNc⟩:∃ N,N=nodeH x0h xh∧N.length=8∧∀ w',Calls Tryz.prog 86 #[.agg (hv x0h),.agg (hv xh)] w' fun r w''=>r= .returned (.agg (hv N))∧Below w'.heap.size w' w'':=⟨_,rfl,nodeH_length _ _,fun w'=>node_any _ _ w' H08.out HX8.out⟩
     have HNC:=hide hNc
     have HN:=hide hN
     have hne:=fun w0=>neq_hash N root hN8 H8.out w0
     clear hNc hN hN8
     go_wp2_with fail
     generalize (X.alloc (.cells no8A 91)).setCells X.heap.size 0 (xh.map bv)=V at *
     clear hrem
     go_cut [58] from 49 to 57 (fun s58 wx=>s58= .bool (!eqH N root)∧Below V.heap.size V wx)
     case first =>
      have l1:(loadH (.pointer (some ⟨fb,2,none⟩))).run Tryz.prog V.drew= .ok (.agg (hv x0h)) V.drew:=HL0.out V.drew HFV.out
      have l2:(loadH (.pointer (some ⟨X.heap.size,0,none⟩))).run Tryz.prog V.drew= .ok (.agg (hv xh)) V.drew:=loadH_of (w:=V.drew) (range_row (w:=V.drew) HX9.out) HX8.out
      have HLR:Hid (∀ w0,Below V.heap.size V w0→(loadH (.pointer (some ⟨w.heap.size,1,none⟩))).run Tryz.prog w0= .ok (.agg (hv root)) w0):=fun w0 hb0=>by
       have hrv:w0.heap[w.heap.size]?=some (.cells (trC old root).toArray 93 (0,0)):=(hb0.block _ (heap_some_lt HRV.out)).trans HRV.out
       refine loadH_of ?_ H8.out
       intro j v hv'
       have:=range_row hrv (1+j) v (by unfold trC;rw [Nat.add_comm,List.getElem?_cons_succ];exact hv')
       rw [Nat.zero_add] at this
       exact this
      have l3:=HLR.out V.drew (Below.refl _ V).drew
      clear hlh hlr
      go_region_with (go_at_call 86;refine(HNC.out _).mono ?_;rintro r w5 ⟨rfl,hb5⟩;have HB5:=hide (below_undrew hb5);have l5:=HLR.out w5 HB5.out;clear hb5)
      all_goals go_wp2_with fail
      all_goals go_meet
      all_goals exact⟨rfl,HB5.out⟩
     case rest =>
      obtain⟨rfl,hbz⟩:=hcut
      obtain⟨Z2,hZ2⟩:∃ Z2,Z2=wc:=⟨_,rfl⟩
      subst hZ2
      have HBZ:=hide hbz
      have hfz:FileAt Z2 fb xs:=(hbz.block _ (heap_some_lt HFV.out)).trans HFV.out
      have HFZ:=hide hfz
      have hxz:Z2.heap[X.heap.size]?=some (.cells (xh.map bv).toArray 91 (0,0)):=(hbz.block _ (heap_some_lt HX9.out)).trans HX9.out
      have HXZ:=hide hxz
      have HCZ:=hide (HCV.out.below hbz)
      have HTZ2:=hide (HTV.out.then_below hbz)
      have hso:=HSO.out
      rw [HGG.out] at hso
      simp only [J1.out,if_true,Nat.one_ne_zero,if_false] at hso
      have HXH1:=HXH.out
      rw [J1.out] at HXH1
      simp only [Nat.reduceMod] at HXH1
      rw [← HX0.out,← HXH1,← HN.out] at hso
      have HSO2:=hide hso
      clear hbz hso hlr hlh HXH1
      cases he:eqH N root with
      | false =>
       have hne0:¬ N=root:=by simpa [eqH] using he
       go_wp2_with fail
       first | go_end0 | refine bodyPost_ret (results_none rfl _ _ _) rfl ?_
       rw [HSO2.out,if_neg hne0]
       exact⟨rfl,HTZ2.out,HCZ.out⟩
      | true =>
       have heq0:N=root:=by simpa [eqH] using he
       have h0l:0 < xs.length:=by rw [HFK.out.1];omega
       obtain⟨c1,z1⟩:=hfz.cell HFK.out.2 h0l (j:=1) (v:= .bool xs[0].fits) (by omega) rfl
       have hzk:({ xs.getD 0 .no with fits:=true }:Px).ok:=⟨(getD_ok HFK.out 0).1,(getD_ok HFK.out 0).2⟩
       have hf8:=hfz.set1 HFK.out.2 h0l (j:=1) (v:= .bool true) (x:={ xs.getD 0 .no with fits:=true }) (by omega) hzk (by rw [getD_at h0l];rfl)
       have ht8:=(Turn.refl (fun b=>b=fb) [TFile] Z2).set (o:=0*11+1) (.inl rfl) hfz (by simp) (.bool true)
       rw [getD_at h0l] at c1
       simp only [Nat.zero_mul,Nat.zero_add] at c1 z1 hf8 ht8
       have HF8:=hide hf8
       have HT8:=hide ht8
       have hx8':(Z2.setCell ⟨fb,1,none⟩ (.bool true)).heap[X.heap.size]?=some (.cells (xh.map bv).toArray 91 (0,0)):=ht8.keep hxz (by decide)
       have hl8:=loadH_of (range_row hx8') HX8.out
       have HIZ:Hid (FxIs Z2 xs fl):=(HFI.out.below HB9.out).below HBZ.out
       have HK8:Hid (FOk (xs.set 0 { xs.getD 0 .no with fits:=true })):=⟨by rw [List.length_set];exact HFK.out.1,set_ok HFK.out.2 0 hzk⟩
       have HTA:Hid (Turn A [TFile] Z2 (Z2.setCell ⟨fb,1,none⟩ (.bool true))):=ht8.mono (fun b hb=>by rw [hb];exact HA.out) (fun _ h=>h)
       have HI8:Hid (FxIs (Z2.setCell ⟨fb,1,none⟩ (.bool true)) (xs.set 0 { xs.getD 0 .no with fits:=true }) (fitsAt fl 0)):=by
        have h1:=HIZ.out.turn ht8 (by decide)
        have h2:=h1.2.2 0 (by omega)
        have:=set_is h1 0 (z:={ xs.getD 0 .no with fits:=true }) (c:={ fl.getD 0 .no with fits:=true }) ⟨h2.there,rfl,h2.hash,h2.ent⟩
        rw [fitsAt_set]
        exact this
       have HMZ:Hid (MemN Z2 A nm maxI LN):=((HMN.out.below HBX.out (fun _ h=>h)).below HB9.out (fun _ h=>h)).below HBZ.out (fun _ h=>h)
       have HBALL:Hid (Below w2.heap.size w2 Z2):=(HBX.out.trans (HB9.out.mono HBX.out.size)).trans (HBZ.out.mono (HBX.out.trans (HB9.out.mono HBX.out.size)).size)
       have HNZ:Hid (All2 (NdR Z2 A) LN m.needed):=HND.out.mono (fun a' _ b' hr=>⟨hr.1,hr.2.turn (O:=fun _=>False) (T:=[]) (.of_below HBALL.out) (by simp) (by simp) (fun _ h=>h)⟩)
       have HC8:=hide (HCZ.out.setNd HTA.out (NdIs.setF HMZ.out HNZ.out HNDUP.out HLG.out ht8 hfz hf8 HK8.out HI8.out HA.out) (Mm.set_len _ _ _))
       have HS2:=hide (HSET.out xh HX8.out _ _ (HWD.out.set _ _) HC8.out)
       unfold ptrV at HS2
       clear hf8 ht8 hx8' hzk hxz hfz h0l
       go_wp2_with fail
       refine HS2.out.mono ?_
       rintro r w9 ⟨rfl,ht9,hc9⟩
       have HT9:=hide ht9
       have HC9:=hide hc9
       clear ht9 hc9 HS2
       go_wp2_with fail
       first | go_end0 | refine bodyPost_ret (results_none rfl _ _ _) rfl ?_
       have hc9:=HC9.out
       rw [J1.out] at hc9
       rw [HSO2.out,if_pos heq0]
       exact⟨rfl,(HTZ2.out.trans (HTA.out.mono (fun _ h=> .inl h) (fun _ h=>h))).trans (HT9.out.mono (fun _ h=> .inl h) (fun _ h=>h)),hc9⟩
    ·have j1d:((J:Int)==1)=false:=by simpa using (by omega:¬(J:Int)=1)
     have HS2:=hide (HSET.out xh HX8.out m _ HWD.out HCV.out)
     unfold ptrV at HS2
     go_wp2_with fail
     refine HS2.out.mono ?_
     rintro r w9 ⟨rfl,ht9,hc9⟩
     have HT9:=hide ht9
     have HC9:=hide hc9
     clear ht9 hc9 HS2
     go_wp2_with fail
     first | go_end0 | refine bodyPost_ret (results_none rfl _ _ _) rfl ?_
     have hso:=HSO.out
     rw [HGG.out] at hso
     simp only [j0,j1,if_false] at hso
     rw [hso,← HXH.out]
     exact⟨rfl,HTV.out.trans (HT9.out.mono (fun _ h=> .inl h) (fun _ h=>h)),HC9.out⟩
end
end Go.Proofs.YtinhekmmdlhfkaaGreatDoor
