import Derived.Test.YtinhekmmdlhfkaaGreatDoorG18
import Derived.Test.YtinhekmmdlhfkaaGreatDoorG05
import Derived.Deep.RegionHeld3
import Derived.Test.YtinhekmmdlhfkaaGreatDoorG15
namespace Go.Proofs.YtinhekmmdlhfkaaGreatDoor
section
set_option maxHeartbeats 2000000
open Go.RowKit
set_option maxRecDepth 100000
def CellsAt (w:World)(v:Value)(ls:List (List UInt8)):Prop:=∃ a cap,v= .slice a ls.length cap∧∀ j (h:j < ls.length),∃ b off,a=some ⟨b,off,none⟩∧ls.length≤cap∧∃ g c,w.cell? ⟨b,off+j,none⟩=some (.slice (some ⟨g,0,none⟩) ls[j].length c)∧∀ i (hi:i < ls[j].length),w.cell? ⟨g,i,none⟩=some (bv ls[j][i])
theorem bundleOff_any (v:Value)(ls:List (List UInt8))(w:World)(hn:ls.length≤1000000)(hl:∀ l∈ls,l.length≤maxLen)(h:CellsAt w v ls):
  Calls Tryz.prog 164 #[v] w fun r w'=>∃ x,r= .returned x∧Below w.heap.size w w'∧(okB ls=true→OB w' w.heap.size x (bunL ls))∧(okB ls=false→x= .slice none 0 0):=by
 obtain⟨i,hi,hi'⟩:=Option.map_eq_some_iff.1 infoByte
 obtain⟨hz0,hz1,hz2⟩:i.zero=some (.int .u8 0)∧i.size=1∧i.bytes=1:=by simpa using hi'
 clear hi'
 have HI:=hide hi
 have HZ:=hide (And.intro hz0 (And.intro hz1 hz2))
 clear hi hz0 hz1 hz2
 obtain⟨a,cap,rfl,hc⟩:=h
 have Hc:=hide hc
 have Hl:=hide hl
 clear hc hl
 by_cases hbig:4 < ls.length
 ·have HR:=hide (okB_big hbig)
  go_enter Tryz.func164,Tryz.ntmps164
  go_wp2
  go_ret
  exact⟨_,rfl,Below.refl _ _,fun h=>by rw [HR.out] at h;simp at h,fun _=>rfl⟩
 ·go_enter Tryz.func164,Tryz.ntmps164
  go_wp2_with fail
  go_loopw [3,11] (fun t i wr=>∃ k:Nat,k≤ls.length∧i= .int .i64 k∧Below w.heap.size w wr∧wr.ownsRow w.heap.size 5 1 t (bunL (ls.take k)).length ((bunL (ls.take k)).map bv)∧(k=0→t= .slice none 0 0)∧(0 < k→t≠ .slice none 0 0)∧∀ j (hj:j < ls.length),j < k→ls[j].length≤20) (fun _ i _=>ls.length - (intOf i).toNat)
  case atStart=>exact⟨0,Nat.zero_le _,rfl,Below.refl _ _,⟨rfl,.inl ⟨rfl,rfl⟩⟩,fun _=>rfl,fun h=>absurd h (Nat.lt_irrefl _),fun j _ hj=>absurd hj (Nat.not_lt_zero _)⟩
  case round =>
   obtain⟨k,hk,rfl,hbe,hown,hnil,hnn,hall⟩:=hrel
   have HB:=hide hbe
   have HO:=hide hown
   have HN:=hide (And.intro hnil hnn)
   have HA:=hide hall
   clear hbe hown hnil hnn hall
   by_cases hlt:k < ls.length
   ·obtain⟨b,off,rfl,hcp,g,c,hx,hcs⟩:=Hc.out k hlt
    have hgl:0 < ls[k].length→g < w.heap.size:=fun h0=>cell_lt (p:=⟨g,0,none⟩) (hcs 0 h0)
    rw [← HB.out.cell (cell_lt (p:=⟨b,off+k,none⟩) hx)] at hx
    have HS:=hide hcs
    have HG:=hide hgl
    have hm:=Hl.out ls[k] (List.getElem_mem hlt)
    unfold maxLen at hm
    clear hcs hgl
    by_cases h20:20 < ls[k].length
    ·have HR:=hide (okB_long k hlt h20)
     generalize ls[k]=l at *
     go_wp2
     go_ret
     exact⟨_,rfl,HB.out,fun h=>by rw [HR.out] at h;simp at h,fun _=>rfl⟩
    ·have hsn:=bun_snoc ls k hlt (by omega)
     have HSN:=hide hsn
     have HLL:=hide (bunL_len (ls.take k) (fun l hl=>by
      obtain⟨j,hj,rfl⟩:=List.getElem_of_mem hl
      have hj':j < k:=by simp at hj;omega
      rw [List.getElem_take]
      exact HA.out j (by omega) hj'))
     have hlk:(ls.take k).length=k:=by rw [List.length_take];omega
     have HA':Hid (∀ j (hj:j < ls.length),j < k+1→ls[j].length≤20):=fun j hjl hjk=>by
      rcases Nat.lt_or_ge j k with h | h
      ·exact HA.out j hjl h
      ·obtain rfl:j=k:=by omega
       omega
     clear hsn HA
     have hwr:IntKind.u8.wrap (ls[k].length:Int)=(ls[k].length:Int):=by
      rw [IntKind.wrap_u8];omega
     generalize ls[k]=l at *
     generalize bunL (ls.take k)=m at *
     have hml:m.length≤84:=by have:=HLL.out;rw [hlk] at this;omega
     have HML:=hide hml
     have hl20:l.length≤20:=by omega
     clear hlk HLL hml hm
     have hsz:Hid (w.heap.size≤wr.heap.size):=HB.out.size
     have HO1:Hid (∀ o,(wr.alloc o).ownsRow w.heap.size 5 1 u3 m.length (m.map bv)):=fun o=>ownsRow_below HO.out (below_alloc wr o)
     go_wp2_with (first
      | (at_builtin;refine wpList_append_lies _ rfl _ _ _ rfl w.heap.size 5 i (.int .u8 0) 1 1 Tryz.underlying76 HI.out HZ.out.1 HZ.out.2.1 HZ.out.2.2 rfl (by omega) u3 m.length _ rfl (HO1.out _) ⟨wr.heap.size,0,none⟩ 1 1 [.int .u8 (l.length:Int)] rfl rfl (World.news_of_block (heap_alloc_last _ _)) (by simp [Value.oneCell']) (by omega) (by have:=HML.out;unfold maxLen;omega) (by have:=HML.out;omega) (by have:=hsz.out;simp;omega) (wr.heap.size+1) (by simp) ?_;intro g' cap' w2 hown hgrow hat hltg;have HB1:Hid (Below w.heap.size w w2):=(HB.out.trans ((below_alloc wr _).mono hsz.out)).grown hgrow (by have:=hsz.out;simp;omega) (own_base HO.out);have HO2:=hide hown;clear hgrow hat hltg hown)
      | (at_builtin;(refine wpList_append_own _ rfl _ _ _ rfl w.heap.size 5 i (.int .u8 0) 1 1 Tryz.underlying76 HI.out HZ.out.1 HZ.out.2.1 HZ.out.2.2 rfl (by omega) (.slice (some ⟨g',0,none⟩) (m.length+1) cap') (m.length+1) (m.map bv++[.int .u8 (l.length:Int)]) rfl HO2.out ⟨g,0,none⟩ l.length c (l.map bv) rfl (by simp) (fun j u hj=>src_cells HS.out HG.out HB1.out j u hj) (bv_one l) (by have:=HML.out;unfold maxLen;omega) (by have:=HML.out;omega) HB1.out.size ?_;intro v3 w3 hown hgrow hnil;have HB3:Hid (Below w.heap.size w w3):=HB1.out.grown hgrow (by have:=HB1.out.size;omega) (own_base HO2.out);have HO3:=hide hown;have HN3:Hid (v3≠ .slice none 0 0):=(fun e=>absurd (hnil.1 e).1 (by simp));clear hgrow hnil hown)))
     go_roundw
     case rel=>exact⟨k+1,by omega,by go_num,HB3.out,by rw [HSN.out.1,HSN.out.2];exact HO3.out,fun h=>by omega,fun _=>HN3.out,HA'.out⟩
     case measure=>simp [intOf];omega
   ·go_wp2_with fail
    go_ret
    have hk':ls.length=k:=by omega
    refine⟨_,rfl,HB.out,fun ho=>?_,fun ho=>?_⟩
    ·have:=HO.out
     rw [List.take_of_length_le (by omega)] at this
     refine⟨this,HN.out.2 ?_⟩
     rcases Nat.eq_zero_or_pos k with h | h
     ·rw [okB_none (by omega)] at ho;simp at ho
     ·exact h
    ·refine HN.out.1 ?_
     rcases Nat.eq_zero_or_pos k with h | h
     ·exact h
     ·rw [okB_mk (by omega) (by omega) (fun j hj=>HA.out j hj (by omega))] at ho
      simp at ho
theorem cells_piece {w:World}{B g cap:Nat}{es:List (List UInt8)}(h:OBs w B (.slice (some ⟨g,0,none⟩) es.length cap) es)(i n:Nat)(hn:i+n≤es.length)(a:Option Addr)(c:Nat)(ha:0 < n→a=some ⟨g,i,none⟩)(hc:n≤c):CellsAt w (.slice a n c) ((es.drop i).take n):=by
 obtain⟨xs,ho,hx⟩:=h
 have hl:((es.drop i).take n).length=n:=by simp;omega
 refine⟨a,c,by rw [hl],fun j hj=>?_⟩
 rw [hl] at hj
 obtain⟨x,e,hob⟩:=hx (i+j) (by omega)
 obtain⟨gx,cx,rfl,-,-,hcs⟩:=hob.form
 have hce:=ho.cells rfl _ _ e
 rw [Addr.add_mid,Nat.zero_add] at hce
 refine⟨g,i,ha (by omega),by rw [hl];exact hc,gx,cx,?_,?_⟩
 ·rw [List.getElem_take,List.getElem_drop]
  exact hce
 ·intro q hq
  simp only [List.getElem_take,List.getElem_drop] at hq ⊢
  exact hcs q hq
theorem OB.bq {w:World}{B:Nat}{x:Value}{l:List UInt8}(h:OB w B x l):Bq w x l:=by
 rcases h.1.2 with h0 | ⟨g,cap,cur,rfl,hB,hg,hn,hm,hs,ht⟩
 ·exact absurd h0.1 h.2
 ·refine⟨g,cap,cur,(0,0),rfl,hn,hg,fun i hi=>?_⟩
  have e:(l.map bv)[i]?=some (bv l[i]):=by simp [hi]
  rw [← ht,List.getElem?_take,if_pos (by omega)] at e
  simpa using e
theorem flat_bun (es:List (List UInt8))(i n:Nat)(h:i+n≤es.length):((List.range' i n).map (dataF es (-1))).flatten=bunL ((es.drop i).take n):=by
 induction n with
 | zero=>simp [bunL]
 | succ n ih =>
  have hi:=ih (by omega)
  rw [List.range'_1_concat,List.map_append,List.flatten_append,hi]
  have e:(es.drop i).take (n+1)=(es.drop i).take n++[es[i+n]]:=by
   rw [List.take_add_one,List.getElem?_drop,List.getElem?_eq_getElem (by omega)]
   rfl
  rw [e,bunL_append,bunL_one]
  congr 1
  simp [dataF,List.getElem?_eq_getElem (show i+n < es.length by omega)]
theorem okB_piece (es:List (List UInt8))(i n:Nat)(h:i+n≤es.length)(h1:1≤n)(h4:n≤4)(h20:∀ e∈es,e.length≤20):okB ((es.drop i).take n)=true:=by
 refine okB_mk (by simp;omega) (by simp;omega) (fun j hj=>?_)
 rw [List.getElem_take,List.getElem_drop]
 exact h20 _ (List.getElem_mem _)
theorem fileB_any (O:Nat→Prop)(db lb:Nat)(l:Lg)(w:World)(he:l.es.length≤1000000)(h20:∀ e∈l.es,e.length≤20)(h:LogAt w O db lb l)(i n:Nat)(hin:i+n≤l.es.length)(h1:1≤n)(h4:n≤4):
  Calls Tryz.prog 124 #[.pointer (some ⟨lb,0,none⟩),.int .i64 (-1),.int .i64 i,.int .i64 ((i+n:Nat):Int)] w fun r w'=>∃ v,r= .returned v∧Below w.heap.size w w'∧Bq w' v (((List.range' i n).map (dataF l.es (-1))).flatten):=by
 obtain⟨a,cap,hb,hes,-⟩:=lok h
 obtain⟨-,-,⟨c2,f2⟩,-⟩:=lall hb
 obtain⟨g,rfl,-⟩:=obs_block hes (by omega)
 have hcap:=obs_cap hes
 have HES:=hide hes
 have H20:=hide h20
 have HFL:=hide (flat_bun l.es i n hin)
 have HOK:=hide (okB_piece l.es i n hin h1 h4 h20)
 clear h hb hes h20 f2
 have hci:¬ cap=i:=by omega
 have hj1:(i:Int)≤((i+n:Nat):Int):=by omega
 have hj2:((i+n:Nat):Int)≤(cap:Int):=by omega
 go_enter Tryz.func124,Tryz.ntmps124
 go_wp2_with fail
 refine(bundleOff_any (.slice (some ⟨g,i,none⟩) n (cap - i)) ((l.es.drop i).take n) w (by simp;omega) (fun e he'=>Nat.le_trans (H20.out e (List.mem_of_mem_drop (List.mem_of_mem_take he'))) (by unfold maxLen;omega)) (cells_piece HES.out i n hin _ _ (fun _=>rfl) (by omega))).mono ?_
 rintro r w1 ⟨x,rfl,hb1,hok,-⟩
 have HB1:=hide hb1
 have HOB:=hide (hok HOK.out)
 obtain⟨gx,cx,nx,rfl⟩:=ob_shape (hok HOK.out)
 clear hb1 hok
 go_wp2_with fail
 go_ret
 exact⟨_,rfl,HB1.out,by rw [HFL.out];exact HOB.out.bq⟩
theorem cells8 {w:World}{g:Nat}{a0 a1 a2 a3 a4 a5 a6 a7:Value}{t:TypeId}{fr:Nat×Nat}(h:w.heap[g]?=some (.cells #[a0,a1,a2,a3,a4,a5,a6,a7] t fr)):
  w.cell? ⟨g,0,none⟩=some a0∧w.cell? ⟨g,1,none⟩=some a1∧w.cell? ⟨g,2,none⟩=some a2∧w.cell? ⟨g,3,none⟩=some a3∧w.cell? ⟨g,4,none⟩=some a4∧w.cell? ⟨g,5,none⟩=some a5∧w.cell? ⟨g,6,none⟩=some a6∧w.cell? ⟨g,7,none⟩=some a7:=by
 refine⟨?_,?_,?_,?_,?_,?_,?_,?_⟩<;>rw [cell_of_row _ _ _ _ _ _ h]<;>rfl
theorem eight_set {w:World}{b:Nat}{t:TypeId}{a0 a1 a2 a3 a4 a5 a6 a7:Value}(v0 v1 v2 v3 v4 v5 v6 v7:Value)(h:w.heap[b]?=some (.cells #[a0,a1,a2,a3,a4,a5,a6,a7] t (0,0))):((((((((w.setCell ⟨b,0,none⟩ v0).setCell ⟨b,1,none⟩ v1).setCell ⟨b,2,none⟩ v2).setCell ⟨b,3,none⟩ v3).setCell ⟨b,4,none⟩ v4).setCell ⟨b,5,none⟩ v5).setCell ⟨b,6,none⟩ v6).setCell ⟨b,7,none⟩ v7).heap[b]?=some (.cells #[v0,v1,v2,v3,v4,v5,v6,v7] t (0,0)):=by
 have e0:(w.setCell ⟨b,0,none⟩ v0).heap[b]?=some (.cells #[v0,a1,a2,a3,a4,a5,a6,a7] t (0,0)):=dset h 0 v0
 have e1:((w.setCell ⟨b,0,none⟩ v0).setCell ⟨b,1,none⟩ v1).heap[b]?=some (.cells #[v0,v1,a2,a3,a4,a5,a6,a7] t (0,0)):=dset e0 1 v1
 have e2:(((w.setCell ⟨b,0,none⟩ v0).setCell ⟨b,1,none⟩ v1).setCell ⟨b,2,none⟩ v2).heap[b]?=some (.cells #[v0,v1,v2,a3,a4,a5,a6,a7] t (0,0)):=dset e1 2 v2
 have e3:((((w.setCell ⟨b,0,none⟩ v0).setCell ⟨b,1,none⟩ v1).setCell ⟨b,2,none⟩ v2).setCell ⟨b,3,none⟩ v3).heap[b]?=some (.cells #[v0,v1,v2,v3,a4,a5,a6,a7] t (0,0)):=dset e2 3 v3
 have e4:(((((w.setCell ⟨b,0,none⟩ v0).setCell ⟨b,1,none⟩ v1).setCell ⟨b,2,none⟩ v2).setCell ⟨b,3,none⟩ v3).setCell ⟨b,4,none⟩ v4).heap[b]?=some (.cells #[v0,v1,v2,v3,v4,a5,a6,a7] t (0,0)):=dset e3 4 v4
 have e5:((((((w.setCell ⟨b,0,none⟩ v0).setCell ⟨b,1,none⟩ v1).setCell ⟨b,2,none⟩ v2).setCell ⟨b,3,none⟩ v3).setCell ⟨b,4,none⟩ v4).setCell ⟨b,5,none⟩ v5).heap[b]?=some (.cells #[v0,v1,v2,v3,v4,v5,a6,a7] t (0,0)):=dset e4 5 v5
 have e6:(((((((w.setCell ⟨b,0,none⟩ v0).setCell ⟨b,1,none⟩ v1).setCell ⟨b,2,none⟩ v2).setCell ⟨b,3,none⟩ v3).setCell ⟨b,4,none⟩ v4).setCell ⟨b,5,none⟩ v5).setCell ⟨b,6,none⟩ v6).heap[b]?=some (.cells #[v0,v1,v2,v3,v4,v5,v6,a7] t (0,0)):=dset e5 6 v6
 have e7:((((((((w.setCell ⟨b,0,none⟩ v0).setCell ⟨b,1,none⟩ v1).setCell ⟨b,2,none⟩ v2).setCell ⟨b,3,none⟩ v3).setCell ⟨b,4,none⟩ v4).setCell ⟨b,5,none⟩ v5).setCell ⟨b,6,none⟩ v6).setCell ⟨b,7,none⟩ v7).heap[b]?=some (.cells #[v0,v1,v2,v3,v4,v5,v6,v7] t (0,0)):=dset e6 7 v7
 exact e7
theorem eight_below {B b:Nat}{a w:World}(h:Below B a w)(hb:B≤b)(v0 v1 v2 v3 v4 v5 v6 v7:Value):Below B a ((((((((w.setCell ⟨b,0,none⟩ v0).setCell ⟨b,1,none⟩ v1).setCell ⟨b,2,none⟩ v2).setCell ⟨b,3,none⟩ v3).setCell ⟨b,4,none⟩ v4).setCell ⟨b,5,none⟩ v5).setCell ⟨b,6,none⟩ v6).setCell ⟨b,7,none⟩ v7) :=
 h|>.setCell (p:=⟨b,0,none⟩) hb v0|>.setCell (p:=⟨b,1,none⟩) hb v1|>.setCell (p:=⟨b,2,none⟩) hb v2|>.setCell (p:=⟨b,3,none⟩) hb v3|>.setCell (p:=⟨b,4,none⟩) hb v4|>.setCell (p:=⟨b,5,none⟩) hb v5|>.setCell (p:=⟨b,6,none⟩) hb v6|>.setCell (p:=⟨b,7,none⟩) hb v7
theorem firstOf_int (l:Int)(h1:0≤l)(h2:l≤20)(x:Int)(hx:0≤x)(P:Nat)(hP:P=4 ^ l.toNat)(hn:x.toNat*P≤1000000)(w:World):
  Calls Tryz.prog 165 #[.int .i64 l,.int .i64 x] w fun r w'=>r= .returned (.int .i64 ((x.toNat*P:Nat):Int))∧w'=w:=by
 subst hP
 have:=firstOf_any l h1 h2 x.toNat hn w
 rw [Int.toNat_of_nonneg hx] at this
 exact this
theorem fileT_any (O:Nat→Prop)(db lb:Nat)(l:Lg)(w:World)(he:l.es.length≤1000000)(h20:∀ e∈l.es,e.length≤20)(h:LogAt w O db lb l)(L:Nat)(hL:L≤20)(i n:Nat)(hin:(i+n)*4 ^ L≤l.es.length)(h1:1≤n)(h4:n≤4):
  Calls Tryz.prog 124 #[.pointer (some ⟨lb,0,none⟩),.int .i64 L,.int .i64 i,.int .i64 ((i+n:Nat):Int)] w fun r w'=>∃ v,r= .returned v∧Below w.heap.size w w'∧Bq w' v (((List.range' i n).map (dataF l.es L)).flatten):=by
 obtain⟨a,cap,hb,hes,-⟩:=lok h
 obtain⟨-,-,⟨c2,f2⟩,-⟩:=lall hb
 have hlt:=heap_some_lt hb
 obtain⟨P,hP⟩:∃ P,P=4 ^ L:=⟨_,rfl⟩
 have hP1:1≤P:=by rw [hP];exact Nat.pow_pos (by omega)
 rw [← hP] at hin
 have hPm:1*P≤(i+n)*P:=Nat.mul_le_mul_right _ (by omega)
 obtain⟨g,rfl,-⟩:=obs_block hes (by omega)
 have hcap:=obs_cap hes
 have HES:=hide hes
 have H20:=hide h20
 have HP:=hide hP
 obtain⟨ti,hti,hti'⟩:=Option.map_eq_some_iff.1 infoByte
 obtain⟨hz0,hz1,hz2⟩:ti.zero=some (.int .u8 0)∧ti.size=1∧ti.bytes=1:=by simpa using hti'
 have HI:=hide hti
 have HZ:=hide (And.intro hz0 (And.intro hz1 hz2))
 clear h hb hes h20 f2 hP hti hti' hz0 hz1 hz2
 have hneg:((L:Int)==-1)=false:=by rw [beq_eq_false_iff_ne];omega
 go_enter Tryz.func124,Tryz.ntmps124
 go_wp2_with fail
 go_loopg [9,10,11] (n+1) (fun gg t j _ wr=>∃ k:Nat,k≤n∧n+1 - k≤gg∧j= .int .i64 ((i+k:Nat):Int)∧Below w.heap.size w wr∧wr.ownsRow w.heap.size 5 1 t (((List.range' i k).map (dataF l.es L)).flatten).length ((((List.range' i k).map (dataF l.es L)).flatten).map bv)∧(((List.range' i k).map (dataF l.es L)).flatten).length=8*k∧(0 < k→t≠ .slice none 0 0))
 case atStart=>exact⟨0,Nat.zero_le _,by omega,by simp,Below.refl _ _,⟨rfl,.inl ⟨rfl,rfl⟩⟩,by simp,fun h=>absurd h (Nat.lt_irrefl _)⟩
 case round =>
  obtain⟨k,hk,hgg,rfl,hbe,hown,hlen,hnn⟩:=hrel
  have HB:=hide hbe
  have HO:=hide hown
  have HLN:=hide hlen
  have HNN:=hide hnn
  clear hbe hown hlen hnn
  by_cases hkn:k < n
  ·have hlt2:((i+k:Nat):Int) < ((i+n:Nat):Int):=by omega
   have hmul:(i+k+1)*P≤(i+n)*P:=Nat.mul_le_mul_right _ (by omega)
   have hms:(i+k+1)*P=(i+k)*P+P:=by rw [Nat.add_mul,Nat.one_mul]
   obtain⟨r0,r1,r2,r3,r4,r5,r6,r7,hR⟩:=hv8 (rootF P ((l.es.drop ((i+k)*P)).take P)) (rootF_length _ _)
   have hR':hv (rootF P ((l.es.drop ((i+k)*P)).take P))=#[.int .u8 r0.toNat,.int .u8 r1.toNat,.int .u8 r2.toNat,.int .u8 r3.toNat,.int .u8 r4.toNat,.int .u8 r5.toNat,.int .u8 r6.toNat,.int .u8 r7.toNat]:=by rw [hR];rfl
   have HR:=hide hR
   have HR':=hide hR'
   have HDT:Hid (dataF l.es L (i+k)=[r0,r1,r2,r3,r4,r5,r6,r7]):=by
    show dataF l.es L (i+k)=_
    unfold dataF
    rw [if_neg (by omega),Int.toNat_natCast,← HP.out]
    unfold rootT
    rw [show(List.take P (List.drop ((i+k)*P) l.es)).length=P by simp;omega]
    exact hR
   have m2:wr.cell? ⟨lb,2,none⟩=some (.slice (some ⟨g,0,none⟩) l.es.length cap):=by rw [HB.out.cell (p:=⟨lb,2,none⟩) hlt];exact c2
   have HMS:=hide hms
   have hci:¬ cap=(i+k)*P:=by omega
   have hq1:(i+k)*P≤(i+k+1)*P:=by omega
   have hq2:(i+k+1)*P≤cap:=by omega
   have hq3:(i+k+1)*P≤1000000:=by omega
   have hq4:(i+k)*P≤1000000:=by omega
   have hq5:(i+k+1)*P≤l.es.length:=by omega
   clear hR hR' hmul hms
   have hf1:∀ X,Calls Tryz.prog 165 #[.int .i64 (L:Int),.int .i64 ((i+k:Nat):Int)] X fun r w'=>r= .returned (.int .i64 (((i+k)*P:Nat):Int))∧w'=X:=fun X=>by
    have:=firstOf_int L (by omega) (by omega) ((i+k:Nat):Int) (by omega) P (by rw [HP.out];simp) (by rw [Int.toNat_natCast];exact hq4) X
    rw [Int.toNat_natCast] at this
    exact this
   have hf2:∀ X,Calls Tryz.prog 165 #[.int .i64 (L:Int),.int .i64 (((i+k:Nat):Int)+1)] X fun r w'=>r= .returned (.int .i64 (((i+k+1)*P:Nat):Int))∧w'=X:=fun X=>by
    have:=firstOf_int L (by omega) (by omega) (((i+k:Nat):Int)+1) (by omega) P (by rw [HP.out];simp) (by rw [show(((i+k:Nat):Int)+1).toNat=i+k+1 by omega];exact hq3) X
    rw [show(((i+k:Nat):Int)+1).toNat=i+k+1 by omega] at this
    exact this
   generalize hA:(i+k)*P=A at *
   generalize hBB:(i+k+1)*P=A' at *
   generalize hJ:i+k=J at *
   have HA:=hide (And.intro hA hBB)
   have HJ:=hide hJ
   have HF1:=hide hf1
   have HF2:=hide hf2
   clear hA hBB hJ hf1 hf2
   have hJb:J≤2000000:=by
    have:=HJ.out
    have hh:(i+n)*1≤(i+n)*P:=Nat.mul_le_mul_left _ hP1
    omega
   have hd0:Hid (Below wr.heap.size wr wr.drew):=(Below.refl _ _).drew
   have hd1:Hid (∀ o,Below wr.heap.size wr (wr.alloc o).drew):=fun o=>(below_alloc _ _).drew
   have HRA:Hid (∀ X,Below wr.heap.size wr X→Calls Tryz.prog 51 #[.slice (some ⟨g,A,none⟩) (A' - A) (cap - A)] X fun r w'=>r= .returned (.agg #[.int .u8 (r0.toNat:Int),.int .u8 (r1.toNat:Int),.int .u8 (r2.toNat:Int),.int .u8 (r3.toNat:Int),.int .u8 (r4.toNat:Int),.int .u8 (r5.toNat:Int),.int .u8 (r6.toNat:Int),.int .u8 (r7.toNat:Int)])∧Below X.heap.size X w'):=fun X hX=>by
    have hp:=root_any P (.slice (some ⟨g,A,none⟩) (A' - A) (cap - A)) ((l.es.drop A).take P) X (by simp;omega) (by have:=HMS.out;simp;omega) (fun e he'=>Nat.le_trans (H20.out e (List.mem_of_mem_drop (List.mem_of_mem_take he'))) (by unfold maxLen;omega)) (by
     have hbs:=((HES.out.bss'.below HB.out).below hX).drop A (by omega)
     have h2:=hbs.take (A' - A) (by rw [List.length_drop];omega)
     rw [show A' - A=P by have:=HMS.out;omega] at h2 ⊢
     rw [Nat.zero_add] at h2
     exact h2)
    rw [HR'.out] at hp
    exact hp
   go_wp2_with fail
   go_cut [11] from 23 to 43 (fun s11 wx=>∃ Bh,s11= .pointer (some ⟨Bh,0,none⟩)∧wx.heap[Bh]?=some (.cells #[.int .u8 (r0.toNat:Int),.int .u8 (r1.toNat:Int),.int .u8 (r2.toNat:Int),.int .u8 (r3.toNat:Int),.int .u8 (r4.toNat:Int),.int .u8 (r5.toNat:Int),.int .u8 (r6.toNat:Int),.int .u8 (r7.toNat:Int)] 91 (0,0))∧wr.heap.size≤Bh∧Below wr.heap.size wr wx)
   case first =>
    have hx1:¬ lb=wr.heap.size:=by have:=cell_lt m2;simp only at this;omega
    have hx2:¬ wr.heap.size=lb:=by omega
    have c6:IntKind.i64.wrap ((J:Int)+1)=(J:Int)+1:=by rw [IntKind.wrap_i64];omega
    go_region_held3 (fun X=>X.cell? ⟨lb,2,none⟩=some (.slice (some ⟨g,0,none⟩) l.es.length cap)) (go_keep) (first
     | (go_at_call_of 165 (Value.int .i64 (J:Int));refine(HF1.out _).mono ?_;rintro r w' ⟨rfl,rfl⟩)
     | (go_at_call 165;refine(HF2.out _).mono ?_;rintro r w' ⟨rfl,rfl⟩)
     | (go_at_call 51;refine(HRA.out wr.drew hd0.out).mono ?_;rintro r w2 ⟨rfl,hb2⟩;have hbb:Below wr.heap.size wr w2:=hd0.out.trans (hb2.mono hd0.out.size);have q2:w2.cell? ⟨lb,2,none⟩=some (.slice (some ⟨g,0,none⟩) l.es.length cap):=(by rw [hbb.cell (p:=⟨lb,2,none⟩) (cell_lt m2)];exact m2);have HB2:=hide hbb;clear hb2 hbb)
     | (go_at_call 51;refine(HRA.out (wr.alloc (.cells #[.int .u8 0,.int .u8 0,.int .u8 0,.int .u8 0,.int .u8 0,.int .u8 0,.int .u8 0,.int .u8 0] 91)).drew (hd1.out _)).mono ?_;rintro r w2 ⟨rfl,hb2⟩;have hbb:Below wr.heap.size wr w2:=(hd1.out _).trans (hb2.mono (hd1.out _).size);have q2:w2.cell? ⟨lb,2,none⟩=some (.slice (some ⟨g,0,none⟩) l.es.length cap):=(by rw [hbb.cell (p:=⟨lb,2,none⟩) (cell_lt m2)];exact m2);have hnw:w2.heap[wr.heap.size]?=some (.cells #[.int .u8 0,.int .u8 0,.int .u8 0,.int .u8 0,.int .u8 0,.int .u8 0,.int .u8 0,.int .u8 0] 91 (0,0)):=(by rw [hb2.block _ (by show wr.heap.size < (wr.heap.push _).size;simp)];exact heap_alloc_last wr _);obtain⟨x0,x1,x2,x3,x4,x5,x6,x7⟩:=cells8 hnw;have xz:=frozen9 hnw;have HNW:=hide hnw;have HB2:=hide hbb;clear hb2 hbb hnw))
    all_goals go_wp2_with fail
    all_goals go_meet
    all_goals first
     | (have hN:=HNW.out;exact⟨wr.heap.size,rfl,eight_set (.int .u8 (r0.toNat:Int)) (.int .u8 (r1.toNat:Int)) (.int .u8 (r2.toNat:Int)) (.int .u8 (r3.toNat:Int)) (.int .u8 (r4.toNat:Int)) (.int .u8 (r5.toNat:Int)) (.int .u8 (r6.toNat:Int)) (.int .u8 (r7.toNat:Int)) hN,Nat.le_refl _,eight_below HB2.out (Nat.le_refl _) (.int .u8 (r0.toNat:Int)) (.int .u8 (r1.toNat:Int)) (.int .u8 (r2.toNat:Int)) (.int .u8 (r3.toNat:Int)) (.int .u8 (r4.toNat:Int)) (.int .u8 (r5.toNat:Int)) (.int .u8 (r6.toNat:Int)) (.int .u8 (r7.toNat:Int))⟩)
     | exact⟨w2.heap.size,rfl,heap_alloc_last _ _,HB2.out.size,HB2.out.alloc HB2.out.size _⟩
   case rest =>
    obtain⟨Bh,rfl,hB,hB1,hbx⟩:=hcut
    have HBX:=hide hbx
    have HBH:=hide hB
    have HO1:Hid (wc.ownsRow w.heap.size 5 1 u9 (((List.range' i k).map (dataF l.es L)).flatten).length ((((List.range' i k).map (dataF l.es L)).flatten).map bv)):=ownsRow_below HO.out hbx
    have hflat:Hid (((List.range' i (k+1)).map (dataF l.es L)).flatten=((List.range' i k).map (dataF l.es L)).flatten++[r0,r1,r2,r3,r4,r5,r6,r7]):=by
     show _=_
     rw [List.range'_1_concat,List.map_append,List.flatten_append,List.map_singleton,HJ.out,HDT.out]
     simp
    have hnw:Hid (∀ j u,([.int .u8 (r0.toNat:Int),.int .u8 (r1.toNat:Int),.int .u8 (r2.toNat:Int),.int .u8 (r3.toNat:Int),.int .u8 (r4.toNat:Int),.int .u8 (r5.toNat:Int),.int .u8 (r6.toNat:Int),.int .u8 (r7.toNat:Int)]:List Value)[j]?=some u→wc.cell? ((⟨Bh,0,none⟩:Addr).add j)=some u):=fun j u hj=>by
     rw [Addr.add_mid,Nat.zero_add,cell_of_row _ _ _ _ _ _ HBH.out]
     simpa using hj
    have hlk:(((List.range' i k).map (dataF l.es L)).flatten).length≤32:=by have:=HLN.out;omega
    have hsz:Hid (w.heap.size≤wc.heap.size):=Nat.le_trans HB.out.size hbx.size
    clear hbx hB m2
    generalize hff:((List.range' i k).map (dataF l.es L)).flatten=ff at *
    clear hff
    go_wp2_with (at_builtin;refine wpList_append_lies _ rfl _ _ _ rfl w.heap.size 5 ti (.int .u8 0) 1 1 Tryz.underlying76 HI.out HZ.out.1 HZ.out.2.1 HZ.out.2.2 rfl (by omega) u9 ff.length (ff.map bv) rfl HO1.out ⟨Bh,0,none⟩ 8 8 [.int .u8 (r0.toNat:Int),.int .u8 (r1.toNat:Int),.int .u8 (r2.toNat:Int),.int .u8 (r3.toNat:Int),.int .u8 (r4.toNat:Int),.int .u8 (r5.toNat:Int),.int .u8 (r6.toNat:Int),.int .u8 (r7.toNat:Int)] rfl rfl hnw.out (by simp [Value.oneCell']) (by omega) (by unfold maxLen;omega) (by omega) (hsz.out) wc.heap.size rfl ?_;intro g5 cap5 w5 hown hgrow hat hltg;have HOW:=hide hown;have HGR:=hide hgrow;clear hown hgrow hat hltg)
    go_roundg (gk - 1)
    case rel =>
     have hfl:=hflat.out
     refine⟨k+1,by omega,by omega,by congr 1;have:=HJ.out;omega,((HB.out.trans (HBX.out.mono HB.out.size)).grown HGR.out hsz.out (own_base HO1.out)),?_,?_,fun _ h=>by simp at h⟩
     ·rw [hfl,List.length_append,List.map_append]
      exact HOW.out
     ·rw [hfl,List.length_append,HLN.out]
      simp
      omega
    case measure=>omega
  ·obtain rfl:k=n:=by omega
   go_wp2_with fail
   go_ret
   exact⟨_,rfl,HB.out,(show OB wr w.heap.size _ _ from ⟨HO.out,HNN.out (by omega)⟩).bq⟩
end
section
set_option maxHeartbeats 1000000
open Go.RowKit
set_option maxRecDepth 100000
attribute [local go_sem ↓] loadM_fold storeM_fold loadP_fold storeP_fold buildP_fold buildF_fold loadH_fold storeH_fold
def EntIs (w:World)(v:Value)(l:List UInt8):Prop:=(v=nilS∧l=[])∨Bq w v l
structure PxIs (w:World)(x:Px)(p:Pc):Prop where
 there:x.there=p.there
 fits:x.fits=p.fits
 hash:x.hash=p.hash
 ent:EntIs w x.ent p.entry
def FxIs (w:World)(xs:List Px)(f:Fl):Prop:=xs.length=4∧f.length=4∧∀ k,k < 4→PxIs w (xs.getD k .no) (f.getD k .no)
theorem EntIs.turn {w w':World}{O:Nat→Prop}{T:List Nat}{v:Value}{l:List UInt8}(h:EntIs w v l)(ht:Turn O T w w')(hT:5∉T):EntIs w' v l:=by
 rcases h with h | h
 ·exact .inl h
 ·exact .inr (h.turn ht hT)
theorem PxIs.turn {w w':World}{O:Nat→Prop}{T:List Nat}{x:Px}{p:Pc}(h:PxIs w x p)(ht:Turn O T w w')(hT:5∉T):PxIs w' x p:=⟨h.there,h.fits,h.hash,h.ent.turn ht hT⟩
theorem FxIs.turn {w w':World}{O:Nat→Prop}{T:List Nat}{xs:List Px}{f:Fl}(h:FxIs w xs f)(ht:Turn O T w w')(hT:5∉T):FxIs w' xs f:=⟨h.1,h.2.1,fun k hk=>(h.2.2 k hk).turn ht hT⟩
theorem FxIs.below {w w':World}{xs:List Px}{f:Fl}(h:FxIs w xs f)(hb:Below w.heap.size w w'):FxIs w' xs f:=h.turn (O:=fun _=>False) (T:=[]) (.of_below hb) (by simp)
theorem PxIs.none (w:World):PxIs w .no .no:=⟨rfl,rfl,rfl,.inl ⟨rfl,rfl⟩⟩
theorem FxIs.none (w:World):FxIs w Fx.no Fl.no:=⟨rfl,rfl,fun k hk=>by
 match k,hk with
 | 0,_=>exact PxIs.none w
 | 1,_=>exact PxIs.none w
 | 2,_=>exact PxIs.none w
 | 3,_=>exact PxIs.none w⟩
theorem map4_getD {α:Type}(f:Nat→α)(z:α){k:Nat}(hk:k < 4):((List.range 4).map f).getD k z=f k:=by
 match k,hk with
 | 0,_=>rfl
 | 1,_=>rfl
 | 2,_=>rfl
 | 3,_=>rfl
theorem tilX_is (w:World)(n:Nat)(d:List UInt8):FxIs w (tilX n d) (tileFl n d):=by
 refine⟨by simp [tilX],by simp [tileFl],fun k hk=>?_⟩
 unfold tilX tileFl
 rw [map4_getD _ _ hk,map4_getD _ _ hk]
 by_cases h:k < n
 ·rw [if_pos h,if_pos h];exact⟨rfl,rfl,rfl,.inl ⟨rfl,rfl⟩⟩
 ·rw [if_neg h,if_neg h];exact PxIs.none w
theorem bunX_is {w:World}{B:Nat}{es:List (List UInt8)}{vs:List Value}(h:∀ j (hj:j < es.length),OB w B (vs.getD j nilS) es[j]):FxIs w (bunX es.length es vs) (bunFl es):=by
 refine⟨by simp [bunX],by simp [bunFl],fun k hk=>?_⟩
 unfold bunX bunFl
 rw [map4_getD _ _ hk,map4_getD _ _ hk]
 by_cases hl:k < es.length
 ·rw [if_pos hl,if_pos hl]
  refine⟨rfl,rfl,rfl,.inr ?_⟩
  have:es.getD k []=es[k]:=by rw [List.getD_eq_getElem?_getD,List.getElem?_eq_getElem hl];rfl
  show Bq w _ (es.getD k [])
  rw [this]
  exact(h k hl).bq
 ·rw [if_neg hl,if_neg hl];exact PxIs.none w
theorem bunD_read (x:Option (List UInt8))(n:Nat):readF (-1) n (x.getD [])=(bunD x n).map bunFl:=by
 unfold readF bunD
 rw [if_pos rfl]
 cases x with
 | none=>rfl
 | some d =>
  simp only [Option.getD_some]
  cases unbF d with
  | none=>rfl
  | some es =>
   simp only
   by_cases h:es.length=n
   ·rw [if_pos h,if_pos (by rw [h])];rfl
   ·rw [if_neg h,if_neg (by omega)];rfl
theorem readTile_no (n:Nat)(hn:n≤4)(a:Option Addr)(len cap:Nat)(hd:len≠8*n)(w:World):
  Calls Tryz.prog 210 #[.int .i64 n,.slice a len cap] w fun r w'=>r= .returned (.tuple #[.agg (fcs Fx.no).toArray,.bool false])∧Below w.heap.size w w':=by
 have hne:((len:Int) != (n:Int)*8)=true:=by simp;omega
 have hbf:=buildF_no (w.alloc (.cells noVA TFile))
 have H0:Hid (Below w.heap.size w (w.alloc (.cells noVA TFile))∧FileAt (w.alloc (.cells noVA TFile)) w.heap.size Fx.no):=⟨below_alloc _ _,heap_alloc_last _ _⟩
 rw [noV_fcs] at hbf
 go_enter Tryz.func210,Tryz.ntmps210
 have hst:=storeM_of (file_there H0.out.2 Fx.no_ok) Fx.no_ok.len (fcs_one Fx.no_ok.2)
 have HW:=hide (file_whole H0.out.2 Fx.no_ok Fx.no_ok)
 have HB:=hide (below_setCells H0.out.1 (Nat.le_refl w.heap.size) (fcs Fx.no) 0)
 go_wp2_with fail
 exact bodyPost_ret (v:= .tuple #[.agg (fcs Fx.no).toArray,.bool false]) (results_cell_tmp Tryz.results210 _ _ w.heap.size TFile _ (0,0) _ rfl HW.out Tryz.underlying130 rfl (by rw [infoFil,List.size_toArray,Fx.no_ok.len]) _ rfl) rfl ⟨rfl,HB.out⟩
def CameX (w':World)(o:Option Fl)(r:Ending):Prop :=
 (∃ xs f,o=some f∧FOk xs∧FxIs w' xs f∧r= .returned (.tuple #[.agg (fcs xs).toArray,.bool true]))∨(o=none∧∃ xs,FOk xs∧r= .returned (.tuple #[.agg (fcs xs).toArray,.bool false]))
theorem readTile_any (n:Nat)(hn0:0 < n)(hn:n≤4)(l:Int)(hl:l≠-1)(v:Value)(x:Option (List UInt8))(w:World)(h:GotV w v x):
  Calls Tryz.prog 210 #[.int .i64 n,v] w fun r w'=>Below w.heap.size w w'∧CameX w' (readF l n (x.getD [])) r:=by
 rcases h with ⟨d,rfl,hq⟩ | ⟨rfl,rfl⟩
 ·by_cases hd:d.length=8*n
  ·refine(readTile_yes n hn hn0 v d hd w hq).mono ?_
   rintro r w' ⟨rfl,hb⟩
   refine⟨hb,.inl ⟨_,tileFl n d,?_,tilX_ok d (by omega),tilX_is _ _ _,rfl⟩⟩
   unfold readF
   rw [if_neg hl,Option.getD_some,if_pos (by omega)]
   rfl
  ·obtain⟨g,cap,C,fr,rfl,-⟩:=hq
   refine(readTile_no n hn _ _ _ hd w).mono ?_
   rintro r w' ⟨rfl,hb⟩
   refine⟨hb,.inr ⟨?_,_,Fx.no_ok,rfl⟩⟩
   unfold readF
   rw [if_neg hl,Option.getD_some,if_neg (by omega)]
 ·refine(readTile_no n hn _ _ _ (by omega) w).mono ?_
  rintro r w' ⟨rfl,hb⟩
  refine⟨hb,.inr ⟨?_,_,Fx.no_ok,rfl⟩⟩
  unfold readF
  rw [if_neg hl,Option.getD_none,if_neg (by simp;omega)]
theorem readBun_any (n:Nat)(v:Value)(x:Option (List UInt8))(w:World)(h:GotV w v x):
  Calls Tryz.prog 209 #[.int .i64 n,v] w fun r w'=>Below w.heap.size w w'∧CameX w' (readF (-1) n (x.getD [])) r:=by
 refine(readBundle_any n v x w h).mono ?_
 rintro r w' ⟨hb,⟨es,vs,he,rfl,ho⟩ | ⟨he,rfl⟩⟩
 ·refine⟨hb,.inl ⟨_,bunFl es,by rw [bunD_read,he];rfl,bunX_ok es vs (fun j hj=>?_),bunX_is ho,rfl⟩⟩
  obtain⟨g,c,e,-⟩:=(ho j hj).form
  exact⟨_,_,_,e⟩
 ·exact⟨hb,.inr ⟨by rw [bunD_read,he];rfl,_,Fx.no_ok,rfl⟩⟩
end
end Go.Proofs.YtinhekmmdlhfkaaGreatDoor
