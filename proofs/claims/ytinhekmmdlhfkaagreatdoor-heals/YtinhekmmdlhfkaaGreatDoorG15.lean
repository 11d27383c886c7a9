import Derived.Test.YtinhekmmdlhfkaaGreatDoorG14
import Derived.Test.YtinhekmmdlhfkaaGreatDoorG08
import Derived.Laws.IdiomCopy
import Derived.Laws.BytesArg
import Derived.Test.YtinhekmmdlhfkaaGreatDoorG06
namespace Go.Proofs.YtinhekmmdlhfkaaGreatDoor
section
set_option maxHeartbeats 4000000
open Go.RowKit
set_option maxRecDepth 100000
attribute [local go_sem ↓] loadM_fold storeM_fold loadP_fold storeP_fold buildP_fold buildF_fold loadH_fold storeH_fold
theorem splice_mid (A B H E H':List Value)(h:H'.length=H.length):(A++(B++(H++E))).take (A.length+B.length)++(H'++(A++(B++(H++E))).drop (A.length+B.length+H'.length))=A++(B++(H'++E)):=by
 have e1:A++(B++(H++E))=(A++B)++(H++E):=by simp
 have e2:A++(B++(H++E))=(A++B++H)++E:=by simp
 have t:(A++(B++(H++E))).take (A.length+B.length)=A++B:=by
  rw [e1,show A.length+B.length=(A++B).length by simp,List.take_left]
 have d:(A++(B++(H++E))).drop (A.length+B.length+H'.length)=E:=by
  rw [e2,h,show A.length+B.length+H.length=(A++B++H).length by simp;omega,List.drop_left]
 rw [t,d]
 simp
theorem FileAt.setH {w:World}{fb:Nat}{xs:List Px}(h:FileAt w fb xs)(hx:∀ x∈xs,x.ok){k:Nat}(hk:k < xs.length){hs:List UInt8}(h8:hs.length=8):FileAt (w.setCells fb (k*11+2) (hs.map bv)) fb (xs.set k { xs[k] with hash:=hs }):=by
 have hl:=fcs_len hx
 have hxk:=hx _ (List.getElem_mem hk)
 have hp:({ xs[k] with hash:=hs }:Px).ok:=⟨h8,hxk.2⟩
 have hsplit:fcs xs=(fcs xs).take (k*11)++(xs[k].cs++(fcs xs).drop (k*11+11)):=by
  have:=fcs_set hx k hk xs[k] hxk
  rw [List.set_getElem_self] at this
  exact this
 have ht:((fcs xs).take (k*11)).length=k*11:=by simp;omega
 unfold FileAt
 rw [heap_setCells (hs.map bv) (k*11+2) h (by simp;omega),fcs_set hx k hk _ hp]
 have key:=splice_mid ((fcs xs).take (k*11)) [.bool xs[k].there,.bool xs[k].fits] (xs[k].hash.map bv) (xs[k].ent::(fcs xs).drop (k*11+11)) (hs.map bv) (by simp [h8,hxk.1])
 have e:(fcs xs).take (k*11)++([.bool xs[k].there,.bool xs[k].fits]++(xs[k].hash.map bv++(xs[k].ent::(fcs xs).drop (k*11+11))))=fcs xs:=by
  conv=>rhs;rw [hsplit]
  simp [Px.cs]
 rw [e,ht] at key
 have e2:(k*11+[Value.bool xs[k].there,Value.bool xs[k].fits].length)=k*11+2:=rfl
 rw [e2] at key
 rw [key]
 simp [Px.cs]
def nilS:Value:= .slice none 0 0
def tilX (k:Nat)(d:List UInt8):List Px:=(List.range 4).map fun j=>if j < k then ⟨true,false,(d.drop (8*j)).take 8,nilS⟩ else .no
theorem tilX_succ (d:List UInt8){k:Nat}(hk:k < 4):tilX (k+1) d=(tilX k d).set k ⟨true,false,(d.drop (8*k)).take 8,nilS⟩:=by
 match k,hk with
 | 0,_=>rfl
 | 1,_=>rfl
 | 2,_=>rfl
 | 3,_=>rfl
theorem tilX_at (d:List UInt8){k:Nat}(hk:k < 4):∃ h:k < (tilX k d).length,(tilX k d)[k]=Px.no:=by
 match k,hk with
 | 0,_=>exact⟨by simp [tilX],rfl⟩
 | 1,_=>exact⟨by simp [tilX],rfl⟩
 | 2,_=>exact⟨by simp [tilX],rfl⟩
 | 3,_=>exact⟨by simp [tilX],rfl⟩
theorem tilX_ok (d:List UInt8){k:Nat}(hd:8*k≤d.length):FOk (tilX k d):=by
 refine⟨by simp [tilX],fun x hx=>?_⟩
 obtain⟨j,-,rfl⟩:=List.mem_map.1 hx
 show Px.ok (if j < k then _ else _)
 split
 ·exact⟨by simp;omega,_,_,_,rfl⟩
 ·exact Px.no_ok
theorem infoU8:(Tryz.prog.info? 5).map (·.size)=some 1:=by kernel_rfl
theorem readTile_yes (n:Nat)(hn:n≤4)(hn0:0 < n)(v:Value)(d:List UInt8)(hd:d.length=8*n)(w:World)(h:Bq w v d):
  Calls Tryz.prog 210 #[.int .i64 n,v] w fun r w'=>r= .returned (.tuple #[.agg (fcs (tilX n d)).toArray,.bool true])∧Below w.heap.size w w':=by
 obtain⟨g,cap,C,fr,rfl,hcap,hg,hC⟩:=h
 have HG:=hide hg
 have HC:=hide hC
 have hgl:g < w.heap.size:=heap_some_lt hg
 have HD:=hide hd
 have hlen:((d.length:Int)==(n:Int)*8)=true:=by simp;omega
 clear hg hC
 rw [hd] at hcap hlen
 rw [hd]
 have hlen2:((8*(n:Int)) != (n:Int)*8)=false:=by simp;omega
 clear hd hlen
 go_enter Tryz.func210,Tryz.ntmps210
 go_wp2_with fail
 have H0:Hid (Below w.heap.size w (w.alloc (.cells noVA TFile))∧FileAt (w.alloc (.cells noVA TFile)) w.heap.size Fx.no):=⟨below_alloc _ _,heap_alloc_last _ _⟩
 generalize w.alloc (.cells noVA TFile)=W0 at *
 go_loopw [1,14] (fun dv i wr=>∃ k L cp off:Nat,k≤n∧i= .int .i64 k∧L=8*(n - k)∧L≤cp∧(k < n→off=8*k)∧dv= .slice (some ⟨g,off,none⟩) L cp∧Below w.heap.size w wr∧FileAt wr w.heap.size (tilX k d)) (fun _ i _=>n - (intOf i).toNat)
 case atStart=>exact⟨0,8*n,cap,0,by omega,rfl,by omega,hcap,fun _=>rfl,rfl,H0.out.1,H0.out.2⟩
 case round =>
  obtain⟨k,L,cp,off,hk,rfl,hL,hLc,hoff,rfl,ht,hf⟩:=hrel
  by_cases hlt:k < n
  ·replace hoff:=hoff hlt
   have hk4:k < 4:=by omega
   have hz:=tilX_ok d (k:=k) (by rw [HD.out];omega)
   obtain⟨hkl,hat⟩:=tilX_at d hk4
   have hL8:8≤L:=by omega
   have i0:(0:Int)≤(k:Int):=by omega
   have i1:(k:Int) < 4:=by omega
   have c0:wr.cell? ⟨w.heap.size,k*11,none⟩=some (.bool false):=(hf.cell hz.2 hkl (j:=0) (by omega) (by rw [hat];rfl)).1
   have f0:wr.frozen? ⟨w.heap.size,k*11,none⟩=false:=(hf.cell hz.2 hkl (j:=0) (by omega) (by rw [hat];rfl)).2
   have hh8:((d.drop (8*k)).take 8).length=8:=by simp;rw [HD.out];omega
   have hf1:FileAt (wr.setCell ⟨w.heap.size,k*11,none⟩ (.bool true)) w.heap.size ((tilX k d).set k { Px.no with there:=true }):=hf.set1 hz.2 hkl (j:=0) (v:= .bool true) (by omega) Px.no_ok (by rw [hat];rfl)
   have hz1:=set_ok hz.2 k (x:={ Px.no with there:=true }) Px.no_ok
   have hkl1:k < ((tilX k d).set k { Px.no with there:=true }).length:=by simpa using hkl
   have hf2:=hf1.setH hz1 hkl1 hh8
   rw [List.getElem_set_self,List.set_set] at hf2
   have hb1:Below w.heap.size w (wr.setCell ⟨w.heap.size,k*11,none⟩ (.bool true)):=ht.setCell (Nat.le_refl _) _
   have hcp:(Builtin.copy_ #[76,76] 3 #[.slice (some ⟨w.heap.size,k*11+2,none⟩) 8 8,.slice (some ⟨g,off,none⟩) L cp]).run Tryz.prog (wr.setCell ⟨w.heap.size,k*11,none⟩ (.bool true))= .ok (.int .i64 8) ((wr.setCell ⟨w.heap.size,k*11,none⟩ (.bool true)).setCells w.heap.size (k*11+2) (((d.drop (8*k)).take 8).map bv)):=by
    have hth:=hf1.there hz1 hkl1 (o:=2) (n:=8) (by omega)
    have:=run_copy_cells (P:=Tryz.prog) (wr.setCell ⟨w.heap.size,k*11,none⟩ (.bool true)) 76 76 3 5 w.heap.size (k*11+2) 8 8 ⟨g,off,none⟩ L cp (((d.drop (8*k)).take 8).map bv) Tryz.underlying76 infoU8
     (by rw [List.length_map,hh8];exact(Nat.min_eq_right hL8).symm) (fun j u hu=>by
      obtain⟨hj,rfl⟩:=List.getElem?_eq_some_iff.1 hu
      rw [List.length_map,hh8] at hj
      have hgw:=(hb1.block g hgl).trans HG.out
      have hi:off+j < d.length:=by rw [HD.out];omega
      have:=HC.out (off+j) hi
      rw [show(⟨g,off,none⟩:Addr).add j=⟨g,off+j,none⟩ by simp [Addr.add],cell_of_row _ _ _ _ _ _ hgw,this]
      simp [hoff]) (fun j hj=>(hth j (by rwa [List.length_map,hh8] at hj)).1) (fun j hj=>(hth j (by rwa [List.length_map,hh8] at hj)).2) (fun x hx=>by
       obtain⟨b,-,rfl⟩:=List.mem_map.1 hx;rfl)
    rw [List.length_map,hh8] at this
    exact this
   have HB2:=hide (below_setCells hb1 (Nat.le_refl _) (((d.drop (8*k)).take 8).map bv) (k*11+2))
   have HF2:Hid (FileAt ((wr.setCell ⟨w.heap.size,k*11,none⟩ (.bool true)).setCells w.heap.size (k*11+2) (((d.drop (8*k)).take 8).map bv)) w.heap.size (tilX (k+1) d)):=by
    show FileAt _ _ _
    rw [tilX_succ d hk4];exact hf2
   have HOF:=hide hoff
   have HLL:=hide hL
   clear hf2 hf1 hz1 hkl1 hb1 hat hkl hz hf ht hh8 hoff hL
   generalize ((d.drop (8*k)).take 8).map bv=cs at *
   go_wp2_with fail
   go_roundw
   case rel=>exact⟨k+1,L - 8,cp - 8,if cp=8 then off else off+8,by omega,by go_num,by rw [HLL.out];omega,by omega,fun h=>by have:=HLL.out;have:=HOF.out;rw [if_neg (by omega)];omega,by split<;>rfl,HB2.out,HF2.out⟩
   case measure=>simp [intOf];omega
  ·obtain rfl:k=n:=by omega
   have hok:=tilX_ok d (k:=k) (by rw [HD.out];omega)
   have hld:=loadM_of (range_row hf) hok.len
   have hst:=storeM_of (file_there hf hok) hok.len (fcs_one hok.2)
   have HW:=hide (file_whole hf hok hok)
   have HB:=hide (below_setCells ht (Nat.le_refl w.heap.size) (fcs (tilX k d)) 0)
   have HL:=hide hok.len
   clear hok ht hf
   go_wp2_with fail
   exact bodyPost_ret (v:= .tuple #[.agg (fcs (tilX k d)).toArray,.bool true]) (results_cell_tmp Tryz.results210 _ _ w.heap.size TFile _ (0,0) _ rfl HW.out Tryz.underlying130 rfl (by rw [infoFil,List.size_toArray,HL.out]) _ rfl) rfl ⟨rfl,HB.out⟩
end
section
set_option maxHeartbeats 4000000
open Go.RowKit
set_option maxRecDepth 100000
attribute [local go_sem ↓] loadM_fold storeM_fold loadP_fold storeP_fold buildP_fold buildF_fold loadH_fold storeH_fold
theorem OB.kept {w w':World}{B:Nat}{x:Value}{l:List UInt8}(h:OB w B x l)(hk:∀ k,B≤k→k < w.heap.size→w'.heap[k]?=w.heap[k]?):OB w' B x l:=by
 refine⟨⟨h.1.1,?_⟩,h.2⟩
 rcases h.1.2 with h0 | ⟨g,cap,cur,rfl,hB,hg,r⟩
 ·exact .inl h0
 ·exact .inr ⟨g,cap,cur,rfl,hB,by rw [hk g hB (heap_lt hg)];exact hg,r⟩
theorem OB.bs {w:World}{B:Nat}{x:Value}{l:List UInt8}(h:OB w B x l):Bs w x l:=by
 obtain⟨g,cap,rfl,-,-,hc⟩:=h.form
 exact⟨_,_,rfl,.inr ⟨g,0,rfl,fun j hj=>by rw [Nat.zero_add];exact hc j hj⟩⟩
theorem OB.one {w:World}{B:Nat}{x:Value}{l:List UInt8}(h:OB w B x l):x.oneCell'=true:=by
 obtain⟨g,cap,rfl,-⟩:=h.form
 rfl
theorem OBs.cells {w:World}{B:Nat}{v:Value}{ls:List (List UInt8)}(h:OBs w B v ls)(hne:ls≠[]):
  ∃(b cap:Nat) (vs:List Value),v= .slice (some ⟨b,0,none⟩) ls.length cap∧B≤b∧b < w.heap.size∧vs.length=ls.length∧∀ j (hj:j < ls.length),w.cell? ⟨b,j,none⟩=some (vs.getD j nilS)∧OB w B (vs.getD j nilS) ls[j]:=by
 obtain⟨xs,⟨hl,ho⟩,hx⟩:=h
 rcases ho with ⟨rfl,h0⟩ | ⟨g,cap,cur,rfl,hB,hg,hn,hm,hs,ht⟩
 ·exact absurd (List.length_eq_zero_iff.1 h0) hne
 ·refine⟨g,cap,xs,rfl,hB,heap_lt hg,by omega,fun i hi=>?_⟩
  obtain⟨x,e,hb⟩:=hx i hi
  have hd:xs.getD i nilS=x:=by rw [List.getD_eq_getElem?_getD,e];rfl
  rw [hd]
  refine⟨?_,hb⟩
  rw [cell_of_row _ _ _ _ _ _ hg]
  rw [← ht,Nat.mul_one] at e
  rw [List.getElem?_take,if_pos hi] at e
  simpa using e
def bunX (k:Nat)(es:List (List UInt8))(vs:List Value):List Px:=(List.range 4).map fun j=>if j < k then ⟨true,false,leafH (es.getD j []),vs.getD j nilS⟩ else .no
theorem bunX_succ (es:List (List UInt8))(vs:List Value){k:Nat}(hk:k < 4):bunX (k+1) es vs=(bunX k es vs).set k ⟨true,false,leafH (es.getD k []),vs.getD k nilS⟩:=by
 match k,hk with
 | 0,_=>rfl
 | 1,_=>rfl
 | 2,_=>rfl
 | 3,_=>rfl
theorem bunX_len (k:Nat)(es:List (List UInt8))(vs:List Value):(bunX k es vs).length=4:=by simp [bunX]
theorem bunX_ok (es:List (List UInt8))(vs:List Value){k:Nat}(h:∀ j,j < k→∃ a n c,vs.getD j nilS= .slice a n c):FOk (bunX k es vs):=by
 refine⟨bunX_len _ _ _,fun x hx=>?_⟩
 obtain⟨j,-,rfl⟩:=List.mem_map.1 hx
 show Px.ok (if j < k then _ else _)
 split
 ·rename_i hj
  exact⟨leafH_length _,h j hj⟩
 ·exact Px.no_ok
theorem bunD_some {x:Option (List UInt8)}{n:Nat}{es:List (List UInt8)}(h:bunD x n=some es):es.length=n∧1≤es.length∧es.length≤4∧∀ e∈es,e.length≤20:=by
 unfold bunD unbF at h
 cases x with
 | none=>simp at h
 | some d =>
  simp only at h
  cases hu:unb d with
  | none=>simp [hu] at h
  | some ls =>
   simp only [hu] at h
   by_cases ho:okB ls=true
   ·simp only [ho,if_true] at h
    by_cases hl:ls.length=n
    ·simp only [hl,if_true,Option.some.injEq] at h
     subst h
     unfold okB at ho
     simp at ho
     exact⟨hl,ho.1,ho.2.1,ho.2.2⟩
    ·simp [hl] at h
   ·simp [ho] at h
theorem readBundle_any (n:Nat)(v:Value)(x:Option (List UInt8))(w:World)(h:GotV w v x):
  Calls Tryz.prog 209 #[.int .i64 n,v] w fun r w'=>Below w.heap.size w w'∧((∃ es vs,bunD x n=some es∧r= .returned (.tuple #[.agg (fcs (bunX es.length es vs)).toArray,.bool true])∧∀ j (hj:j < es.length),OB w' w.heap.size (vs.getD j nilS) es[j])∨(bunD x n=none∧r= .returned (.tuple #[.agg (fcs Fx.no).toArray,.bool false]))):=by
 have H:=hide h
 have HG:Hid (∀ o,GotV (w.alloc o) v x):=by
  intro o
  rcases h with ⟨d,rfl,hq⟩ | ⟨rfl,rfl⟩
  ·exact .inl ⟨d,rfl,hq.below (below_alloc _ _)⟩
  ·exact .inr ⟨rfl,rfl⟩
 clear h
 go_enter Tryz.func209,Tryz.ntmps209
 go_wp2_with fail
 have H0:Hid (Below w.heap.size w (w.alloc (.cells noVA TFile))∧FileAt (w.alloc (.cells noVA TFile)) w.heap.size Fx.no∧(w.alloc (.cells noVA TFile)).heap.size=w.heap.size+1):=⟨below_alloc _ _,heap_alloc_last _ _,by simp⟩
 have HG1:=hide (HG.out (.cells noVA TFile))
 clear HG
 generalize w.alloc (.cells noVA TFile)=W0 at *
 refine(unbOf_any n v x W0 HG1.out).mono ?_
 rintro r w1 ⟨hb1,hr⟩
 rw [H0.out.2.2] at hr
 have HB1:Hid (Below w.heap.size w w1∧FileAt w1 w.heap.size Fx.no∧w.heap.size+1≤w1.heap.size):=⟨H0.out.1.trans (hb1.mono H0.out.1.size),(hb1.block _ (heap_some_lt H0.out.2.1)).trans H0.out.2.1,by have:=hb1.size;rw [H0.out.2.2] at this;exact this⟩
 clear hb1
 rcases hr with ⟨es,y,he,rfl,ho⟩ | ⟨he,rfl⟩
 ·obtain⟨-,h1,h4,h20⟩:=bunD_some he
  obtain⟨b,cap,vs,rfl,hbB,hbl,hvl,hcell⟩:=ho.cells (by intro h;rw [h] at h1;simp at h1)
  have HE:=hide he
  have HC:=hide hcell
  have H20:=hide h20
  clear he ho hcell h20
  have HOK:Hid (∀ k,k≤es.length→FOk (bunX k es vs)):=fun k hk=>bunX_ok es vs (fun j hj=>by
   obtain⟨g,c,e,-⟩:=((HC.out j (by omega)).2).form
   exact⟨_,_,_,e⟩)
  go_wp2_with fail
  go_loopw [17] (fun i wr=>∃ k:Nat,k≤es.length∧i= .int .i64 k∧Below w.heap.size w wr∧FileAt wr w.heap.size (bunX k es vs)∧(∀ j,w.heap.size+1≤j→j < w1.heap.size→wr.heap[j]?=w1.heap[j]?)∧w1.heap.size≤wr.heap.size) (fun i _=>es.length - (intOf i).toNat)
  case atStart=>exact⟨0,by omega,rfl,HB1.out.1,HB1.out.2.1,fun _ _ _=>rfl,Nat.le_refl _⟩
  case round =>
   obtain⟨k,hk,rfl,ht,hf,hkp,hsz⟩:=hrel
   by_cases hlt:k < es.length
   ·have hk4:k < 4:=by omega
    have hz:=HOK.out k hk
    have hkl:k < (bunX k es vs).length:=by rw [bunX_len];exact hk4
    have hce:=HC.out k hlt
    have hob:OB wr (w.heap.size+1) (vs.getD k nilS) es[k]:=hce.2.kept hkp
    have hc:wr.cell? ⟨b,k,none⟩=some (vs.getD k nilS):=by
     rw [World.cell?_of_block (w:=w1) (hkp b hbB hbl)];exact hce.1
    have i0:(0:Int)≤(k:Int):=by omega
    have i1:(k:Int) < es.length:=by omega
    have hgd:es.getD k []=es[k]:=by rw [List.getD_eq_getElem?_getD,List.getElem?_eq_getElem hlt];rfl
    have HLF:Hid (Calls Tryz.prog 63 #[vs.getD k nilS] wr fun r w'=>r= .returned (.agg (hv (leafH (es.getD k []))))∧Below wr.heap.size wr w'):=by
     show Calls _ _ _ _ _
     rw [hgd]
     exact leaf_any _ _ wr (Nat.le_trans (H20.out _ (List.getElem_mem hlt)) (by unfold maxLen;omega)) hob.bs
    have h8:(leafH (es.getD k [])).length=8:=leafH_length _
    have H8:=hide h8
    have hone:=hob.one
    have hbp:=fun w'=>buildP_leaf (leafH (es.getD k [])) h8 (vs.getD k nilS) hone w'
    have HNX:Hid (∀ w',Below wr.heap.size wr w'→(storeP (.pointer (some ⟨w.heap.size,k*11,none⟩)) (.agg (Px.cs ⟨true,false,leafH (es.getD k []),vs.getD k nilS⟩).toArray)).run Tryz.prog w'= .ok () (w'.setCells w.heap.size (k*11) (Px.cs ⟨true,false,leafH (es.getD k []),vs.getD k nilS⟩))∧Below w.heap.size w (w'.setCells w.heap.size (k*11) (Px.cs ⟨true,false,leafH (es.getD k []),vs.getD k nilS⟩))∧FileAt (w'.setCells w.heap.size (k*11) (Px.cs ⟨true,false,leafH (es.getD k []),vs.getD k nilS⟩)) w.heap.size (bunX (k+1) es vs)∧(∀ j,w.heap.size+1≤j→j < w1.heap.size→(w'.setCells w.heap.size (k*11) (Px.cs ⟨true,false,leafH (es.getD k []),vs.getD k nilS⟩)).heap[j]?=w1.heap[j]?)∧w1.heap.size≤(w'.setCells w.heap.size (k*11) (Px.cs ⟨true,false,leafH (es.getD k []),vs.getD k nilS⟩)).heap.size):=by
     intro w' hb
     have hp:Px.ok ⟨true,false,leafH (es.getD k []),vs.getD k nilS⟩:=by
      obtain⟨g,c,e,-⟩:=hob.form
      exact⟨h8,_,_,_,e⟩
     have hf':FileAt w' w.heap.size (bunX k es vs):=(hb.block _ (heap_some_lt hf)).trans hf
     refine⟨storeP_of (hf'.there hz.2 hkl (o:=0) (by omega)) (Px.cs_len hp) (Px.cs_one hp),below_setCells (ht.trans (hb.mono ht.size)) (Nat.le_refl _) _ _,?_,fun j hj hj1=>?_,?_⟩
     ·rw [bunX_succ es vs hk4];exact hf'.set hz.2 hkl hp
     ·rw [setCells_away _ _ (by omega),hb.block j (by omega)];exact hkp j hj hj1
     ·rw [setCells_size];exact Nat.le_trans hsz hb.size
    clear ht hf hkp hsz hz hkl hce hob hgd h8
    generalize hLv:leafH (es.getD k [])=lf at *
    generalize hVv:vs.getD k nilS=ev at *
    clear hLv hVv
    go_wp2_with fail
    refine HLF.out.mono ?_
    rintro r w2 ⟨rfl,hb2⟩
    have hN:=HNX.out w2 hb2
    have HN:=hide hN.2
    have hst:=hN.1
    have hbp2:=hbp w2
    clear hN hbp hb2 HNX
    go_wp2_with fail
    go_roundw
    case rel=>exact⟨k+1,by omega,by go_num,HN.out.1,HN.out.2.1,HN.out.2.2.1,HN.out.2.2.2⟩
    case measure=>simp [intOf];omega
   ·obtain rfl:k=es.length:=by omega
    have hok:=HOK.out _ (Nat.le_refl _)
    have hld:=loadM_of (range_row hf) hok.len
    have hst:=storeM_of (file_there hf hok) hok.len (fcs_one hok.2)
    have HW:=hide (file_whole hf hok hok)
    have HB:=hide (below_setCells ht (Nat.le_refl w.heap.size) (fcs (bunX es.length es vs)) 0)
    have HL:=hide hok.len
    have HKP:Hid (∀ j (hj:j < es.length),OB (wr.setCells w.heap.size 0 (fcs (bunX es.length es vs))) w.heap.size (vs.getD j nilS) es[j]):=fun j hj=>((HC.out j hj).2.kept (fun i hi hi1=>by rw [setCells_away _ _ (by omega)];exact hkp i hi hi1)).weaken (Nat.le_succ _)
    clear hok ht hf hkp hsz
    go_wp2_with fail
    exact bodyPost_ret (v:= .tuple #[.agg (fcs (bunX es.length es vs)).toArray,.bool true]) (results_cell_tmp Tryz.results209 _ _ w.heap.size TFile _ (0,0) _ rfl HW.out Tryz.underlying130 rfl (by rw [infoFil,List.size_toArray,HL.out]) _ rfl) rfl ⟨HB.out,.inl ⟨es,vs,HE.out,rfl,HKP.out⟩⟩
 ·have HE:=hide he
  clear he
  have hld:=loadM_of (range_row HB1.out.2.1) Fx.no_ok.len
  have hst:=storeM_of (file_there HB1.out.2.1 Fx.no_ok) Fx.no_ok.len (fcs_one Fx.no_ok.2)
  have HW:=hide (file_whole HB1.out.2.1 Fx.no_ok Fx.no_ok)
  have HB:=hide (below_setCells HB1.out.1 (Nat.le_refl w.heap.size) (fcs Fx.no) 0)
  go_wp2_with fail
  go_loopw [17] (fun i wr=>i= .int .i64 0∧wr=w1) (fun i _=>0)
  case atStart=>exact⟨rfl,rfl⟩
  case round =>
   obtain⟨rfl,rfl⟩:=hrel
   go_wp2_with fail
   exact bodyPost_ret (v:= .tuple #[.agg (fcs Fx.no).toArray,.bool false]) (results_cell_tmp Tryz.results209 _ _ w.heap.size TFile _ (0,0) _ rfl HW.out Tryz.underlying130 rfl (by rw [infoFil,List.size_toArray,Fx.no_ok.len]) _ rfl) rfl ⟨HB.out,.inr ⟨HE.out,rfl⟩⟩
end
section
open Go.RowKit
set_option maxRecDepth 100000
end
section
set_option maxHeartbeats 1000000
open Go.RowKit
set_option maxRecDepth 100000
theorem bq_shape {w:World}{v:Value}{l:List UInt8}(h:Bq w v l):∃ a n c,v= .slice a n c:=by
 obtain⟨g,cap,C,fr,rfl,-⟩:=h
 exact⟨_,_,_,rfl⟩
theorem Ext.undrew {O:Nat→Prop}{w w':World}:∀ k,Ext O w.drew w' k→Ext O w w' k:=fun _ h=>h
theorem put1_any (O:Nat→Prop)(db lb B1 B2 B3:Nat)(d:Dk)(p x:List UInt8)(v:Value)(w:World)(hn:d.fs.length≤1000000000)(h:DiskAt w O db d)(hv:Bq w v x)
  (h1:w.cell? ⟨B1,0,none⟩=some (.pointer (some ⟨lb,0,none⟩))) (h2:w.cell? ⟨B2,0,none⟩=some (txv p)) (h3:w.cell? ⟨B3,0,none⟩=some v) (hst:w.cell? ⟨lb,0,none⟩=some (stV db true)) :
  Calls Tryz.prog 163 #[.pointer (some ⟨B1,0,none⟩),.pointer (some ⟨B2,0,none⟩),.pointer (some ⟨B3,0,none⟩)] w fun r w'=>∃ e,r= .returned e∧OwnRes (putE d p x) w.heap.size e w'∧Turn O dT w w'∧DiskAt w' (Ext O w w') db (putD d p x):=by
 unfold stV dptr at hst
 simp only [if_true] at hst
 unfold txv at h2
 have HD:=hide h
 have HV:=hide hv
 clear h hv
 have hm:=meth_put
 go_enter Tryz.func163,Tryz.ntmps163
 go_wp2_with fail
 go_region_with (go_at_call 234;refine(put_any O db d p x v _ hn (by exact HD.out) (by exact HV.out)).mono ?_;rintro r w1 ⟨e,rfl,ho,ht,hd⟩;have HO:=hide ho;have HT:=hide ht;have HDD:=hide hd;clear ho ht hd)
 all_goals go_wp2
 all_goals go_ret
 all_goals exact⟨_,rfl,HO.out,HT.out.undrew,HDD.out.mono Ext.undrew⟩
theorem ask_end {O:Nat→Prop}{w W3 W4 w' w5:World}{db:Nat}{d':Dk}{b:Bool}{p:List UInt8}{e:Value}{r:Ending}(hbl:Below w.heap.size w W4)(h3:w.heap.size≤W3.heap.size)(h0:W4.heap[W3.heap.size]?=some (.cells #[.nilIface] 70 (0,0)))
  (ho:OwnRes b W4.heap.size e w') (ht:Turn O dT W4 w') (hd:DiskAt w' (Ext O W4 w') db d')
  (h:(e= .nilIface∧r= .returned .nilIface∧w5=w'.setCell ⟨W3.heap.size,0,none⟩ .nilIface)∨((∃ g,e=errV g)∧r= .returned (pathE w'.heap.size)∧w5=(w'.alloc (.cells #[txv p,e] 115)).setCell ⟨W3.heap.size,0,none⟩ (pathE w'.heap.size))) :
  ∃ e',r= .returned e'∧GotErr b p w.heap.size e' w5∧Turn O dT w w5∧DiskAt w5 (Ext O w w5) db d':=by
 have tw:Turn O dT w w':=(Turn.of_below hbl).trans (ht.mono (fun _ h=> .inl h) (fun _ h=>h))
 have q0:=ht.keep h0 (by decide)
 have hw4:w.heap.size≤W4.heap.size:=hbl.size
 have hx:∀ k,Ext O W4 w' k→Ext O w w' k:=by
  rintro k (h | h)
  ·exact .inl h
  ·exact .inr (by omega)
 rcases h with ⟨rfl,rfl,rfl⟩ | ⟨⟨g',rfl⟩,rfl,rfl⟩
 ·have hb:b=false:=by
   rcases ho with ⟨h,-⟩ | ⟨-,g,h,-⟩
   ·exact h
   ·simp [errV] at h
  have tB:=set_cell_turn q0 (by decide) .nilIface
  exact⟨_,rfl,.inl ⟨hb,rfl⟩,tw.setNew h3 _ _,((hd.mono hx).stay tB (by decide) (by decide)).mono (Ext.more (by simp [World.setCell]))⟩
 ·have hb:b=true∧ErrAt w' g':=by
   rcases ho with ⟨-,h⟩ | ⟨h,g,h',-,h2⟩
   ·simp [errV] at h
   ·simp [errV] at h'
    exact⟨h,h'▸h2⟩
  have tP:Turn (fun _=>True) cT w' (w'.alloc (.cells #[txv p,errV g'] 115)):=(Turn.refl _ _ _).alloc _
  have tB:=set_cell_turn (heap_alloc_old (o:= .cells #[txv p,errV g'] 115) q0) (by decide) (pathE w'.heap.size)
  refine⟨_,rfl,.inr ⟨hb.1,_,rfl,tw.size,g',tB.keep (heap_alloc_last _ _) (by decide),(hb.2.turn tP (by decide)).turn tB (by decide)⟩,(tw.alloc _).setNew h3 _ _,(((hd.mono hx).stay tP (by decide) (by decide)).stay tB (by decide) (by decide)).mono (Ext.more (by simp [World.setCell]))⟩
theorem lput_any (O:Nat→Prop)(db lb:Nat)(d:Dk)(p x:List UInt8)(v:Value)(w:World)(hn:d.fs.length≤1000000000)(h:DiskAt w O db d)(hv:Bq w v x)(hst:w.cell? ⟨lb,0,none⟩=some (stV db true)):
  Calls Tryz.prog 123 #[.pointer (some ⟨lb,0,none⟩),txv p,v] w fun r w'=>∃ e,r= .returned e∧GotErr (putE d p x) p w.heap.size e w'∧Turn O dT w w'∧DiskAt w' (Ext O w w') db (putD d p x):=by
 have hmf:∀(fn:Fn) (first cap:Array Value) (w:World),(Instr.makeFunc fn first cap).run Tryz.prog w= .ok (.func fn first cap) w:=fun _ _ _ _=>rfl
 have eg:∀ args w,(callFunc 163 args).run Tryz.prog w= .ok (.enter 163 args) w:=enters_of Tryz.func163 (by kernel_rfl) rfl
 obtain⟨a,n,c,rfl⟩:=bq_shape hv
 have HD:=hide h
 have HV:=hide hv
 have HS:=hide hst
 clear h hv hst
 have htx:txv p= .string ⟨p.toArray⟩:=rfl
 rw [htx]
 go_enter Tryz.func123,Tryz.ntmps123
 go_wp2_with fail
 obtain⟨s3,p1,p2,p3,hb3⟩:=alloc3 w (.cells #[.pointer (some ⟨lb,0,none⟩)] 68) (.cells #[.string ⟨p.toArray⟩] 9) (.cells #[.slice a n c] 76)
 generalize (((w.alloc (.cells #[.pointer (some ⟨lb,0,none⟩)] 68)).alloc (.cells #[.string ⟨p.toArray⟩] 9)).alloc (.cells #[.slice a n c] 76))=W3 at *
 have S3:=hide s3
 have hcall:=put1_any O db lb w.heap.size (w.heap.size+1) (w.heap.size+1+1) d p x (.slice a n c) (W3.alloc (.cells #[.nilIface] 70)) hn
  (HD.out.stay (O1:=fun _=>False) (T:=[]) ((Turn.of_below hb3).alloc _) (by simp) (by simp)) ((HV.out.below hb3).below (below_alloc _ _))
  (dcell (heap_alloc_old p1) 0 _ rfl).1 (dcell (heap_alloc_old p2) 0 _ rfl).1 (dcell (heap_alloc_old p3) 0 _ rfl).1 (by rw [cell_old _ _ ⟨_,0,none⟩ (Nat.lt_of_lt_of_le (cell_lt HS.out) hb3.size),hb3.cell (p:=⟨lb,0,none⟩) (cell_lt HS.out)];exact HS.out)
 have H0:Hid ((W3.alloc (.cells #[.nilIface] 70)).heap[W3.heap.size]?=some (.cells #[.nilIface] 70 (0,0))):=heap_alloc_last _ _
 have hbl:Hid (Below w.heap.size w (W3.alloc (.cells #[.nilIface] 70))):=hb3.alloc (by omega) _
 refine(ask_any p 163 _ W3 (fun e w'=>OwnRes (putE d p x) (W3.alloc (.cells #[.nilIface] 70)).heap.size e w'∧Turn O dT (W3.alloc (.cells #[.nilIface] 70)) w'∧DiskAt w' (Ext O (W3.alloc (.cells #[.nilIface] 70)) w') db (putD d p x)) eg hcall ?_).mono ?_
 ·rintro e w' ⟨ho,ht,-⟩
  exact⟨own_shape ho,ht.keep H0.out (by decide)⟩
 clear hcall p1 p2 p3 hb3 s3
 generalize W3.alloc (.cells #[.nilIface] 70)=W4 at *
 have h34:w.heap.size≤W3.heap.size:=by have:=S3.out;omega
 rintro r w5 ⟨e,w',⟨ho,ht,hd⟩,h⟩
 have HE:=hide (ask_end hbl.out h34 H0.out ho ht hd h)
 clear ho ht hd h
 obtain⟨e',he'⟩:=HE.out
 obtain rfl:=he'.1
 have HX:=hide he'.2
 clear he' HE
 go_wp2_with fail
 go_ret
 exact⟨_,rfl,HX.out⟩
end
end Go.Proofs.YtinhekmmdlhfkaaGreatDoor
