import Derived.Test.YtinhekmmdlhfkaaGreatDoorG09
import Derived.Test.YtinhekmmdlhfkaaGreatDoorG48
import Derived.Lib.OwnBridge
import Derived.Deep.OwnRows
import Derived.Test.YtinhekmmdlhfkaaGreatDoorRows
import Derived.ProofKit
import Derived.OpenShut
import Derived.ShutString
import Derived.ChangeOld
import Derived.Below
import Derived.Deep.SlicePairs
import Derived.Test.YtinhekmmdlhfkaaGreatDoorG45
import Derived.Test.YtinhekmmdlhfkaaGreatDoorG43
import Derived.Test.YtinhekmmdlhfkaaGreatDoorG44
namespace Go.Proofs.YtinhekmmdlhfkaaGreatDoor
section
set_option maxHeartbeats 2000000
open Go.RowKit
set_option maxRecDepth 100000
def lcs (ls:List Ly):List Value:=ls.flatMap fun l=>[txv l.path,txv l.data,.bool l.fails,.int .i64 l.times]
theorem lcs_len (ls:List Ly):(lcs ls).length=ls.length*4:=by
 induction ls with
 | nil=>rfl
 | cons a r ih =>
  unfold lcs at ih ⊢
  rw [List.flatMap_cons,List.length_append,ih]
  simp only [List.length_cons,List.length_nil]
  omega
theorem lcs_one (ls:List Ly):∀ u∈lcs ls,u.oneCell'=true:=by
 intro u hu
 unfold lcs at hu
 obtain⟨f,-,h⟩:=List.mem_flatMap.1 hu
 simp only [List.mem_cons,List.not_mem_nil,or_false] at h
 rcases h with rfl | rfl | rfl | rfl<;>rfl
theorem lcs_at:∀(ls:List Ly) (j:Nat) (h:j < ls.length),(lcs ls)[j*4]?=some (txv ls[j].path)∧(lcs ls)[j*4+1]?=some (txv ls[j].data)∧(lcs ls)[j*4+2]?=some (.bool ls[j].fails)∧(lcs ls)[j*4+3]?=some (.int .i64 ls[j].times):=by
 intro ls
 induction ls with
 | nil=>intro j h;simp at h
 | cons a r ih =>
  intro j h
  have e:lcs (a::r)=txv a.path::txv a.data:: .bool a.fails:: .int .i64 a.times::lcs r:=by simp [lcs]
  cases j with
  | zero=>rw [e];exact⟨rfl,rfl,rfl,rfl⟩
  | succ j =>
   have:=ih j (by simpa using h)
   rw [e,show(j+1)*4=j*4+4 by omega]
   simpa using this
def Lss (w:World)(v:Value)(ls:List Ly):Prop:=∃ a cap,v= .slice a ls.length cap∧(ls=[]∨∃ b off,a=some ⟨b,off,none⟩∧∀ j u,(lcs ls)[j]?=some u→w.cell? ⟨b,off+j,none⟩=some u)
theorem infoLie:(Tryz.prog.info? 65).map (fun i=>(i.zero,i.size,i.bytes))=some (some (.agg #[.string ⟨#[]⟩,.string ⟨#[]⟩,.bool false,.int .i64 0]),4,48):=by kernel_rfl
theorem infoI64:(Tryz.prog.info? 3).map (fun i=>(i.zero,i.size,i.bytes))=some (some (.int .i64 0),1,8):=by kernel_rfl
theorem cloneL_zero (a:Addr)(c:Nat)(w:World):
  Calls Tryz.prog 36 #[.slice (some a) 0 c] w fun e w'=>∃ v',e= .returned v'∧Below w.heap.size w w'∧w'.ownsRow w.heap.size 65 4 v' 0 []:=by
 obtain⟨i,hi,hi'⟩:=Option.map_eq_some_iff.1 infoLie
 obtain⟨hz0,hz1,hz2⟩:i.zero=some (.agg #[.string ⟨#[]⟩,.string ⟨#[]⟩,.bool false,.int .i64 0])∧i.size=4∧i.bytes=48:=by simpa using hi'
 have heq:∀(w:World) (a:Option Addr) (n c n' c':Nat),(binOp .eql 55 (.slice a n c) (.slice none n' c')).run Tryz.prog w= .ok (.bool a.isNone) w:=fun w a n c n' c'=>Lib.run_eql_slice_nil w _ _ a n c n' c' Tryz.underlying55
 have hu:∀ w,Sem.run Tryz.prog (underlying 55) w= .ok (TypeDesc.slice 65) w:=run_underlying Tryz.underlying55
 go_enter Tryz.func36,Tryz.ntmps36
 go_wp2_with (at_builtin;refine wpList_append_own _ rfl _ _ 55 rfl w.heap.size 65 i (.agg #[.string ⟨#[]⟩,.string ⟨#[]⟩,.bool false,.int .i64 0]) 4 48 Tryz.underlying55 hi hz0 hz1 hz2 rfl (by decide) _ _ _ rfl (World.ownsRow_made w #[] 0 (Nat.le_refl _) (Nat.zero_le _) rfl) a 0 c [] rfl rfl (by intro j u hj;simp at hj) (by intro u hu;cases hu) (by unfold maxLen;omega) (by omega) (by simp) ?_)
 intro v' w1 hown hgrow hnil
 go_wp2_with fail
 go_ret
 exact⟨v',rfl,((Below.refl _ w).alloc (Nat.le_refl _) _).grown hgrow (by simp) (by intro k hk;simp [Value.ownBlock] at hk;omega),by simpa using hown⟩
theorem cloneL_any (v:Value)(ls:List Ly)(w:World)(hn:ls.length≤1000000000)(h:Lss w v ls):
  Calls Tryz.prog 36 #[v] w fun e w'=>∃ v',e= .returned v'∧Below w.heap.size w w'∧w'.ownsRow w.heap.size 65 4 v' ls.length (lcs ls):=by
 obtain⟨a,cap,rfl,rfl | ⟨b,off,rfl,hx⟩⟩:=h
 ·cases a with
  | none =>
   refine(AnyE.slices_Clone_nil Tryz.cloneLie 0 cap w).mono ?_
   rintro e w' ⟨rfl,rfl⟩
   exact⟨_,rfl,Below.refl _ _,rfl,.inl ⟨rfl,rfl⟩⟩
  | some a=>exact cloneL_zero a cap w
 ·obtain⟨i,hi,hi'⟩:=Option.map_eq_some_iff.1 infoLie
  obtain⟨hz0,hz1,hz2⟩:i.zero=some (.agg #[.string ⟨#[]⟩,.string ⟨#[]⟩,.bool false,.int .i64 0])∧i.size=4∧i.bytes=48:=by simpa using hi'
  refine(AnyE.slices_Clone Tryz.cloneLie i (.agg #[.string ⟨#[]⟩,.string ⟨#[]⟩,.bool false,.int .i64 0]) 4 48 hi hz0 hz1 hz2 rfl (by omega) Tryz.sizeOf65 b off ls.length cap (lcs ls) w (lcs_len ls) (by unfold maxLen;omega) (by omega) hx (lcs_one ls)).mono ?_
  rintro e w' ⟨v',rfl,ho,-,hb⟩
  exact⟨v',rfl,hb,ho⟩
theorem liesIn_owns {w:World}{B:Nat}{v:Value}{ls:List Ly}(h:w.ownsRow B 65 4 v ls.length (lcs ls)):LiesIn w v ls:=by
 rcases h.2 with ⟨rfl,h0⟩ | ⟨g,cap,cur,rfl,-,hg,hn,hm,hs,ht⟩
 ·exact⟨none,0,by rw [h0],.inl h0⟩
 ·refine⟨_,cap,rfl,.inr ⟨g,rfl,cur,hg,fun j hj=>?_⟩⟩
  have hc:∀ k u,k < ls.length*4→(lcs ls)[k]?=some u→cur[k]?=some u:=fun k u hk e=>by
   rw [← ht,List.getElem?_take,if_pos hk,Array.getElem?_toList] at e
   exact e
  obtain⟨e0,e1,e2,e3⟩:=lcs_at ls j hj
  exact⟨hc _ _ (by omega) e0,hc _ _ (by omega) e1,hc _ _ (by omega) e2,hc _ _ (by omega) e3⟩
theorem made_told (n:Nat):madeCells #[.int .i64 0] n=((List.replicate n (0:Int)).map (Value.int .i64)).toArray:=by
 apply Array.ext
 ·simp [madeCells]
 ·intro i h1 h2
  simp [madeCells,Nat.mod_one]
theorem lie_any (O:Nat→Prop)(nb db:Nat)(n:Nt)(v:Value)(ls:List Ly)(w:World)(hn:ls.length≤1000000000)(hN:NetAt w O nb db n)(h:Lss w v ls):
  Calls Tryz.prog 21 #[.pointer (some ⟨nb,0,none⟩),v] w fun r w'=>r= .returned (.tuple #[])∧Turn O [85] w w'∧NetAt w' (Ext O w w') nb db ⟨ls,List.replicate ls.length 0,n.fetches⟩:=by
 obtain⟨lv,tv,hO,hb,-,-,-⟩:=hN
 obtain⟨a,cap,e,-⟩:=id h
 have HCL:=hide (cloneL_any v ls w hn h)
 have HO:=hide hO
 have HB:=hide hb
 have hmk:=run_make_row' (P:=Tryz.prog) 23 3 (.int .i64 0) 8 Tryz.underlying23 infoI64 rfl .i64 .i64 ls.length (by omega) (by omega)
 clear hb h hO
 subst e
 go_enter Tryz.func21,Tryz.ntmps21
 go_wp2_with fail
 refine HCL.out.mono ?_
 rintro r w1 ⟨v',rfl,hb1,ho⟩
 have hT1:Turn O [] w w1:= .of_below hb1
 have HB1:=hide (hT1.keep HB.out (by simp))
 have HO1:=hide ho
 obtain⟨va,vc,rfl⟩:∃ a c,v'= .slice a ls.length c:=by
  rcases ho.2 with ⟨rfl,h0⟩ | ⟨g,cp,cur,rfl,-⟩
  ·exact⟨none,0,by rw [h0]⟩
  ·exact⟨_,_,rfl⟩
 have hne:nb≠w1.heap.size:=by have:=heap_some_lt HB1.out;omega
 obtain⟨c1,f1⟩:=dcell HB1.out 1 _ rfl
 have HB2:Hid (∀ o,((w1.setCell ⟨nb,1,none⟩ (.slice va ls.length vc)).alloc o).heap[nb]?=some (.cells #[dptr db,.slice va ls.length vc,tv,.int .i64 n.fetches] 85 (0,0))):=fun o=>(Turn.of_below (O:=O) (T:=[]) (below_alloc _ o)).keep (dset HB1.out 1 (.slice va ls.length vc)) (by simp)
 have f2:∀ o,((w1.setCell ⟨nb,1,none⟩ (.slice va ls.length vc)).alloc o).frozen? ⟨nb,2,none⟩=false:=fun o=>(dcell (HB2.out o) 2 _ rfl).2
 have c2:∀ o,((w1.setCell ⟨nb,1,none⟩ (.slice va ls.length vc)).alloc o).cell? ⟨nb,2,none⟩=some tv:=fun o=>(dcell (HB2.out o) 2 _ rfl).1
 have HS1:=hide hb1.size
 have HT2:Hid (∀ o,Turn O [85] w ((w1.setCell ⟨nb,1,none⟩ (.slice va ls.length vc)).alloc o)):=fun o=>((hT1.mono (T':=[85]) (fun _ h=>h) (by simp)).set (.inl HO.out) HB1.out (by simp) _).then_below (below_alloc _ o)
 have HX:Hid (∀ o,((w1.setCell ⟨nb,1,none⟩ (.slice va ls.length vc)).alloc o).ownsRow w.heap.size 65 4 (.slice va ls.length vc) ls.length (lcs ls)):=fun o=>ownsRow_turn (ownsRow_turn HO1.out ((Turn.refl (fun _=>True) [85] w1).set (.inl trivial) HB1.out (by simp) (.slice va ls.length vc)) (by decide)) (Turn.of_below (O:=O) (T:=[]) (below_alloc _ o)) (by simp)
 have HZ:Hid (∀ o,((w1.setCell ⟨nb,1,none⟩ (.slice va ls.length vc)).alloc o).heap[w1.heap.size]?=some o):=fun o=>by
  have:=heap_alloc_last (w1.setCell ⟨nb,1,none⟩ (.slice va ls.length vc)) o
  simpa [World.setCell] using this
 clear hb1 ho hT1 HB
 go_wp2_with fail
 go_end0
 have hb2:=HB2.out (.cells (madeCells #[.int .i64 0] ls.length) 3)
 have ht2:=HT2.out (.cells (madeCells #[.int .i64 0] ls.length) 3)
 have hx2:=HX.out (.cells (madeCells #[.int .i64 0] ls.length) 3)
 have hz2:=HZ.out (.cells (madeCells #[.int .i64 0] ls.length) 3)
 generalize (w1.setCell ⟨nb,1,none⟩ (.slice va ls.length vc)).alloc (.cells (madeCells #[.int .i64 0] ls.length) 3)=w2 at *
 have hs:Turn (fun _=>True) [85] w2 (w2.setCell ⟨nb,2,none⟩ (.slice (some ⟨w1.heap.size,0,none⟩) ls.length ls.length)):=(Turn.refl (fun _=>True) [85] w2).set (.inl trivial) hb2 (by simp) _
 have hlt:w1.heap.size < w2.heap.size:=heap_some_lt hz2
 refine⟨rfl,ht2.set (.inl HO.out) hb2 (by simp) _,_,_,.inl HO.out,dset hb2 2 _,liesIn_owns (ownsRow_turn hx2 hs (by decide)),⟨_,_,by rw [List.length_replicate],.inr ⟨w1.heap.size,rfl,.inr ⟨HS1.out,Nat.lt_of_lt_of_le hlt hs.size⟩,?_⟩⟩,by simp⟩
 rw [hs.keep hz2 (by decide),made_told]
end
section
open Go.ChangeShapes Go.WideShapes Go.ChangeAt Go.RowKit
set_option maxRecDepth 100000
theorem txv_of (s:ByteArray):Value.string s=txv s.data.toList:=by
 unfold txv
 congr 1
theorem bulk_mem {H:Type}:∀(l:List (DataW H)) (d:DataW H),d∈l→Rows.uptoBulk d≤Rows.uptoBulkAll l
 | [],_,h=>by simp at h
 | x::r,d,h=>by
  rw [Rows.uptoBulkAll]
  rcases List.mem_cons.1 h with rfl | h
  ·omega
  ·have:=bulk_mem r d h
   omega
theorem bulk_len {H:Type}:∀(l:List (DataW H)),(∀ d∈l,1≤Rows.uptoBulk d)→l.length≤Rows.uptoBulkAll l
 | [],_=>by simp
 | x::r,h=>by
  rw [Rows.uptoBulkAll,List.length_cons]
  have h1:=h x List.mem_cons_self
  have h2:=bulk_len r (fun d hd=>h d (List.mem_cons_of_mem _ hd))
  omega
theorem bulk_pos {H:Type}(d:DataW H):1≤Rows.uptoBulk d:=by
 cases d with
 | lit l=>cases l<;>simp [Rows.uptoBulk]
 | _=>simp [Rows.uptoBulk]
theorem bulk_elem {H:Type}{D:Nat→DataW H}{len k i:Nat}{sp:List (DataW H)}(hi:i < len)(h:Rows.uptoBulk (D i)=k):k≤Rows.uptoBulk (.slice ((List.range len).map D) sp)∧len≤Rows.uptoBulk (.slice ((List.range len).map D) sp):=by
 have h1:=bulk_mem ((List.range len).map D) (D i) (List.mem_map.2 ⟨i,List.mem_range.2 hi,rfl⟩)
 have h2:=bulk_len ((List.range len).map D) (fun d _=>bulk_pos d)
 rw [List.length_map,List.length_range] at h2
 rw [Rows.uptoBulk]
 omega
theorem open_lies {H:Type}{enc:TypeId×Value→H}{w:World}{base:Nat}{spare:Nat→Bool}{held:Bool}{fuel:Nat}{x:DataW H×List MemPlace}{v:Value}
  (h:DataW.trod enc Tryz.prog w base spare held fuel 55 [v]=some x) :
  ∃ ls:List Ly,ls.length≤Rows.uptoBulk x.1∧(∀ l∈ls,l.data.length≤Rows.uptoBulk x.1)∧Lss w v ls:=by
 have ce:Tryz.prog.cellsOf 65=4:=by kernel_rfl
 have c3:Tryz.prog.cellsOf 3=1:=by kernel_rfl
 have c4:Tryz.prog.cellsOf 4=1:=by kernel_rfl
 have c9:Tryz.prog.cellsOf 9=1:=by kernel_rfl
 rcases Go.Deep.open_slice Tryz.underlying55 h with ⟨hcs,_⟩ | ⟨ad,l,c,m,n,D,Pl,hcs,hb,hl,hm,hmm,rfl,hx⟩
 ·simp at hcs
  subst hcs
  exact⟨[],Nat.zero_le _,by simp,⟨none,0,rfl,.inl rfl⟩⟩
 ·simp at hcs
  subst hcs
  have hle:l≤m:=by rw [hmm];split<;>omega
  have each:∀ i,i < l→∃ o:List UInt8×List UInt8×Bool×Int,w.cell? (ad.add (i*4))=some (txv o.1)∧w.cell? (ad.add (i*4+1))=some (txv o.2.1)∧w.cell? (ad.add (i*4+2))=some (.bool o.2.2.1)∧w.cell? (ad.add (i*4+3))=some (.int .i64 o.2.2.2)∧o.2.1.length≤Rows.uptoBulk (D i):=by
   intro i hi
   obtain⟨cs',h1,h2⟩:=hx i (by omega)
   rw [ce] at h1
   obtain⟨_,hlen,hcell⟩:=World.cells?_some h1
   obtain⟨xs,k,hk,hxy,_,hxl,hf⟩:=DataW.trod_struct Tryz.underlying65 h2
   match xs,hxl,cs',hlen with
   | [y0,y1,y2,y3],_,[v0,v1,v2,v3],_ =>
    have g0:DataW.trod enc Tryz.prog w base spare held k 9 [v0]=some y0:=by have:=hf 0 _ rfl;simpa [c9] using this
    have g1:DataW.trod enc Tryz.prog w base spare held k 9 [v1]=some y1:=by have:=hf 1 _ rfl;simpa [c9] using this
    have g2:DataW.trod enc Tryz.prog w base spare held k 4 [v2]=some y2:=by have:=hf 2 _ rfl;simpa [c4] using this
    have g3:DataW.trod enc Tryz.prog w base spare held k 3 [v3]=some y3:=by have:=hf 3 _ rfl;simpa [c3] using this
    obtain⟨n0,e0,-,-⟩:=DataW.trod_string Tryz.underlying9 g0
    obtain⟨n1,e1,b1,-⟩:=DataW.trod_string Tryz.underlying9 g1
    obtain⟨n2,e2,-⟩:=DataW.trod_bool Tryz.underlying4 g2
    obtain⟨n3,e3,-,-⟩:=DataW.trod_int Tryz.underlying3 g3
    simp only [List.cons.injEq,and_true] at e0 e1 e2 e3
    have d0:=hcell 0 (by omega)
    have d1:=hcell 1 (by omega)
    have d2:=hcell 2 (by omega)
    have d3:=hcell 3 (by omega)
    rw [Go.Deep.add_add] at d0 d1 d2 d3
    refine⟨(n0.data.toList,n1.data.toList,n2,n3),by simpa [e0,txv_of] using d0,by simpa [e1,txv_of] using d1,by simpa [e2] using d2,by simpa [e3] using d3,?_⟩
    have hD:D i= .agg [y0.1,y1.1,y2.1,y3.1]:=by
     have:=congrArg Prod.fst hxy
     simpa using this
    rw [hD,b1,Rows.uptoBulk,Rows.uptoBulkAll,Rows.uptoBulkAll,Rows.uptoBulk]
    show n1.data.toList.length≤_
    omega
  obtain⟨g,hg⟩:=Go.Deep.choose_lt each
  have hlen:((List.range l).map fun i=>(⟨(g i).1,(g i).2.1,(g i).2.2.1,(g i).2.2.2⟩:Ly)).length=l:=by simp
  refine⟨(List.range l).map fun i=>(⟨(g i).1,(g i).2.1,(g i).2.2.1,(g i).2.2.2⟩:Ly),?_,fun o ho=>?_,⟨some ad,c,by rw [hlen],?_⟩⟩
  ·rw [hlen]
   by_cases h0:l=0
   ·rw [h0];exact Nat.zero_le _
   ·exact(bulk_elem (D:=D) (show 0 < l by omega) rfl).2
  ·obtain⟨i,hi,rfl⟩:=List.mem_map.1 ho
   have hi':=List.mem_range.1 hi
   have h1:=(hg i hi').2.2.2.2
   have h2:=(bulk_elem (D:=D) (sp:=(List.range (m - l)).map fun j=>D (l+j)) hi' rfl).1
   exact Nat.le_trans h1 h2
  ·by_cases h0:l=0
   ·left;simp [h0]
   ·right
    obtain⟨b,off,spot⟩:=ad
    have hspot:spot=none:=by simpa [Addr.add] using World.cell?_spot (hg 0 (by omega)).1
    subst hspot
    refine⟨b,off,rfl,fun j u hj=>?_⟩
    have hjl:j < l*4:=by
     have h1:=(List.getElem?_eq_some_iff.1 hj).1
     rw [lcs_len,hlen] at h1
     exact h1
    have hi:j / 4 < l:=by omega
    obtain⟨q0,q1,q2,q3,-⟩:=hg (j / 4) hi
    obtain⟨p0,p1,p2,p3⟩:=lcs_at ((List.range l).map fun i=>(⟨(g i).1,(g i).2.1,(g i).2.2.1,(g i).2.2.2⟩:Ly)) (j / 4) (by rw [hlen];exact hi)
    rw [List.getElem_map,List.getElem_range] at p0 p1 p2 p3
    rw [Addr.add_mid] at q0 q1 q2 q3
    rcases(by omega:j=j / 4*4∨j=j / 4*4+1∨j=j / 4*4+2∨j=j / 4*4+3) with e | e | e | e
    ·rw [e] at hj ⊢;rw [p0] at hj;rw [← hj];exact q0
    ·rw [e] at hj ⊢;rw [p1] at hj;rw [← hj];exact q1
    ·rw [e] at hj ⊢;rw [p2] at hj;rw [← hj];exact q2
    ·rw [e] at hj ⊢;rw [p3] at hj;rw [← hj];exact q3
theorem open_ints {H:Type}{enc:TypeId×Value→H}{w:World}{base:Nat}{spare:Nat→Bool}{held:Bool}{fuel:Nat}{x:DataW H×List MemPlace}{v:Value}
  (h:DataW.trod enc Tryz.prog w base spare held fuel 23 [v]=some x) :
  ∃ ls:List Int,ls.length≤9223372036854775807∧(∀ a∈ls,-9223372036854775808≤a∧a≤9223372036854775807)∧Iss w v ls:=by
 have ce:Tryz.prog.cellsOf 3=1:=by kernel_rfl
 rcases Go.Deep.open_slice Tryz.underlying23 h with ⟨hcs,_⟩ | ⟨ad,l,c,m,n,D,Pl,hcs,hb,hl,hm,hmm,rfl,hx⟩
 ·simp at hcs
  subst hcs
  exact⟨[],Nat.zero_le _,by simp,⟨none,0,rfl,Nat.le_refl _,.inl rfl⟩⟩
 ·simp at hcs
  subst hcs
  have hle:l≤m:=by rw [hmm];split<;>omega
  have each:∀ i,i < l→∃ o:Int,w.cell? (ad.add (i*1))=some (.int .i64 o)∧-9223372036854775808≤o∧o≤9223372036854775807:=by
   intro i hi
   obtain⟨cs',h1,h2⟩:=hx i (by omega)
   rw [ce] at h1
   obtain⟨_,hlen,hcell⟩:=World.cells?_some h1
   obtain⟨n0,e0,-,wf⟩:=DataW.trod_int Tryz.underlying3 h2
   subst e0
   have d0:=hcell 0 (by omega)
   rw [Go.Deep.add_add] at d0
   have b1:=bounds_i64 wf
   exact⟨n0,by simpa using d0,b1.1,b1.2⟩
  obtain⟨g,hg⟩:=Go.Deep.choose_lt each
  have hlen:((List.range l).map g).length=l:=by simp
  refine⟨(List.range l).map g,?_,fun o ho=>?_,⟨some ad,c,by rw [hlen],by rw [hlen];exact hl,?_⟩⟩
  ·rw [hlen]
   unfold maxLen at hm
   omega
  ·obtain⟨i,hi,rfl⟩:=List.mem_map.1 ho
   exact(hg i (List.mem_range.1 hi)).2
  ·by_cases h0:l=0
   ·left;simp [h0]
   ·right
    obtain⟨b,off,spot⟩:=ad
    have hspot:spot=none:=by simpa [Addr.add] using World.cell?_spot (hg 0 (by omega)).1
    subst hspot
    refine⟨b,off,rfl,fun i hi=>?_⟩
    rw [hlen] at hi
    have:=(hg i hi).1
    rw [Addr.add_mid,Nat.mul_one] at this
    rw [List.getElem_map,List.getElem_range]
    exact this
end
section
open Go.RowKit
set_option maxRecDepth 100000
def firstL:List UInt8:=[102,105,114,115,116]
theorem NetAt.mono {w:World}{O O':Nat→Prop}{nb db:Nat}{n:Nt}(h:NetAt w O nb db n)(hO:∀ k,O k→O' k):NetAt w O' nb db n:=by
 obtain⟨lv,tv,h1,h2,h3,⟨a,cap,e,h4⟩,h5⟩:=h
 refine⟨lv,tv,hO _ h1,h2,h3,⟨a,cap,e,?_⟩,h5⟩
 rcases h4 with h4 | ⟨g,ea,hg,hh⟩
 ·exact .inl h4
 ·exact .inr ⟨g,ea,hO _ hg,hh⟩
theorem DiskAt.bound {w:World}{O:Nat→Prop}{db:Nat}{d:Dk}(h:DiskAt w O db d):DiskAt w (fun k=>O k∧k < w.heap.size) db d:=by
 obtain⟨fv,h1,h2,h3,h4⟩:=h
 exact⟨fv,⟨h1,heap_some_lt h2⟩,h2,h3,fun g hg=>⟨h4 g hg,(h3.lt g hg).2⟩⟩
theorem sh_new {W w0 w3 w4:World}{db pb lb n:Nat}{key:List UInt8}{d:Dk}{s:List Nat}{es:List (List UInt8)}{put:Nat}(hW:Below W.heap.size W w0)(h:KPub w0.heap.size w0 w3 db pb lb n key d s es put)(hn:n≤4200)(hb:Below w3.heap.size w3 w4)(hN:NetAt w4 (fun k=>k=w3.heap.size) w3.heap.size db ⟨[],[],0⟩):Sh W w4 (fun k=>W.heap.size≤k∧k < w4.heap.size) w3.heap.size db d ⟨[],[],0⟩:=by
 have h03:=h.bel.size
 have h34:=hb.size
 have hW0:=hW.size
 have hlt:w3.heap.size < w4.heap.size:=by
  obtain⟨lv,tv,-,h2,-⟩:=hN
  exact heap_some_lt h2
 refine⟨(hW.trans (h.bel.mono hW0)).trans (hb.mono (by omega)),fun _ h=>h,?_,hN.mono (fun k hk=>by subst hk;exact⟨by omega,hlt⟩),⟨?_,fun f hf=>?_,by simp,by simp,by simp,by simp⟩⟩
 ·exact((h.below hb).disk.bound).mono (fun k hk=>⟨by omega,hk.2⟩)
 ·have:=h.ks.count hn;omega
 ·have:=h.ks.num.data f hf;omega
theorem sh_trusted {W w w1:World}{O N:Nat→Prop}{pb nb db:Nat}{d:Dk}{c:Cl}{n:Nt}(hs:Sh W w O nb db d n)(h:KC W w O pb nb c N)(ht:Turn N [TCli] w w1):Sh W w1 O nb db d n :=
 hs.past ht (fun k hk=>(h.own k hk).1) (by decide) (by decide) (by decide) (by decide) (by decide)
theorem sh_lie {W w w1:World}{O N:Nat→Prop}{pb nb db:Nat}{d:Dk}{c:Cl}{n:Nt}{ls:List Ly}(hs:Sh W w O nb db d n)(h:KC W w O pb nb c N)(ht:Turn O [85] w w1)(hN:NetAt w1 (Ext O w w1) nb db ⟨ls,List.replicate ls.length 0,n.fetches⟩)(hl:ls.length≤1048576)(hd:∀ l∈ls,l.data.length≤1048576):
  Sh W w1 (Ext O w w1) nb db d ⟨ls,List.replicate ls.length 0,n.fetches⟩∧KC W w1 (Ext O w w1) pb nb c N:=by
 have hW:=hs.base.size
 refine⟨⟨hs.base.trans (ht.below (fun k hk=>(hs.own k hk).1) hW),fun k hk=>?_,(hs.disk.stay ht (by decide) (by decide)).mono (fun _ h=> .inl h),hN,⟨hs.st.nf,hs.st.fl,fun l hl'=>?_,?_,hs.st.fe,fun t ht'=>?_⟩⟩,(h.other ht (fun k hk e=>(h.own k hk).2.2 e) (by decide)).grow (fun k hk e=>?_)⟩
 ·rcases hk with hk | hk
  ·exact⟨(hs.own k hk).1,Nat.lt_of_lt_of_le (hs.own k hk).2 ht.size⟩
  ·exact⟨by omega,hk.2⟩
 ·have:=hd l hl';omega
 ·show ls.length≤_;omega
 ·obtain rfl:=(List.mem_replicate.1 ht').2
  exact⟨Int.le_refl _,hs.st.fe⟩
 ·rcases e with e | e
  ·exact(h.own k hk).2.2 e
  ·have:=(h.own k hk).2.1;omega
end
section
def Cut (fs:Fs)(L:List Ly):Prop:=∀ l∈L,l.times=0∧∃ x,look fs l.path=some x∧l.data=x.dropLast
theorem lieIx_path {n:Nt}{p:List UInt8}{k:Nat}(h:lieIx n p=some k):n.lies.getD k .none∈n.lies∧(n.lies.getD k .none).path=p:=by
 obtain⟨hk,h⟩:=lieIx_some h
 refine⟨by rw [List.getD_eq_getElem?_getD,List.getElem?_eq_getElem hk];exact List.getElem_mem _,?_⟩
 unfold liesAt at h
 simp only [Bool.and_eq_true,decide_eq_true_eq] at h
 exact h.1
theorem cut_told {fs:Fs}{L:List Ly}{n:Nt}(hC:Cut fs L)(hn:n.lies=L)(p:List UInt8)(ht:(netF fs n p).1.2=true):∃ x,look fs p=some x∧((netF fs n p).1.1=x∨(netF fs n p).1.1=x.dropLast):=by
 unfold netF at ht ⊢
 cases e:lieIx n p with
 | some k =>
  obtain⟨h1,h2⟩:=lieIx_path e
  rw [hn] at h1
  obtain⟨-,x,h3,h4⟩:=hC _ h1
  rw [hn] at h2
  simp only
  rw [hn]
  rw [h2] at h3
  exact⟨x,h3,.inr h4⟩
 | none =>
  rw [e] at ht
  simp only at ht ⊢
  cases e2:look fs p with
  | none=>rw [e2] at ht;simp at ht
  | some x=>exact⟨x,rfl,.inl rfl⟩
theorem cut_lies (fs:Fs)(n:Nt)(p:List UInt8):(netF fs n p).2.lies=n.lies:=by
 unfold netF
 cases lieIx n p with
 | some k=>rfl
 | none =>
  simp only
  cases look fs p<;>rfl
theorem unbN_back:∀(f:Nat) (d:List UInt8)(ls:List (List UInt8)) ,unbN f d=some ls→bunL ls=d:=by
 intro f
 induction f with
 | zero =>
  intro d ls h
  cases d with
  | nil=>simp only [unbN,Option.some.injEq] at h;subst h;rfl
  | cons c r=>simp [unbN] at h
 | succ f ih =>
  intro d ls h
  cases d with
  | nil=>simp only [unbN,Option.some.injEq] at h;subst h;rfl
  | cons c r =>
   simp only [unbN] at h
   split at h
   ·rename_i hc
    cases e:unbN f (r.drop c.toNat) with
    | none=>rw [e] at h;simp at h
    | some t =>
     rw [e] at h
     simp only [Option.map_some,Option.some.injEq] at h
     subst h
     have ht:=ih _ _ e
     have hlen:(r.take c.toNat).length=c.toNat:=by simp;omega
     show bun1 (r.take c.toNat)++bunL t=_
     rw [ht]
     unfold bun1
     rw [hlen]
     simp
   ·simp at h
theorem unbF_back {d:List UInt8}{ls:List (List UInt8)}(h:unbF d=some ls):bunL ls=d∧∀ l∈ls,l.length≤20:=by
 unfold unbF at h
 cases e:unb d with
 | none=>rw [e] at h;simp at h
 | some x =>
  rw [e] at h
  simp only at h
  split at h
  ·rename_i ho
   simp only [Option.some.injEq] at h
   subst h
   refine⟨unbN_back _ _ _ e,fun l hl=>?_⟩
   unfold okB at ho
   simp only [Bool.and_eq_true,List.all_eq_true,decide_eq_true_eq] at ho
   exact ho.2.2 l hl
  ·simp at h
theorem bunL_part:∀(a b:List (List UInt8)) (r:List UInt8),(∀ l∈a,l.length≤20)→(∀ l∈b,l.length≤20)→a.length=b.length→bunL a++r=bunL b→r=[]
 | [],[],r,_,_,_,h=>by simpa [bunL] using h
 | [],_::_,_,_,_,hl,_=>by simp at hl
 | _::_,[],_,_,_,hl,_=>by simp at hl
 | x::a,y::b,r,ha,hb,hl,h=>by
  have hx:=ha x List.mem_cons_self
  have hy:=hb y List.mem_cons_self
  have e1:bunL (x::a)=UInt8.ofNat x.length::(x++bunL a):=by simp [bunL,bun1]
  have e2:bunL (y::b)=UInt8.ofNat y.length::(y++bunL b):=by simp [bunL,bun1]
  rw [e1,e2,List.cons_append] at h
  simp only [List.cons.injEq,List.append_assoc] at h
  obtain⟨h1,h2⟩:=h
  have hlen:x.length=y.length:=by
   have:=congrArg UInt8.toNat h1
   simp only [UInt8.toNat_ofNat'] at this
   omega
  obtain⟨rfl,h3⟩:=List.append_inj h2 hlen
  exact bunL_part a b r (fun l hl'=>ha l (List.mem_cons_of_mem _ hl')) (fun l hl'=>hb l (List.mem_cons_of_mem _ hl')) (by simpa using hl) h3
theorem read_cut (es:List (List UInt8))(h20:∀ e∈es,e.length≤20)(l:Int)(hl:-1≤l)(j w:Nat)(hw1:1≤w)(hj:4*j+w≤cntL l es.length):readF l w (fileD es l j w).dropLast=none:=by
 unfold readF
 by_cases h:l=-1
 ·subst h
  have hc:cntL (-1) es.length=es.length:=by unfold cntL;simp
  rw [hc] at hj
  rw [if_pos rfl,fileD_bun es j w hj]
  have hlen:((es.drop (4*j)).take w).length=w:=by simp;omega
  have hs:∀ x∈(es.drop (4*j)).take w,x.length≤20:=fun x hx=>h20 x (List.mem_of_mem_drop (List.mem_of_mem_take hx))
  generalize (es.drop (4*j)).take w=ls at *
  cases hu:unbF (bunL ls).dropLast with
  | none=>rfl
  | some e =>
   simp only
   split
   ·rename_i he
    exfalso
    obtain⟨h1,h2⟩:=unbF_back hu
    have hne:bunL ls≠[]:=by
     cases ls with
     | nil=>simp at hlen;omega
     | cons x r=>simp [bunL,bun1]
    have h3:=List.dropLast_concat_getLast hne
    rw [← h1] at h3
    have:=bunL_part e ls _ h2 hs (by omega) h3
    simp at this
   ·rfl
 ·rw [if_neg h]
  obtain⟨L,rfl⟩:∃ L:Nat,l=(L:Int):=⟨l.toNat,by omega⟩
  rw [if_neg]
  rw [List.length_dropLast,tile_len]
  omega
theorem from_true {fs:Fs}{es:List (List UInt8)}(hF:FromOf fs es)(hl:es.length≤1000000){l:Int}{j w:Nat}(hg:isL l)(hw1:1≤w)(hw4:w≤4)(hj:j≤1000000){x:List UInt8}(h:look fs (nameF l (j:Int) (w:Int))=some x):x=fileD es l j w∧4*j+w≤cntL l es.length:=by
 rcases hF _ _ h with e | ⟨n,hn,hm⟩
 ·exact absurd e nameF_cp
 ·obtain⟨l',j',h1,h2,h3⟩:=mem_want.1 hm
  unfold fileF at h3
  simp only [Prod.mk.injEq] at h3
  have hlen:(es.take n).length=n:=by simp;omega
  rw [hlen] at h2 h3
  have c2:=cntL_le l' n
  have hb:¬ badName l (j:Int) (w:Int):=by unfold badName;unfold isL at hg;omega
  obtain⟨rfl,ej,ew⟩:=nameF_inj hb (good_file h1 h2) (by omega) (by omega) h3.1
  have ej':j=j':=by omega
  subst ej'
  have ew':w=wid (cntL l n) j:=by omega
  have hc:4*j+wid (cntL l n) j≤cntL l n:=by unfold wid;omega
  refine⟨by rw [h3.2,ew',fileD_first es n l j _ hc hn],?_⟩
  have:=cntL_mono l hn
  omega
section
variable {fs : Fs} {es : List (List UInt8)} {L : List Ly}
theorem cut_place (hC:Cut fs L)(hF:FromOf fs es)(h20:∀ e∈es,e.length≤20)(hl:es.length≤1000000){n n':Nt}(hn:n.lies=L){l:Int}{j w:Nat}(hg:isL l)(hw1:1≤w)(hw4:w≤4)(hj:j≤1000000){f:Fl}(v:Int)(h:placeM (netF fs) n (l,(j:Int),(w:Int))=(some f,n')):GdF (TrueQ es) (l,(j:Int),v) f:=by
 unfold placeM at h
 simp only [Prod.mk.injEq] at h
 obtain⟨h,-⟩:=h
 split at h
 ·rename_i ht
  obtain⟨x,h1,h2⟩:=cut_told hC hn _ ht
  obtain⟨rfl,hle⟩:=from_true hF hl hg hw1 hw4 hj h1
  rcases h2 with e | e
  ·rw [e] at h
   obtain⟨g,hg1,hg2⟩:=read_true es h20 l hg.1 j w hw1 hw4 hle
   rw [hg1] at h
   simp only [Option.some.injEq] at h
   subst h
   have hcm:=readF_came hg1
   refine⟨hcm.len,fun k hk=>⟨fun hf=>by rw [hcm.fits] at hf;simp at hf,fun ht=>⟨?_,?_⟩⟩⟩
   ·exact hg2 k hk ht
   ·rw [hcm.there k hk] at ht
    simp only [decide_eq_true_eq] at ht
    unfold trueN
    simp only [Int.toNat_natCast]
    omega
  ·rw [e,read_cut es h20 l hg.1 j w hw1 hle] at h
   simp at h
 ·simp at h
theorem fed_cut (hC:Cut fs L)(hF:FromOf fs es)(h20:∀ e∈es,e.length≤20)(hl:es.length≤1000000)(size:Nat)(hs:size≤es.length):Fed (netF fs) (fun n:Nt=>n.lies=L) (TrueQ es) size where
 bare:=trueQ_bare es
 keep:=fun s p h=>(cut_lies fs s p).trans h
 came:=fun s l j f s' hI hl1 hj h=>by
  have hL:l≤20:=by
   rcases Int.lt_or_le 20 l with h' | h'
   ·exfalso
    have h1:4 ^ 21≤4 ^ l.toNat:=Nat.pow_le_pow_right (by omega) (by omega)
    have h2:cntL l size=0:=by unfold cntL;exact Nat.div_eq_of_lt (Nat.lt_of_lt_of_le (by omega:size < 4 ^ 21) h1)
    omega
   ·exact h'
  have hcl:=cntL_le l size
  have hj4:j / 4≤1000000:=by omega
  obtain⟨w,hw,hw1,hw4,-⟩:=placeN_wid size l j hj
  rw [hw] at h ⊢
  unfold fileM at h
  cases e1:placeM (netF fs) s (l,((j / 4:Nat):Int),(w:Int)) with
  | mk o s1 =>
   rw [e1] at h
   cases o with
   | some g =>
    simp only [Prod.mk.injEq,Option.some.injEq] at h
    obtain⟨rfl,-⟩:=h
    exact cut_place hC hF h20 hl hI ⟨hl1,hL⟩ hw1 hw4 hj4 _ e1
   | none =>
    simp only at h
    split at h
    ·simp at h
    ·have hI1:s1.lies=L:=by
      have:=cut_lies fs s (nameP (l,((j / 4:Nat):Int),(w:Int)))
      have e2:(placeM (netF fs) s (l,((j / 4:Nat):Int),(w:Int))).2=s1:=by rw [e1]
      unfold placeM at e2
      simp only at e2
      rw [← e2]
      exact this.trans hI
     cases e2:placeM (netF fs) s1 (l,((j / 4:Nat):Int),4) with
     | mk o2 s2 =>
      rw [e2] at h
      cases o2 with
      | none=>simp at h
      | some g =>
       simp only [Prod.mk.injEq,Option.some.injEq] at h
       obtain⟨rfl,-⟩:=h
       have hg:=cut_place (w:=4) hC hF h20 hl hI1 ⟨hl1,hL⟩ (by omega) (by omega) hj4 (w:Int) e2
       exact⟨clipF_len _ _ hg.1 (by omega),fun k hk=>by
        rw [clipF_get]
        split
        ·exact hg.2 k hk
        ·exact gd_no _ _ _⟩
theorem cut_read (hC:Cut fs L)(hF:FromOf fs es)(h20:∀ e∈es,e.length≤20)(hl:es.length≤1000000){n n':Nt}(hn:n.lies=L){c c':Cl}{t i:Nat}(h:CI es c t)(hi:i < c.size)(inc:List UInt8→Nat→Nat→List (List UInt8)→List UInt8→Bool){o:Sum Er (List UInt8×List (List UInt8))}(e:readC (netF fs) inc c n i=(o,c',n')):
  CI es c' (t+1)∧∀ x ps,o= .inr (x,ps)→x=es.getD i []:=by
 have h63:c.size < 2 ^ 63:=by have:=h.le;omega
 have hj:i < cntL (-1) c.size:=by simpa [cntL] using hi
 have hFed:=fed_cut hC hF h20 hl c.size h.le
 have hS:=led_stp hFed h.gd (fun x:Nt=>x.fetches) (netF_cnt fs) n.fetches
 have h0:=led_start (fun m:Nt=>m.lies=L) (TrueQ es) (fun x:Nt=>x.fetches) n hn
 have hk1:=h.later (show t≤t+1 by omega)
 unfold readC at e
 cases hnd:needM (netF fs) c.proved c.size ⟨n,[]⟩ (-1) i with
 | mk o1 m1 =>
  rw [hnd] at e
  have l1:=hS.step 0 _ _ _ _ _ h0 (by omega) hj hnd
  cases o1 with
  | inl p =>
   simp only [Prod.mk.injEq] at e
   obtain⟨rfl,rfl,rfl⟩:=e
   exact⟨hk1,fun x ps he=>by cases he⟩
  | inr own =>
   simp only at e
   have hv:=((needM_fed hFed hnd h.gd (gdM_nil _) hn (by omega) hj).2.2 own rfl).2
   obtain⟨hv1,hv2⟩:=hv.1.1 rfl
   rw [trueN_place] at hv1 hv2
   have hin:∀ x∈pathS 64 0 c.size i,x.1+x.2≤c.size∧1≤x.2:=fun x hx=>by
    have:=pathS_in 64 0 c.size i (by omega) x hx
    omega
   have hcost:=path_cost c.size i h63
   cases hr:rootsM (netF fs) c.proved c.size m1 (pathS 64 0 c.size i) with
   | mk o2 m2 =>
    rw [hr] at e
    have l2:=rootsM_stp hS h63 _ _ _ _ _ l1 hin hr
    have b3:=l2.2.2.2.2
    cases o2 with
    | inl p =>
     simp only [Prod.mk.injEq] at e
     obtain⟨rfl,rfl,rfl⟩:=e
     exact⟨hk1,fun x ps he=>by cases he⟩
    | inr ps =>
     simp only at e
     split at e
     ·simp only [Prod.mk.injEq] at e
      obtain⟨rfl,rfl,rfl⟩:=e
      have hq:SeqN (netF fs) c.proved c.size ⟨n,[]⟩ ((placeN c.size (-1) i,i % 4)::((pathS 64 0 c.size i).flatMap fun s=>rootPl c.size 64 s.1 s.2)) m2:= .cons hj hnd (rootsM_seq h63 _ _ _ _ hin hr)
      refine⟨⟨h.le,?_,?_,h.rt,h.room.remember _,?_⟩,fun x qs he=>by cases he;exact hv2⟩
      ·exact remember_gd c.room _ _ h.gd (settleE_gd es c.size m2.needed i own.hash l2.1 (by have:=h.le;omega) hv1).2
      ·refine InS.remember c.room _ _ h.ins ?_
       refine InS.keys (a:=m2.needed) ?_ (settleE_keys ..)
       intro x hx
       rcases hq.keys h.gd.wf (gdM_nil _) x hx with ⟨y,hy,-⟩ | ⟨q,hqm,eq⟩
       ·simp at hy
       ·rw [← eq]
        rcases List.mem_cons.1 hqm with rfl | hqm
        ·exact placeN_in c.size (-1) i
        ·obtain⟨sp,hsp,hqs⟩:=List.mem_flatMap.1 hqm
         obtain⟨i1,i2⟩:=hin sp hsp
         obtain⟨l',j',e1,-⟩:=rootPl_in c.size h63 63 sp.1 sp.2 i1 i2 (by omega) q hqs
         rw [e1]
         exact placeN_in c.size _ _
      ·have ek:=congrArg List.length (settleE_keys c.size m2.needed i own.hash)
       simp only [List.length_map] at ek
       have:=remember_len c.room (settleE c.size m2.needed i own.hash) c.proved
       have:=h.len
       simp only
       omega
     ·simp only [Prod.mk.injEq] at e
      obtain⟨rfl,rfl,rfl⟩:=e
      exact⟨hk1,fun x ps he=>by cases he⟩
theorem hexD_10 (d:Nat)(h:d < 16):hexD d≠10:=by
 intro e
 have:=congrArg UInt8.toNat e
 rw [hexD_val d h] at this
 split at this
 ·have:(10:UInt8).toNat=10:=rfl
  omega
 ·have:(10:UInt8).toNat=10:=rfl
  omega
theorem hexF_10 (l:List UInt8):(10:UInt8)∉hexF l:=by
 intro h
 unfold hexF at h
 obtain⟨y,hy,hm⟩:=List.mem_flatten.1 h
 obtain⟨b,-,rfl⟩:=List.mem_map.1 hy
 unfold hex1 at hm
 have hb:=b.toNat_lt
 rcases List.mem_cons.1 hm with e | hm
 ·exact hexD_10 _ (by omega) e.symm
 ·rw [List.mem_singleton] at hm
  exact hexD_10 _ (by omega) hm.symm
theorem sign_cut (n:Nat)(root key:List UInt8)(m:Nat)(r key':List UInt8):¬(signF n root key).dropLast=signF m r key':=by
 intro e
 have h1:(signF n root key).dropLast=linesF n root++lastF n root key:=by unfold signF;rw [List.dropLast_concat]
 rw [h1] at e
 have hl:(lastF n root key).length=16:=by unfold lastF;rw [hexF_len];rfl
 have hne:lastF n root key≠[]:=by intro h;rw [h] at hl;simp at hl
 have h2:=congrArg List.getLast? e
 have e3:(signF m r key').getLast?=some 10:=by unfold signF;simp
 rw [e3,List.getLast?_append,List.getLast?_eq_some_getLast hne] at h2
 simp only [Option.some_or,Option.some.injEq] at h2
 exact hexF_10 (hash (key++[0]++linesF n root)) (h2▸List.getLast_mem hne)
theorem cut_update (hC:Cut fs L){key:List UInt8}(hcp:look fs cpF=some (signF es.length (rootT es) key))(hl:es.length≤1000000){n n':Nt}(hn:n.lies=L){c c':Cl}{t:Nat}(h:CI es c t)(hsz:c.size=es.length)(hk:c.key=key)(con:Nat→Nat→List UInt8→List UInt8→List (List UInt8)→Bool){q:Option (Nat×List UInt8)}(hq:ChkIs c.key (netF fs n cpF).1 q){o:Sum Er (List (List UInt8))}(e:updC (netF fs) con c (netF fs n cpF).2 q=(o,c',n')):
  CI es c' (t+1)∧c'.size=c.size:=by
 have hk1:=h.later (show t≤t+1 by omega)
 cases q with
 | none =>
  unfold updC at e
  simp only [Prod.mk.injEq] at e
  obtain⟨rfl,rfl,rfl⟩:=e
  exact⟨hk1,rfl⟩
 | some y =>
  obtain⟨m,r⟩:=y
  obtain⟨ht,hs⟩:=hq
  obtain⟨x,hx,hd⟩:=cut_told hC hn cpF ht
  rw [hcp] at hx
  simp only [Option.some.injEq] at hx
  subst hx
  rcases hd with hd | hd
  ·rw [hd,hk] at hs
   obtain⟨e1,e2⟩:=IsSign.inj hs ⟨by omega,rootT_8 _,rfl⟩
   subst e1 e2
   have er:rootT es=c.root:=by rw [h.rt,hsz,List.take_length]
   unfold updC proveC at e
   simp only [hsz,Nat.lt_irrefl,if_false,if_true,er] at e
   simp only [Prod.mk.injEq] at e
   obtain⟨rfl,rfl,rfl⟩:=e
   exact⟨⟨by show es.length≤_;omega,h.gd,by have:=h.ins;rw [hsz] at this;exact this,by show c.root=_;rw [h.rt,hsz],h.room,hk1.len⟩,hsz.symm⟩
  ·exfalso
   rw [hd] at hs
   exact sign_cut _ _ _ _ _ _ hs.2.2
end
end
end Go.Proofs.YtinhekmmdlhfkaaGreatDoor
