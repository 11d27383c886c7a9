import Derived.Test.YtinhekmmdlhfkaaGreatDoorG09
import Derived.Test.YtinhekmmdlhfkaaGreatDoorG49
import Derived.Lib.OwnBridge
import Derived.Deep.OwnRows
import Derived.Test.YtinhekmmdlhfkaaGreatDoorRows
import Derived.ProofKit
import Derived.OpenShut
import Derived.ShutString
import Derived.ChangeOld
import Derived.Below
import Derived.Deep.SlicePairs
import Derived.Test.YtinhekmmdlhfkaaGreatDoorG47
namespace Go.Proofs.YtinhekmmdlhfkaaGreatDoor
section
set_option maxHeartbeats 2000000
open Go.RowKit
set_option maxRecDepth 100000
def lcs (ls:List Ly):List Value:=ls.flatMap fun l=>[txv l.path,txv l.data,.bool l.fails,.int .i64 l.times]
theorem lcs_len (ls:List Ly):(lcs ls).length=ls.length*4:=by
 induction ls with
 | nil=>rfl
 | cons a r ih =>
  unfold lcs at ih ⊢
  rw [List.flatMap_cons,List.length_append,ih]
  simp only [List.length_cons,List.length_nil]
  omega
theorem lcs_one (ls:List Ly):∀ u∈lcs ls,u.oneCell'=true:=by
 intro u hu
 unfold lcs at hu
 obtain⟨f,-,h⟩:=List.mem_flatMap.1 hu
 simp only [List.mem_cons,List.not_mem_nil,or_false] at h
 rcases h with rfl | rfl | rfl | rfl<;>rfl
theorem lcs_at:∀(ls:List Ly) (j:Nat) (h:j < ls.length),(lcs ls)[j*4]?=some (txv ls[j].path)∧(lcs ls)[j*4+1]?=some (txv ls[j].data)∧(lcs ls)[j*4+2]?=some (.bool ls[j].fails)∧(lcs ls)[j*4+3]?=some (.int .i64 ls[j].times):=by
 intro ls
 induction ls with
 | nil=>intro j h;simp at h
 | cons a r ih =>
  intro j h
  have e:lcs (a::r)=txv a.path::txv a.data:: .bool a.fails:: .int .i64 a.times::lcs r:=by simp [lcs]
  cases j with
  | zero=>rw [e];exact⟨rfl,rfl,rfl,rfl⟩
  | succ j =>
   have:=ih j (by simpa using h)
   rw [e,show(j+1)*4=j*4+4 by omega]
   simpa using this
def Lss (w:World)(v:Value)(ls:List Ly):Prop:=∃ a cap,v= .slice a ls.length cap∧(ls=[]∨∃ b off,a=some ⟨b,off,none⟩∧∀ j u,(lcs ls)[j]?=some u→w.cell? ⟨b,off+j,none⟩=some u)
theorem Lss.below {w w':World}{v:Value}{ls:List Ly}(h:Lss w v ls)(hb:Below w.heap.size w w'):Lss w' v ls:=by
 obtain⟨a,cap,e,h | ⟨b,off,ea,hx⟩⟩:=h
 ·exact⟨a,cap,e,.inl h⟩
 ·exact⟨a,cap,e,.inr ⟨b,off,ea,fun j u hj=>by rw [hb.cell (p:=⟨b,_,none⟩) (cell_lt (hx j u hj))];exact hx j u hj⟩⟩
theorem infoLie:(Tryz.prog.info? 65).map (fun i=>(i.zero,i.size,i.bytes))=some (some (.agg #[.string ⟨#[]⟩,.string ⟨#[]⟩,.bool false,.int .i64 0]),4,48):=by kernel_rfl
theorem infoI64:(Tryz.prog.info? 3).map (fun i=>(i.zero,i.size,i.bytes))=some (some (.int .i64 0),1,8):=by kernel_rfl
theorem cloneL_zero (a:Addr)(c:Nat)(w:World):
  Calls Tryz.prog 36 #[.slice (some a) 0 c] w fun e w'=>∃ v',e= .returned v'∧Below w.heap.size w w'∧w'.ownsRow w.heap.size 65 4 v' 0 []:=by
 obtain⟨i,hi,hi'⟩:=Option.map_eq_some_iff.1 infoLie
 obtain⟨hz0,hz1,hz2⟩:i.zero=some (.agg #[.string ⟨#[]⟩,.string ⟨#[]⟩,.bool false,.int .i64 0])∧i.size=4∧i.bytes=48:=by simpa using hi'
 have heq:∀(w:World) (a:Option Addr) (n c n' c':Nat),(binOp .eql 55 (.slice a n c) (.slice none n' c')).run Tryz.prog w= .ok (.bool a.isNone) w:=fun w a n c n' c'=>Lib.run_eql_slice_nil w _ _ a n c n' c' Tryz.underlying55
 have hu:∀ w,Sem.run Tryz.prog (underlying 55) w= .ok (TypeDesc.slice 65) w:=run_underlying Tryz.underlying55
 go_enter Tryz.func36,Tryz.ntmps36
 go_wp2_with (at_builtin;refine wpList_append_own _ rfl _ _ 55 rfl w.heap.size 65 i (.agg #[.string ⟨#[]⟩,.string ⟨#[]⟩,.bool false,.int .i64 0]) 4 48 Tryz.underlying55 hi hz0 hz1 hz2 rfl (by decide) _ _ _ rfl (World.ownsRow_made w #[] 0 (Nat.le_refl _) (Nat.zero_le _) rfl) a 0 c [] rfl rfl (by intro j u hj;simp at hj) (by intro u hu;cases hu) (by unfold maxLen;omega) (by omega) (by simp) ?_)
 intro v' w1 hown hgrow hnil
 go_wp2_with fail
 go_ret
 exact⟨v',rfl,((Below.refl _ w).alloc (Nat.le_refl _) _).grown hgrow (by simp) (by intro k hk;simp [Value.ownBlock] at hk;omega),by simpa using hown⟩
theorem cloneL_any (v:Value)(ls:List Ly)(w:World)(hn:ls.length≤1000000000)(h:Lss w v ls):
  Calls Tryz.prog 36 #[v] w fun e w'=>∃ v',e= .returned v'∧Below w.heap.size w w'∧w'.ownsRow w.heap.size 65 4 v' ls.length (lcs ls):=by
 obtain⟨a,cap,rfl,rfl | ⟨b,off,rfl,hx⟩⟩:=h
 ·cases a with
  | none =>
   refine(AnyE.slices_Clone_nil Tryz.cloneLie 0 cap w).mono ?_
   rintro e w' ⟨rfl,rfl⟩
   exact⟨_,rfl,Below.refl _ _,rfl,.inl ⟨rfl,rfl⟩⟩
  | some a=>exact cloneL_zero a cap w
 ·obtain⟨i,hi,hi'⟩:=Option.map_eq_some_iff.1 infoLie
  obtain⟨hz0,hz1,hz2⟩:i.zero=some (.agg #[.string ⟨#[]⟩,.string ⟨#[]⟩,.bool false,.int .i64 0])∧i.size=4∧i.bytes=48:=by simpa using hi'
  refine(AnyE.slices_Clone Tryz.cloneLie i (.agg #[.string ⟨#[]⟩,.string ⟨#[]⟩,.bool false,.int .i64 0]) 4 48 hi hz0 hz1 hz2 rfl (by omega) Tryz.sizeOf65 b off ls.length cap (lcs ls) w (lcs_len ls) (by unfold maxLen;omega) (by omega) hx (lcs_one ls)).mono ?_
  rintro e w' ⟨v',rfl,ho,-,hb⟩
  exact⟨v',rfl,hb,ho⟩
theorem liesIn_owns {w:World}{B:Nat}{v:Value}{ls:List Ly}(h:w.ownsRow B 65 4 v ls.length (lcs ls)):LiesIn w v ls:=by
 rcases h.2 with ⟨rfl,h0⟩ | ⟨g,cap,cur,rfl,-,hg,hn,hm,hs,ht⟩
 ·exact⟨none,0,by rw [h0],.inl h0⟩
 ·refine⟨_,cap,rfl,.inr ⟨g,rfl,cur,hg,fun j hj=>?_⟩⟩
  have hc:∀ k u,k < ls.length*4→(lcs ls)[k]?=some u→cur[k]?=some u:=fun k u hk e=>by
   rw [← ht,List.getElem?_take,if_pos hk,Array.getElem?_toList] at e
   exact e
  obtain⟨e0,e1,e2,e3⟩:=lcs_at ls j hj
  exact⟨hc _ _ (by omega) e0,hc _ _ (by omega) e1,hc _ _ (by omega) e2,hc _ _ (by omega) e3⟩
theorem made_told (n:Nat):madeCells #[.int .i64 0] n=((List.replicate n (0:Int)).map (Value.int .i64)).toArray:=by
 apply Array.ext
 ·simp [madeCells]
 ·intro i h1 h2
  simp [madeCells,Nat.mod_one]
theorem lie_any (O:Nat→Prop)(nb db:Nat)(n:Nt)(v:Value)(ls:List Ly)(w:World)(hn:ls.length≤1000000000)(hN:NetAt w O nb db n)(h:Lss w v ls):
  Calls Tryz.prog 21 #[.pointer (some ⟨nb,0,none⟩),v] w fun r w'=>r= .returned (.tuple #[])∧Turn O [85] w w'∧NetAt w' (Ext O w w') nb db ⟨ls,List.replicate ls.length 0,n.fetches⟩:=by
 obtain⟨lv,tv,hO,hb,-,-,-⟩:=hN
 obtain⟨a,cap,e,-⟩:=id h
 have HCL:=hide (cloneL_any v ls w hn h)
 have HO:=hide hO
 have HB:=hide hb
 have hmk:=run_make_row' (P:=Tryz.prog) 23 3 (.int .i64 0) 8 Tryz.underlying23 infoI64 rfl .i64 .i64 ls.length (by omega) (by omega)
 clear hb h hO
 subst e
 go_enter Tryz.func21,Tryz.ntmps21
 go_wp2_with fail
 refine HCL.out.mono ?_
 rintro r w1 ⟨v',rfl,hb1,ho⟩
 have hT1:Turn O [] w w1:= .of_below hb1
 have HB1:=hide (hT1.keep HB.out (by simp))
 have HO1:=hide ho
 obtain⟨va,vc,rfl⟩:∃ a c,v'= .slice a ls.length c:=by
  rcases ho.2 with ⟨rfl,h0⟩ | ⟨g,cp,cur,rfl,-⟩
  ·exact⟨none,0,by rw [h0]⟩
  ·exact⟨_,_,rfl⟩
 have hne:nb≠w1.heap.size:=by have:=heap_some_lt HB1.out;omega
 obtain⟨c1,f1⟩:=dcell HB1.out 1 _ rfl
 have HB2:Hid (∀ o,((w1.setCell ⟨nb,1,none⟩ (.slice va ls.length vc)).alloc o).heap[nb]?=some (.cells #[dptr db,.slice va ls.length vc,tv,.int .i64 n.fetches] 85 (0,0))):=fun o=>(Turn.of_below (O:=O) (T:=[]) (below_alloc _ o)).keep (dset HB1.out 1 (.slice va ls.length vc)) (by simp)
 have f2:∀ o,((w1.setCell ⟨nb,1,none⟩ (.slice va ls.length vc)).alloc o).frozen? ⟨nb,2,none⟩=false:=fun o=>(dcell (HB2.out o) 2 _ rfl).2
 have c2:∀ o,((w1.setCell ⟨nb,1,none⟩ (.slice va ls.length vc)).alloc o).cell? ⟨nb,2,none⟩=some tv:=fun o=>(dcell (HB2.out o) 2 _ rfl).1
 have HS1:=hide hb1.size
 have HT2:Hid (∀ o,Turn O [85] w ((w1.setCell ⟨nb,1,none⟩ (.slice va ls.length vc)).alloc o)):=fun o=>((hT1.mono (T':=[85]) (fun _ h=>h) (by simp)).set (.inl HO.out) HB1.out (by simp) _).then_below (below_alloc _ o)
 have HX:Hid (∀ o,((w1.setCell ⟨nb,1,none⟩ (.slice va ls.length vc)).alloc o).ownsRow w.heap.size 65 4 (.slice va ls.length vc) ls.length (lcs ls)):=fun o=>ownsRow_turn (ownsRow_turn HO1.out ((Turn.refl (fun _=>True) [85] w1).set (.inl trivial) HB1.out (by simp) (.slice va ls.length vc)) (by decide)) (Turn.of_below (O:=O) (T:=[]) (below_alloc _ o)) (by simp)
 have HZ:Hid (∀ o,((w1.setCell ⟨nb,1,none⟩ (.slice va ls.length vc)).alloc o).heap[w1.heap.size]?=some o):=fun o=>by
  have:=heap_alloc_last (w1.setCell ⟨nb,1,none⟩ (.slice va ls.length vc)) o
  simpa [World.setCell] using this
 clear hb1 ho hT1 HB
 go_wp2_with fail
 go_end0
 have hb2:=HB2.out (.cells (madeCells #[.int .i64 0] ls.length) 3)
 have ht2:=HT2.out (.cells (madeCells #[.int .i64 0] ls.length) 3)
 have hx2:=HX.out (.cells (madeCells #[.int .i64 0] ls.length) 3)
 have hz2:=HZ.out (.cells (madeCells #[.int .i64 0] ls.length) 3)
 generalize (w1.setCell ⟨nb,1,none⟩ (.slice va ls.length vc)).alloc (.cells (madeCells #[.int .i64 0] ls.length) 3)=w2 at *
 have hs:Turn (fun _=>True) [85] w2 (w2.setCell ⟨nb,2,none⟩ (.slice (some ⟨w1.heap.size,0,none⟩) ls.length ls.length)):=(Turn.refl (fun _=>True) [85] w2).set (.inl trivial) hb2 (by simp) _
 have hlt:w1.heap.size < w2.heap.size:=heap_some_lt hz2
 refine⟨rfl,ht2.set (.inl HO.out) hb2 (by simp) _,_,_,.inl HO.out,dset hb2 2 _,liesIn_owns (ownsRow_turn hx2 hs (by decide)),⟨_,_,by rw [List.length_replicate],.inr ⟨w1.heap.size,rfl,.inr ⟨HS1.out,Nat.lt_of_lt_of_le hlt hs.size⟩,?_⟩⟩,by simp⟩
 rw [hs.keep hz2 (by decide),made_told]
end
section
open Go.ChangeShapes Go.WideShapes Go.ChangeAt Go.RowKit
set_option maxRecDepth 100000
theorem txv_of (s:ByteArray):Value.string s=txv s.data.toList:=by
 unfold txv
 congr 1
theorem bulk_mem {H:Type}:∀(l:List (DataW H)) (d:DataW H),d∈l→Rows.uptoBulk d≤Rows.uptoBulkAll l
 | [],_,h=>by simp at h
 | x::r,d,h=>by
  rw [Rows.uptoBulkAll]
  rcases List.mem_cons.1 h with rfl | h
  ·omega
  ·have:=bulk_mem r d h
   omega
theorem bulk_len {H:Type}:∀(l:List (DataW H)),(∀ d∈l,1≤Rows.uptoBulk d)→l.length≤Rows.uptoBulkAll l
 | [],_=>by simp
 | x::r,h=>by
  rw [Rows.uptoBulkAll,List.length_cons]
  have h1:=h x List.mem_cons_self
  have h2:=bulk_len r (fun d hd=>h d (List.mem_cons_of_mem _ hd))
  omega
theorem bulk_pos {H:Type}(d:DataW H):1≤Rows.uptoBulk d:=by
 cases d with
 | lit l=>cases l<;>simp [Rows.uptoBulk]
 | _=>simp [Rows.uptoBulk]
theorem bulk_elem {H:Type}{D:Nat→DataW H}{len k i:Nat}{sp:List (DataW H)}(hi:i < len)(h:Rows.uptoBulk (D i)=k):k≤Rows.uptoBulk (.slice ((List.range len).map D) sp)∧len≤Rows.uptoBulk (.slice ((List.range len).map D) sp):=by
 have h1:=bulk_mem ((List.range len).map D) (D i) (List.mem_map.2 ⟨i,List.mem_range.2 hi,rfl⟩)
 have h2:=bulk_len ((List.range len).map D) (fun d _=>bulk_pos d)
 rw [List.length_map,List.length_range] at h2
 rw [Rows.uptoBulk]
 omega
theorem open_lies {H:Type}{enc:TypeId×Value→H}{w:World}{base:Nat}{spare:Nat→Bool}{held:Bool}{fuel:Nat}{x:DataW H×List MemPlace}{v:Value}
  (h:DataW.trod enc Tryz.prog w base spare held fuel 55 [v]=some x) :
  ∃ ls:List Ly,ls.length≤Rows.uptoBulk x.1∧(∀ l∈ls,l.data.length≤Rows.uptoBulk x.1)∧Lss w v ls:=by
 have ce:Tryz.prog.cellsOf 65=4:=by kernel_rfl
 have c3:Tryz.prog.cellsOf 3=1:=by kernel_rfl
 have c4:Tryz.prog.cellsOf 4=1:=by kernel_rfl
 have c9:Tryz.prog.cellsOf 9=1:=by kernel_rfl
 rcases Go.Deep.open_slice Tryz.underlying55 h with ⟨hcs,_⟩ | ⟨ad,l,c,m,n,D,Pl,hcs,hb,hl,hm,hmm,rfl,hx⟩
 ·simp at hcs
  subst hcs
  exact⟨[],Nat.zero_le _,by simp,⟨none,0,rfl,.inl rfl⟩⟩
 ·simp at hcs
  subst hcs
  have hle:l≤m:=by rw [hmm];split<;>omega
  have each:∀ i,i < l→∃ o:List UInt8×List UInt8×Bool×Int,w.cell? (ad.add (i*4))=some (txv o.1)∧w.cell? (ad.add (i*4+1))=some (txv o.2.1)∧w.cell? (ad.add (i*4+2))=some (.bool o.2.2.1)∧w.cell? (ad.add (i*4+3))=some (.int .i64 o.2.2.2)∧o.2.1.length≤Rows.uptoBulk (D i):=by
   intro i hi
   obtain⟨cs',h1,h2⟩:=hx i (by omega)
   rw [ce] at h1
   obtain⟨_,hlen,hcell⟩:=World.cells?_some h1
   obtain⟨xs,k,hk,hxy,_,hxl,hf⟩:=DataW.trod_struct Tryz.underlying65 h2
   match xs,hxl,cs',hlen with
   | [y0,y1,y2,y3],_,[v0,v1,v2,v3],_ =>
    have g0:DataW.trod enc Tryz.prog w base spare held k 9 [v0]=some y0:=by have:=hf 0 _ rfl;simpa [c9] using this
    have g1:DataW.trod enc Tryz.prog w base spare held k 9 [v1]=some y1:=by have:=hf 1 _ rfl;simpa [c9] using this
    have g2:DataW.trod enc Tryz.prog w base spare held k 4 [v2]=some y2:=by have:=hf 2 _ rfl;simpa [c4] using this
    have g3:DataW.trod enc Tryz.prog w base spare held k 3 [v3]=some y3:=by have:=hf 3 _ rfl;simpa [c3] using this
    obtain⟨n0,e0,-,-⟩:=DataW.trod_string Tryz.underlying9 g0
    obtain⟨n1,e1,b1,-⟩:=DataW.trod_string Tryz.underlying9 g1
    obtain⟨n2,e2,-⟩:=DataW.trod_bool Tryz.underlying4 g2
    obtain⟨n3,e3,-,-⟩:=DataW.trod_int Tryz.underlying3 g3
    simp only [List.cons.injEq,and_true] at e0 e1 e2 e3
    have d0:=hcell 0 (by omega)
    have d1:=hcell 1 (by omega)
    have d2:=hcell 2 (by omega)
    have d3:=hcell 3 (by omega)
    rw [Go.Deep.add_add] at d0 d1 d2 d3
    refine⟨(n0.data.toList,n1.data.toList,n2,n3),by simpa [e0,txv_of] using d0,by simpa [e1,txv_of] using d1,by simpa [e2] using d2,by simpa [e3] using d3,?_⟩
    have hD:D i= .agg [y0.1,y1.1,y2.1,y3.1]:=by
     have:=congrArg Prod.fst hxy
     simpa using this
    rw [hD,b1,Rows.uptoBulk,Rows.uptoBulkAll,Rows.uptoBulkAll,Rows.uptoBulk]
    show n1.data.toList.length≤_
    omega
  obtain⟨g,hg⟩:=Go.Deep.choose_lt each
  have hlen:((List.range l).map fun i=>(⟨(g i).1,(g i).2.1,(g i).2.2.1,(g i).2.2.2⟩:Ly)).length=l:=by simp
  refine⟨(List.range l).map fun i=>(⟨(g i).1,(g i).2.1,(g i).2.2.1,(g i).2.2.2⟩:Ly),?_,fun o ho=>?_,⟨some ad,c,by rw [hlen],?_⟩⟩
  ·rw [hlen]
   by_cases h0:l=0
   ·rw [h0];exact Nat.zero_le _
   ·exact(bulk_elem (D:=D) (show 0 < l by omega) rfl).2
  ·obtain⟨i,hi,rfl⟩:=List.mem_map.1 ho
   have hi':=List.mem_range.1 hi
   have h1:=(hg i hi').2.2.2.2
   have h2:=(bulk_elem (D:=D) (sp:=(List.range (m - l)).map fun j=>D (l+j)) hi' rfl).1
   exact Nat.le_trans h1 h2
  ·by_cases h0:l=0
   ·left;simp [h0]
   ·right
    obtain⟨b,off,spot⟩:=ad
    have hspot:spot=none:=by simpa [Addr.add] using World.cell?_spot (hg 0 (by omega)).1
    subst hspot
    refine⟨b,off,rfl,fun j u hj=>?_⟩
    have hjl:j < l*4:=by
     have h1:=(List.getElem?_eq_some_iff.1 hj).1
     rw [lcs_len,hlen] at h1
     exact h1
    have hi:j / 4 < l:=by omega
    obtain⟨q0,q1,q2,q3,-⟩:=hg (j / 4) hi
    obtain⟨p0,p1,p2,p3⟩:=lcs_at ((List.range l).map fun i=>(⟨(g i).1,(g i).2.1,(g i).2.2.1,(g i).2.2.2⟩:Ly)) (j / 4) (by rw [hlen];exact hi)
    rw [List.getElem_map,List.getElem_range] at p0 p1 p2 p3
    rw [Addr.add_mid] at q0 q1 q2 q3
    rcases(by omega:j=j / 4*4∨j=j / 4*4+1∨j=j / 4*4+2∨j=j / 4*4+3) with e | e | e | e
    ·rw [e] at hj ⊢;rw [p0] at hj;rw [← hj];exact q0
    ·rw [e] at hj ⊢;rw [p1] at hj;rw [← hj];exact q1
    ·rw [e] at hj ⊢;rw [p2] at hj;rw [← hj];exact q2
    ·rw [e] at hj ⊢;rw [p3] at hj;rw [← hj];exact q3
theorem open_ints {H:Type}{enc:TypeId×Value→H}{w:World}{base:Nat}{spare:Nat→Bool}{held:Bool}{fuel:Nat}{x:DataW H×List MemPlace}{v:Value}
  (h:DataW.trod enc Tryz.prog w base spare held fuel 23 [v]=some x) :
  ∃ ls:List Int,ls.length≤Rows.uptoBulk x.1∧(∀ a∈ls,-9223372036854775808≤a∧a≤9223372036854775807)∧Iss w v ls:=by
 have ce:Tryz.prog.cellsOf 3=1:=by kernel_rfl
 rcases Go.Deep.open_slice Tryz.underlying23 h with ⟨hcs,_⟩ | ⟨ad,l,c,m,n,D,Pl,hcs,hb,hl,hm,hmm,rfl,hx⟩
 ·simp at hcs
  subst hcs
  exact⟨[],Nat.zero_le _,by simp,⟨none,0,rfl,Nat.le_refl _,.inl rfl⟩⟩
 ·simp at hcs
  subst hcs
  have hle:l≤m:=by rw [hmm];split<;>omega
  have each:∀ i,i < l→∃ o:Int,w.cell? (ad.add (i*1))=some (.int .i64 o)∧-9223372036854775808≤o∧o≤9223372036854775807:=by
   intro i hi
   obtain⟨cs',h1,h2⟩:=hx i (by omega)
   rw [ce] at h1
   obtain⟨_,hlen,hcell⟩:=World.cells?_some h1
   obtain⟨n0,e0,-,wf⟩:=DataW.trod_int Tryz.underlying3 h2
   subst e0
   have d0:=hcell 0 (by omega)
   rw [Go.Deep.add_add] at d0
   have b1:=bounds_i64 wf
   exact⟨n0,by simpa using d0,b1.1,b1.2⟩
  obtain⟨g,hg⟩:=Go.Deep.choose_lt each
  have hlen:((List.range l).map g).length=l:=by simp
  refine⟨(List.range l).map g,?_,fun o ho=>?_,⟨some ad,c,by rw [hlen],by rw [hlen];exact hl,?_⟩⟩
  ·rw [hlen]
   by_cases h0:l=0
   ·rw [h0];exact Nat.zero_le _
   ·exact(bulk_elem (D:=D) (show 0 < l by omega) rfl).2
  ·obtain⟨i,hi,rfl⟩:=List.mem_map.1 ho
   exact(hg i (List.mem_range.1 hi)).2
  ·by_cases h0:l=0
   ·left;simp [h0]
   ·right
    obtain⟨b,off,spot⟩:=ad
    have hspot:spot=none:=by simpa [Addr.add] using World.cell?_spot (hg 0 (by omega)).1
    subst hspot
    refine⟨b,off,rfl,fun i hi=>?_⟩
    rw [hlen] at hi
    have:=(hg i hi).1
    rw [Addr.add_mid,Nat.mul_one] at this
    rw [List.getElem_map,List.getElem_range]
    exact this
def Stss (w:World)(v:Value)(ss:List (Int×List Ly)):Prop :=
 ∃ a cap,v= .slice a ss.length cap∧ss.length≤cap∧(ss=[]∨∃ b off,a=some ⟨b,off,none⟩∧∀ i (h:i < ss.length),w.cell? ⟨b,off+i*2,none⟩=some (.int .i64 ss[i].1)∧∃ u,w.cell? ⟨b,off+i*2+1,none⟩=some u∧Lss w u ss[i].2)
theorem open_steps {H:Type}{enc:TypeId×Value→H}{w:World}{base:Nat}{spare:Nat→Bool}{held:Bool}{fuel:Nat}{x:DataW H×List MemPlace}{v:Value}
  (h:DataW.trod enc Tryz.prog w base spare held fuel 53 [v]=some x) :
  ∃ ss:List (Int×List Ly),(∀ s∈ss,-9223372036854775808≤s.1∧s.1≤9223372036854775807∧s.2.length≤Rows.uptoBulk x.1∧∀ l∈s.2,l.data.length≤Rows.uptoBulk x.1)∧Stss w v ss:=by
 rcases Go.Deep.open_slice_pairs Tryz.underlying53 Tryz.underlying57 (by kernel_rfl) rfl rfl (by kernel_rfl) (by kernel_rfl) h with ⟨hcs,_⟩ | ⟨ad,l,c,m,n,V0,V1,D0,D1,P0,P1,hcs,hb,hl,hm,hmm,rfl,hx⟩
 ·simp at hcs
  subst hcs
  exact⟨[],by simp,⟨none,0,rfl,Nat.le_refl _,.inl rfl⟩⟩
 ·simp at hcs
  subst hcs
  have hle:l≤m:=by rw [hmm];split<;>omega
  have each:∀ i,i < l→∃ o:Int×List Ly,w.cell? (ad.add (i*2))=some (.int .i64 o.1)∧w.cell? (ad.add (i*2+1))=some (V1 i)∧Lss w (V1 i) o.2∧-9223372036854775808≤o.1∧o.1≤9223372036854775807∧o.2.length≤Rows.uptoBulk (D1 i)∧∀ y∈o.2,y.data.length≤Rows.uptoBulk (D1 i):=by
   intro i hi
   obtain⟨h0,h1,h2,h3⟩:=hx i (by omega)
   obtain⟨n0,e0,-,wf⟩:=DataW.trod_int Tryz.underlying3 h2
   simp only [List.cons.injEq,and_true] at e0
   obtain⟨ls,a1,a2,a3⟩:=open_lies h3
   have b1:=bounds_i64 wf
   exact⟨(n0,ls),by rw [h0,e0],h1,a3,b1.1,b1.2,a1,a2⟩
  obtain⟨g,hg⟩:=Go.Deep.choose_lt each
  have hlen:((List.range l).map g).length=l:=by simp
  refine⟨(List.range l).map g,fun o ho=>?_,⟨some ad,c,by rw [hlen],by rw [hlen];exact hl,?_⟩⟩
  ·obtain⟨i,hi,rfl⟩:=List.mem_map.1 ho
   have hi':=List.mem_range.1 hi
   obtain⟨-,-,-,q1,q2,q3,q4⟩:=hg i hi'
   have hB:Rows.uptoBulk (D1 i)≤Rows.uptoBulk (.slice ((List.range l).map fun i=> .agg [D0 i,D1 i]) ((List.range (m - l)).map fun j=> .agg [D0 (l+j),D1 (l+j)]):DataW H):=by
    have h1:=(bulk_elem (D:=fun i=>(.agg [D0 i,D1 i]:DataW H)) (sp:=(List.range (m - l)).map fun j=> .agg [D0 (l+j),D1 (l+j)]) hi' rfl).1
    refine Nat.le_trans ?_ h1
    rw [Rows.uptoBulk,Rows.uptoBulkAll,Rows.uptoBulkAll,Rows.uptoBulkAll]
    omega
   exact⟨q1,q2,Nat.le_trans q3 hB,fun y hy=>Nat.le_trans (q4 y hy) hB⟩
  ·by_cases h0:l=0
   ·left;simp [h0]
   ·right
    obtain⟨b,off,spot⟩:=ad
    have hspot:spot=none:=by simpa [Addr.add] using World.cell?_spot (hg 0 (by omega)).1
    subst hspot
    refine⟨b,off,rfl,fun i hi=>?_⟩
    rw [hlen] at hi
    obtain⟨q0,q1,q2,-⟩:=hg i hi
    rw [Addr.add_mid] at q0 q1
    rw [List.getElem_map,List.getElem_range]
    exact⟨q0,V1 i,by rw [Nat.add_assoc];exact q1,q2⟩
end
section
set_option maxHeartbeats 4000000
open Go.RowKit
set_option maxRecDepth 100000
def firstL:List UInt8:=[102,105,114,115,116]
theorem NetAt.mono {w:World}{O O':Nat→Prop}{nb db:Nat}{n:Nt}(h:NetAt w O nb db n)(hO:∀ k,O k→O' k):NetAt w O' nb db n:=by
 obtain⟨lv,tv,h1,h2,h3,⟨a,cap,e,h4⟩,h5⟩:=h
 refine⟨lv,tv,hO _ h1,h2,h3,⟨a,cap,e,?_⟩,h5⟩
 rcases h4 with h4 | ⟨g,ea,hg,hh⟩
 ·exact .inl h4
 ·exact .inr ⟨g,ea,hO _ hg,hh⟩
theorem DiskAt.bound {w:World}{O:Nat→Prop}{db:Nat}{d:Dk}(h:DiskAt w O db d):DiskAt w (fun k=>O k∧k < w.heap.size) db d:=by
 obtain⟨fv,h1,h2,h3,h4⟩:=h
 exact⟨fv,⟨h1,heap_some_lt h2⟩,h2,h3,fun g hg=>⟨h4 g hg,(h3.lt g hg).2⟩⟩
theorem sh_new {W w0 w3 w4:World}{db pb lb n:Nat}{key:List UInt8}{d:Dk}{s:List Nat}{es:List (List UInt8)}{put:Nat}(hW:Below W.heap.size W w0)(h:KPub w0.heap.size w0 w3 db pb lb n key d s es put)(hn:n≤4200)(hb:Below w3.heap.size w3 w4)(hN:NetAt w4 (fun k=>k=w3.heap.size) w3.heap.size db ⟨[],[],0⟩):Sh W w4 (fun k=>W.heap.size≤k∧k < w4.heap.size) w3.heap.size db d ⟨[],[],0⟩:=by
 have h03:=h.bel.size
 have h34:=hb.size
 have hW0:=hW.size
 have hlt:w3.heap.size < w4.heap.size:=by
  obtain⟨lv,tv,-,h2,-⟩:=hN
  exact heap_some_lt h2
 refine⟨(hW.trans (h.bel.mono hW0)).trans (hb.mono (by omega)),fun _ h=>h,?_,hN.mono (fun k hk=>by subst hk;exact⟨by omega,hlt⟩),⟨?_,fun f hf=>?_,by simp,by simp,by simp,by simp⟩⟩
 ·exact((h.below hb).disk.bound).mono (fun k hk=>⟨by omega,hk.2⟩)
 ·have:=h.ks.count hn;omega
 ·have:=h.ks.num.data f hf;omega
theorem KC.apart {W0 w w':World}{O M N:Nat→Prop}{pb nb:Nat}{c:Cl}(h:KC W0 w O pb nb c N)(ht:Turn (fun k=>O k∨M k) kcT w w')(hd:∀ k,N k→¬ M k):KC W0 w' O pb nb c N :=
 h.other ht (fun k hk e=>by
  rcases e with e | e
  ·exact(h.own k hk).2.2 e
  ·exact hd k hk e) (by decide)
theorem sh_trusted {W w w1:World}{O N:Nat→Prop}{pb nb db:Nat}{d:Dk}{c:Cl}{n:Nt}(hs:Sh W w O nb db d n)(h:KC W w O pb nb c N)(ht:Turn N [TCli] w w1):Sh W w1 O nb db d n :=
 hs.past ht (fun k hk=>(h.own k hk).1) (by decide) (by decide) (by decide) (by decide) (by decide)
theorem sh_lie {W w w1:World}{O N:Nat→Prop}{pb nb db:Nat}{d:Dk}{c:Cl}{n:Nt}{ls:List Ly}(hs:Sh W w O nb db d n)(h:KC W w O pb nb c N)(ht:Turn O [85] w w1)(hN:NetAt w1 (Ext O w w1) nb db ⟨ls,List.replicate ls.length 0,n.fetches⟩)(hl:ls.length≤1048576)(hd:∀ l∈ls,l.data.length≤1048576):
  Sh W w1 (Ext O w w1) nb db d ⟨ls,List.replicate ls.length 0,n.fetches⟩∧KC W w1 (Ext O w w1) pb nb c N:=by
 have hW:=hs.base.size
 refine⟨⟨hs.base.trans (ht.below (fun k hk=>(hs.own k hk).1) hW),fun k hk=>?_,(hs.disk.stay ht (by decide) (by decide)).mono (fun _ h=> .inl h),hN,⟨hs.st.nf,hs.st.fl,fun l hl'=>?_,?_,hs.st.fe,fun t ht'=>?_⟩⟩,(h.other ht (fun k hk e=>(h.own k hk).2.2 e) (by decide)).grow (fun k hk e=>?_)⟩
 ·rcases hk with hk | hk
  ·exact⟨(hs.own k hk).1,Nat.lt_of_lt_of_le (hs.own k hk).2 ht.size⟩
  ·exact⟨by omega,hk.2⟩
 ·have:=hd l hl';omega
 ·show ls.length≤_;omega
 ·obtain rfl:=(List.mem_replicate.1 ht').2
  exact⟨Int.le_refl _,hs.st.fe⟩
 ·rcases e with e | e
  ·exact(h.own k hk).2.2 e
  ·have:=(h.own k hk).2.1;omega
theorem distrusts_yes (W:World)(at_:Nat→Addr)(hE:Env W)(hS:Sents W at_)(hTb:Tabs W)(lv av sv:Value)(ls:List (List UInt8))(az:List Int)(key:List UInt8)(cap:Int)(ss:List (Int×List Ly))(hl:∀ l∈ls,l.length≤9223372036854775807)(hk:key.length≤1048576)(hal:az.length≤1048576)(hab:∀ a∈az,-9223372036854775808≤a∧a≤9223372036854775807)
  (hss:∀ s∈ss,-9223372036854775808≤s.1∧s.1≤9223372036854775807∧s.2.length≤1048576∧∀ l∈s.2,l.data.length≤1048576) (hT:Tss W lv ls) (hI:Iss W av az) (hSt:Stss W sv ss) :
  Calls Tryz.prog 4 #[lv,av,.string ⟨key.toArray⟩,.int .i64 cap,sv] W fun r w'=>r= .returned (.bool true)∧Below W.heap.size W w':=by
 obtain⟨la,lc,rfl,hlc,hT'⟩:=id hT
 obtain⟨sa,sc,rfl,hsc,hS'⟩:=id hSt
 have HT:=hide hT
 have HI:=hide hI
 have HST:=hide hS'
 have HEE:=hide hE
 have HSN:=hide hS
 have HTB:=hide hTb
 have HL:=hide hl
 have HK:=hide hk
 have HAB:=hide (And.intro hal hab)
 have HSS:=hide hss
 clear hT' hS' hT hI hSt hE hS hTb hl hk hal hab hss hlc hsc
 by_cases h60:60 < ls.length
 ·go_enter Tryz.func4,Tryz.ntmps4
  go_wp2_with fail
  go_ret
  exact⟨by first | rfl | simp,Below.refl _ _⟩
 by_cases h1k:1024 < ss.length
 ·go_enter Tryz.func4,Tryz.ntmps4
  go_wp2_with fail
  go_ret
  exact⟨by first | rfl | simp,Below.refl _ _⟩
 go_enter Tryz.func4,Tryz.ntmps4
 have HB0:Hid (Below W.heap.size W (W.alloc (.cells #[txv firstL] 9))):=below_alloc _ _
 have HOW0:Hid ((W.alloc (.cells #[txv firstL] 9)).ownsRow W.heap.size 9 1 (.slice (some ⟨W.heap.size,0,none⟩) 1 1) [firstL].length ([firstL].map txv)):=⟨rfl,.inr ⟨W.heap.size,1,#[txv firstL],rfl,Nat.le_refl _,heap_alloc_last _ _,Nat.le_refl _,by unfold maxLen;omega,rfl,rfl⟩⟩
 have HSH:=hide (short_any (.slice la ls.length lc) ls (W.alloc (.cells #[txv firstL] 9)) (by omega) HL.out (HT.out.below HB0.out))
 have hfs:(Value.string ⟨#[102,105,114,115,116]⟩)=txv firstL:=rfl
 go_wp2_with fail
 refine HSH.out.mono ?_
 generalize W.alloc (.cells #[txv firstL] 9)=w0 at *
 rintro r w1 ⟨x,rfl,hb1,hx⟩
 have HB1:Hid (Below W.heap.size W w1):=HB0.out.trans (hb1.mono HB0.out.size)
 have HOW1:=hide (ownsRow_below HOW0.out hb1)
 have HX:=hide hx
 have hs1:=HB1.out.size
 have hlen1:[firstL].length+(ls.map cut20).length≤1000000000:=by simp;omega
 clear hb1 hx HSH HOW0 hfs
 go_wp2_with (at_builtin;refine app_texts w1 rfl _ _ rfl W.heap.size hs1 (.slice (some ⟨W.heap.size,0,none⟩) 1 1) [firstL] rfl HOW1.out x (ls.map cut20) rfl (tss_owns HX.out) hlen1 ?_;intro v2 w2 hown2 hgrow2)
 have HB2:Hid (Below W.heap.size W w2):=HB1.out.grown hgrow2 (by simpa using hs1) (own_base HOW1.out)
 have HTS2:=hide (tss_owns hown2)
 obtain⟨va,vc,hv2⟩:=own_slice hown2
 subst hv2
 clear hown2 hgrow2 HOW1 HX
 have hel:([firstL]++ls.map cut20).length≤61:=by simp;omega
 have HPB:=hide (published_any W at_ HEE.out HSN.out (.slice va ([firstL]++ls.map cut20).length vc) av ([firstL]++ls.map cut20) az key w2 HB2.out (by omega) (fun l hl=>by
  rcases List.mem_append.1 hl with h | h
  ·obtain rfl:l=firstL:=by simpa using h
   decide
  ·obtain⟨y,-,rfl⟩:=List.mem_map.1 h
   exact cut20_len y) HK.out (by have:=HAB.out.1;omega) HAB.out.2 HTS2.out (HI.out.below HB2.out))
 have hz:([firstL]++ls.map cut20).getD 0 []=firstL:=rfl
 have hpos:0 < ([firstL]++ls.map cut20).length:=by simp
 have HES:=hide (And.intro hz hpos)
 clear hz hpos
 generalize [firstL]++ls.map cut20=es at *
 go_wp2_with fail
 refine HPB.out.mono ?_
 rintro r w3 ⟨db,pbl,lb,n0,d,sx,rfl,hdb,hn0,hkp⟩
 have HKP:=hide hkp
 clear hkp HPB HTS2
 unfold dptr
 go_wp2_with fail
 have HNN:=hide (pnewNet_any db w3)
 unfold dptr ptrV at HNN
 refine HNN.out.mono ?_
 rintro r w4 ⟨rfl,hb4,hN4⟩
 have HSH:=hide (sh_new HB2.out HKP.out (by omega) hb4 hN4)
 have HS4:Hid (W.heap.size≤w4.heap.size):=HSH.out.base.size
 have HFD:=hide HKP.out.ks.num.data
 have HCHK:=hide HKP.out.ks.chk
 have H20:=hide HKP.out.ks.ent.short
 clear hb4 hN4 HNN HKP
 generalize w3.heap.size=nb at *
 have HN5:=hide (kc_new W (fun k=>W.heap.size≤k∧k < w4.heap.size) nb key cap w4 HS4.out (fun _ h=>h.2))
 unfold ptrV txv at HN5
 go_wp2_with fail
 refine HN5.out.mono ?_
 rintro r w5 ⟨pf,rfl,hb5,hk5⟩
 have HF5:=hide hk5
 have HSH5:=hide (HSH.out.below hb5)
 have hs5:w4.heap.size≤w5.heap.size:=hb5.size
 have HN6:=hide (kc_new W (fun k=>W.heap.size≤k∧k < w4.heap.size) nb key cap w5 (Nat.le_trans HS4.out hs5) (fun _ h=>Nat.lt_of_lt_of_le h.2 hs5))
 clear hb5 hk5 HN5 HSH
 unfold ptrV txv at HN6
 go_wp2_with fail
 refine HN6.out.mono ?_
 rintro r w6 ⟨pc,rfl,hb6,hk6⟩
 have HF6:=hide (HF5.out.below hb6)
 have HC6:=hide hk6
 have HSH6:=hide (HSH5.out.below hb6)
 have hs6:w5.heap.size≤w6.heap.size:=hb6.size
 have HU:=hide (kc_update at_ HEE.out HSN.out HTB.out HF6.out HSH6.out (ki_new key cap) (by omega) (by show(0:Int)+_ < _;omega) HK.out HFD.out (by simp))
 clear hb6 hk6 HN6 HSH5 HF5
 unfold ptrV at HU
 go_wp2_with fail
 refine HU.out.mono ?_
 rintro r w7 ⟨q,o,f7,n7,x7,hq,hup,hki7,⟨hkey7,hroom7⟩,⟨hl7,hf7,hf7'⟩,-,-,rfl,hx7,-,-,g1,g2,g3⟩
 obtain⟨c',n',hup',hsz7,hci7⟩:=true_update HCHK.out rfl H20.out (Nat.lt_of_le_of_lt hel (by decide)) HES.out.2 (ci_new es key cap) (Nat.zero_le _) rfl hq
 rw [hup] at hup'
 simp only [Prod.mk.injEq] at hup'
 obtain⟨rfl,rfl,rfl⟩:=hup'
 have HC7:Hid (KC W w7 (fun k=>W.heap.size≤k∧k < w4.heap.size) pc nb ⟨key,0,rootT [],cap,[]⟩ (fun k=>w5.heap.size≤k∧k < w6.heap.size)):=HC6.out.apart g1 (fun k hk e=>by omega)
 have HF7:=hide g3
 have HSH7:=hide g2
 have HKI7:=hide hki7
 have HCI7:=hide hci7
 have hs7:w6.heap.size≤w7.heap.size:=g1.size
 have HB78:Hid (∀ o,Below w7.heap.size w7 (w7.alloc o)):=fun o=>below_alloc _ _
 have HT7:Hid (∀ a b,(w7.alloc (.cells #[a,b] 29)).heap[w7.heap.size]?=some (.cells #[a,b] 29 (0,0))):=fun a b=>heap_alloc_last _ _
 have hx7':w7.ownsRow w6.heap.size 9 1 x7 0 []:=hx7
 obtain⟨xa7,xc7,rfl⟩:=own_slice hx7'
 have htt7:∀ ps:List (List UInt8),toldT (outU (Sum.inr ps:Sum Er (List (List UInt8)))).2= .agg #[.int .i64 0,.string ⟨#[]⟩]:=fun _=>rfl
 clear HU hq hup hki7 hkey7 hroom7 hci7 g1 g2 g3 HC6 HF6 HSH6 hx7 hx7'
 have hsp:0 < f7.size:=by rw [hsz7];exact HES.out.2
 have HALL7:Hid (HasAll d.fs es f7.size):=by rw [hsz7];exact HCHK.out.all
 have HRD:=hide (fun o=>kc_read at_ HEE.out HSN.out HTB.out (HF7.out.below (HB78.out o)) (HSH7.out.below (HB78.out o)) HKI7.out (by omega) (by have:n7.fetches≤0+20000:=hf7';omega) 0 hsp)
 unfold ptrV txv at HRD
 rw [htt7]
 clear htt7
 have h03:((0:Nat):Int)=0:=rfl
 simp only [h03] at HRD
 clear h03
 go_wp2_with fail
 refine(HRD.out _).mono ?_
 rintro r w8 ⟨o8,f8,n8,nn,x8,hrd,-,-,⟨hl8,hf8,hf8'⟩,-,-,rfl,-,-,hx8,-,-,g1,g2,-⟩
 obtain⟨c'',n'',hrd',-⟩:=true_read HALL7.out hl7 H20.out (Nat.lt_of_le_of_lt hel (by decide)) HCI7.out hsp
 rw [hrd] at hrd'
 simp only [Prod.mk.injEq] at hrd'
 obtain⟨rfl,rfl,rfl⟩:=hrd'
 have HC8:Hid (KC W w8 (fun k=>W.heap.size≤k∧k < w4.heap.size) pc nb ⟨key,0,rootT [],cap,[]⟩ (fun k=>w5.heap.size≤k∧k < w6.heap.size)):=(HC7.out.below (HB78.out _)).apart g1 (fun k hk e=>by
  rcases e with e | e
  ·omega
  ·omega)
 have HSH8:=hide g2
 have HT8:=hide (g1.keep (HT7.out (.int .i64 0) (.string ⟨([]:List UInt8).toArray⟩)) (by decide))
 obtain⟨xa8,xc8,rfl⟩:=own_slice hx8
 have htt8:toldT (outR (Sum.inr (es.getD 0 [],pathR es f7.size 0):Sum Er (List UInt8×List (List UInt8)))).2.2= .agg #[.int .i64 0,.string ⟨#[]⟩]:=rfl
 have htx8:(Value.string ⟨(outR (Sum.inr (es.getD 0 [],pathR es f7.size 0):Sum Er (List UInt8×List (List UInt8)))).1.toArray⟩)= .string ⟨#[102,105,114,115,116]⟩:=by show Value.string ⟨(es.getD 0 []).toArray⟩=_;rw [HES.out.1];rfl
 rw [htt8,htx8]
 generalize (outR (Sum.inr (es.getD 0 [],pathR es f7.size 0):Sum Er (List UInt8×List (List UInt8)))).2.1.length=pl8 at *
 clear htt8 htx8
 have HB89:Hid (∀ o,Below w8.heap.size w8 (w8.alloc o)):=fun o=>below_alloc _ _
 have HC9:=hide (fun o=>HC8.out.below (HB89.out o))
 have HSH9:=hide (fun o=>HSH8.out.below (HB89.out o))
 have q0:∀ o,(w8.alloc o).cell? ⟨w7.heap.size,0,none⟩=some (.int .i64 0):=fun o=>(dcell (heap_alloc_old (o:=o) HT8.out) 0 _ rfl).1
 have hnf:n8.fetches≤40000:=by have:n7.fetches≤0+20000:=hf7';omega
 clear HRD hrd g1 g2 HC7 HF7 HSH7 HT7 HB78 hx8 HT8 HC8 HSH8 HALL7 HKI7 HCI7
 go_wp2_with fail
 have HCs:=hide (HC9.out (.cells #[.int .i64 0,.string ⟨#[]⟩] 29))
 have HSs:=hide (HSH9.out (.cells #[.int .i64 0,.string ⟨#[]⟩] 29))
 clear HC9 HSH9 HB89 q0
 generalize w8.alloc (.cells #[.int .i64 0,.string ⟨#[]⟩] 29)=w9 at *
 go_loopw [21] (fun i wr=>∃(k:Nat) (O N:Nat→Prop) (c:Cl) (n:Nt),k≤ss.length∧i= .int .i64 k∧Sh W wr O nb db d n∧KC W wr O pc nb c N∧KI c k∧c.key=key∧n.fetches≤40000+20000*(k:Int)) (fun i _=>ss.length - (intOf i).toNat)
 case atStart=>exact⟨0,_,_,_,_,Nat.zero_le _,rfl,HSs.out,HCs.out,ki_new key cap,rfl,by omega⟩
 case round =>
  obtain⟨k,O,N,c,n,hk,rfl,hsh,hkc,hki,hkey,hfe⟩:=hrel
  have HSH:=hide hsh
  have HKC:=hide hkc
  have HKI:=hide hki
  have HKEY:=hide hkey
  clear hsh hkc hki hkey
  by_cases hlt:k < ss.length
  ·rcases HST.out with h0 | ⟨b,off,rfl,hcell⟩
   ·rw [h0] at hlt;simp at hlt
   obtain⟨hc0,u,hc1,hu⟩:=hcell k hlt
   obtain⟨hi1,hi2,hll,hld⟩:=HSS.out ss[k] (List.getElem_mem hlt)
   have HTR:=hide (kc_trusted HKC.out)
   have HU:=hide hu
   have HLL:=hide (And.intro hll hld)
   have HC0:=hide hc0
   have HC1:=hide hc1
   obtain⟨ua,uc,rfl,-⟩:=hu
   clear hcell hc0 hc1 hll hld
   generalize ss[k]=st at *
   obtain⟨I,yl⟩:=st
   simp only at *
   unfold ptrV txv at HTR
   go_wp2_with fail
   refine HTR.out.mono ?_
   rintro r w10 ⟨rfl,ht10,hk10⟩
   have HSH10:=hide (sh_trusted HSH.out HKC.out ht10)
   have HKC10:=hide hk10
   have HLI:=hide (lie_any O nb db n (.slice ua yl.length uc) yl w10 (by have:=HLL.out.1;omega) HSH10.out.net (HU.out.below HSH10.out.base))
   have x1:w10.cell? ⟨b,off+k*2+1,none⟩=some (.slice ua yl.length uc):=by rw [HSH10.out.base.cell (p:=⟨b,off+k*2+1,none⟩) (cell_lt HC1.out)];exact HC1.out
   clear ht10 hk10 HTR HSH HKC
   go_wp2_with fail
   refine HLI.out.mono ?_
   rintro r w11 ⟨rfl,ht11,hN11⟩
   obtain⟨hsh11,hkc11⟩:=sh_lie HSH10.out HKC10.out ht11 hN11 HLL.out.1 HLL.out.2
   have HSH11:=hide hsh11
   have HKC11:=hide hkc11
   have x2:w11.cell? ⟨b,off+k*2,none⟩=some (.int .i64 I):=by rw [hsh11.base.cell (p:=⟨b,off+k*2,none⟩) (cell_lt HC0.out)];exact HC0.out
   clear ht11 hN11 hsh11 hkc11 HLI x1 HSH10 HKC10
   by_cases hneg:I < 0
   ·have HUP:=hide (updates_any at_ HEE.out HSN.out HTB.out HKC11.out HSH11.out HKI.out (by omega) (by show n.fetches+_ < _;omega) (by rw [HKEY.out];exact HK.out) HFD.out HLL.out.2)
    unfold ptrV txv at HUP
    go_wp2_with fail
    refine HUP.out.mono ?_
    rintro r w12 ⟨rfl,c2,n2,hk2,hkd⟩
    have HKD:=hide hkd
    have hf2:n2.fetches≤n.fetches+20000:=hkd.few.2
    clear HUP hkd
    go_wp2_with fail
    go_roundw
    case rel=>exact⟨k+1,_,_,c2,n2,by omega,by go_num,HKD.out.sh,HKD.out.kc,HKD.out.ki,hk2.trans HKEY.out,by omega⟩
    case measure=>simp [intOf];omega
   ·have HRD:=hide (reads_any at_ HEE.out HSN.out HTB.out HKC11.out HSH11.out HKI.out (by omega) (by show n.fetches+_ < _;omega) I (by omega) hi2)
    unfold ptrV txv at HRD
    go_wp2_with fail
    refine HRD.out.mono ?_
    rintro r w12 ⟨rfl,c2,n2,hk2,hkd⟩
    have HKD:=hide hkd
    have hf2:n2.fetches≤n.fetches+20000:=hkd.few.2
    clear HRD hkd
    go_wp2_with fail
    go_roundw
    case rel=>exact⟨k+1,_,_,c2,n2,by omega,by go_num,HKD.out.sh,HKD.out.kc,HKD.out.ki,hk2.trans HKEY.out,by omega⟩
    case measure=>simp [intOf];omega
  ·go_wp2_with fail
   go_ret
   exact⟨by first | rfl | simp,HSH.out.base⟩
end
end Go.Proofs.YtinhekmmdlhfkaaGreatDoor
