import Derived.Test.YtinhekmmdlhfkaaGreatDoorG35
import Derived.Test.YtinhekmmdlhfkaaGreatDoorG18
import Derived.Test.YtinhekmmdlhfkaaGreatDoorG32
import Derived.RangeFuncNested
import Derived.RangeFuncBound
import Derived.RangeFuncCalls
import Derived.RangeFuncLeaves
import Derived.Shelf.Abstract
import Derived.Shelf.RegionOpen
import Derived.WalkKit
import Derived.OwnWalkIn
import Derived.TacticsInMore
import Derived.LoopNIn
import Derived.LoopIn
import Derived.Test.YtinhekmmdlhfkaaGreatDoorG31
namespace Go.Proofs.YtinhekmmdlhfkaaGreatDoor
section
set_option maxHeartbeats 4000000
open Go.RowKit
set_option maxRecDepth 100000
theorem con_out (a b:List UInt8)(m n:Int)(v:Value)(ps:List (List UInt8))(w:World)(hout:m < 1∨n < m)(ha:a.length=8)(hb:b.length=8)(h:Hss w v ps):
  Calls Tryz.prog 60 #[.int .i64 m,.int .i64 n,.agg (hv a),.agg (hv b),v] w fun r w'=>r= .returned (.bool false)∧Below w.heap.size w w':=by
 obtain⟨c,cap,rfl,-,-,-⟩:=h
 have hs:(hv a).size=8:=by rw [hv_size,ha]
 have hs':(hv b).size=8:=by rw [hv_size,hb]
 by_cases hneg:m < 1
 ·go_enter Tryz.func60,Tryz.ntmps60
  go_wp2
  go_ret
  exact⟨rfl,below_alloc2 _ _ _⟩
 ·have hge:n < m:=by omega
  clear hout
  go_enter Tryz.func60,Tryz.ntmps60
  go_wp2
  go_ret
  exact⟨rfl,below_alloc2 _ _ _⟩
theorem con_in (f:Nat)(a b:List UInt8)(m n:Int)(hm:1≤m)(hmn:m≤n)(hn:n≤9223372036854775807)(v:Value)(ps:List (List UInt8))(w:World)(hf:ps.length < f)(hp:ps.length≤1000000)(ha:a.length=8)(hb:b.length=8)(h:Hss w v ps):
  Calls Tryz.prog 60 #[.int .i64 m,.int .i64 n,.agg (hv a),.agg (hv b),v] w fun r w'=>r= .returned (.bool ((rtsF zero8 a f m.toNat n.toNat ps true).2.2&&eqH (rtsF zero8 a f m.toNat n.toNat ps true).1 a&&eqH (rtsF zero8 a f m.toNat n.toNat ps true).2.1 b))∧Below w.heap.size w w':=by
 have H:=hide h
 have h8:∀ p∈ps,p.length=8:=by obtain⟨_,_,_,_,h8,_⟩:=h;exact h8
 obtain⟨c,cap,rfl,-,-,-⟩:=h
 have HC:=hide (rts_any a ha f m n (.slice c ps.length cap) ps true)
 obtain⟨l1,l2⟩:=rtsF_len8 zero8 a rfl ha f m.toNat n.toNat ps true h8
 generalize rtsF zero8 a f m.toNat n.toNat ps true=R at *
 obtain⟨R1,R2,R3⟩:=R
 obtain⟨y0,y1,y2,y3,y4,y5,y6,y7,hy⟩:=agg8 a ha
 obtain⟨u0,u1,u2,u3,u4,u5,u6,u7,hu⟩:=agg8 b hb
 obtain⟨x0,x1,x2,x3,x4,x5,x6,x7,hx⟩:=agg8 R1 l1
 obtain⟨z0,z1,z2,z3,z4,z5,z6,z7,hz⟩:=agg8 R2 l2
 have heq1:Hid (∀ w,(binOp .eql 91 (.agg #[.int .u8 x0,.int .u8 x1,.int .u8 x2,.int .u8 x3,.int .u8 x4,.int .u8 x5,.int .u8 x6,.int .u8 x7]) (.agg #[.int .u8 y0,.int .u8 y1,.int .u8 y2,.int .u8 y3,.int .u8 y4,.int .u8 y5,.int .u8 y6,.int .u8 y7])).run Tryz.prog w= .ok (.bool (eqH R1 a)) w):=fun w=>by
  rw [← hx,← hy];exact eql_hash R1 a l1 ha w
 have heq2:Hid (∀ w,(binOp .eql 91 (.agg #[.int .u8 z0,.int .u8 z1,.int .u8 z2,.int .u8 z3,.int .u8 z4,.int .u8 z5,.int .u8 z6,.int .u8 z7]) (.agg #[.int .u8 u0,.int .u8 u1,.int .u8 u2,.int .u8 u3,.int .u8 u4,.int .u8 u5,.int .u8 u6,.int .u8 u7])).run Tryz.prog w= .ok (.bool (eqH R2 b)) w):=fun w=>by
  rw [← hz,← hu];exact eql_hash R2 b l2 hb w
 have Hy:=hide hy
 have HX:=hide (And.intro hx hz)
 have i1:¬ m < 1:=by omega
 have i2:¬ n < m:=by omega
 rw [hy,hu]
 rw [hy] at HC
 generalize eqH R1 a=E1 at *
 generalize eqH R2 b=E2 at *
 clear hx hy hz hu l1 l2 ha hb h8
 go_enter Tryz.func60,Tryz.ntmps60
 go_wp2_with fail
 refine(HC.out _ hm hmn hn hf hp (H.out.below (below_alloc2 _ _ _))).mono ?_
 rintro e w1 ⟨hr1,hb1⟩
 rw [HX.out.1,HX.out.2] at hr1
 subst hr1
 have HB1:Hid (Below w.heap.size w w1):=(below_alloc2 _ _ _).trans (hb1.mono (by simp;omega))
 have g0:w1.heap[w.heap.size]?=some (.cells #[.int .u8 y0,.int .u8 y1,.int .u8 y2,.int .u8 y3,.int .u8 y4,.int .u8 y5,.int .u8 y6,.int .u8 y7] 91 (0,0)):=by
  rw [hb1.block _ (by simp;omega)]
  exact heap_alloc_old (heap_alloc_last _ _)
 have g1:w1.heap[w.heap.size+1]?=some (.cells #[.int .u8 u0,.int .u8 u1,.int .u8 u2,.int .u8 u3,.int .u8 u4,.int .u8 u5,.int .u8 u6,.int .u8 u7] 91 (0,0)):=by
  rw [hb1.block _ (by simp),show w.heap.size+1=(w.alloc (.cells #[.int .u8 y0,.int .u8 y1,.int .u8 y2,.int .u8 y3,.int .u8 y4,.int .u8 y5,.int .u8 y6,.int .u8 y7] 91)).heap.size by simp]
  exact heap_alloc_last _ _
 have hz1:w.heap.size+1 < w1.heap.size:=heap_lt g1
 have cc:=fun(o1 o2:Obj)=>cellsI8 (heap_alloc_old (o:=o2) (heap_alloc_old (o:=o1) g0))
 have dd:=fun(o1 o2:Obj)=>cellsI8 (heap_alloc_old (o:=o2) (heap_alloc_old (o:=o1) g1))
 have c0:=fun o1 o2=>(cc o1 o2).1
 have c1:=fun o1 o2=>(cc o1 o2).2.1
 have c2:=fun o1 o2=>(cc o1 o2).2.2.1
 have c3:=fun o1 o2=>(cc o1 o2).2.2.2.1
 have c4:=fun o1 o2=>(cc o1 o2).2.2.2.2.1
 have c5:=fun o1 o2=>(cc o1 o2).2.2.2.2.2.1
 have c6:=fun o1 o2=>(cc o1 o2).2.2.2.2.2.2.1
 have c7:=fun o1 o2=>(cc o1 o2).2.2.2.2.2.2.2
 have d0:=fun o1 o2=>(dd o1 o2).1
 have d1:=fun o1 o2=>(dd o1 o2).2.1
 have d2:=fun o1 o2=>(dd o1 o2).2.2.1
 have d3:=fun o1 o2=>(dd o1 o2).2.2.2.1
 have d4:=fun o1 o2=>(dd o1 o2).2.2.2.2.1
 have d5:=fun o1 o2=>(dd o1 o2).2.2.2.2.2.1
 have d6:=fun o1 o2=>(dd o1 o2).2.2.2.2.2.2.1
 have d7:=fun o1 o2=>(dd o1 o2).2.2.2.2.2.2.2
 clear cc dd g0 g1 hb1
 cases R3 with
 | false =>
  go_wp2_with fail
  go_ret
  exact⟨rfl,HB1.out.trans ((below_alloc2 w1 _ _).mono HB1.out.size)⟩
 | true =>
  have h1:=heq1.out
  cases E1 with
  | false =>
   go_wp2_with fail
   go_ret
   exact⟨rfl,HB1.out.trans ((below_alloc2 w1 _ _).mono HB1.out.size)⟩
  | true =>
   have h2:=heq2.out
   go_wp2_with fail
   go_ret
   exact⟨rfl,HB1.out.trans ((below_alloc2 w1 _ _).mono HB1.out.size)⟩
def conB (f:Nat)(m n:Int)(a b:List UInt8)(ps:List (List UInt8)):Bool :=
 if m < 1∨n < m then false else (rtsF zero8 a f m.toNat n.toNat ps true).2.2&&eqH (rtsF zero8 a f m.toNat n.toNat ps true).1 a&&eqH (rtsF zero8 a f m.toNat n.toNat ps true).2.1 b
theorem conB_out {f:Nat}{a b:List UInt8}{m n:Int}{ps:List (List UInt8)}(h:m < 1∨n < m):conB f m n a b ps=false:=by
 rw [conB,if_pos h]
theorem conB_in {f:Nat}{a b:List UInt8}{m n:Int}{ps:List (List UInt8)}(h:¬(m < 1∨n < m)):conB f m n a b ps=((rtsF zero8 a f m.toNat n.toNat ps true).2.2&&eqH (rtsF zero8 a f m.toNat n.toNat ps true).1 a&&eqH (rtsF zero8 a f m.toNat n.toNat ps true).2.1 b):=by
 rw [conB,if_neg h]
theorem con_any (f:Nat)(a b:List UInt8)(m n:Int)(hn:n≤9223372036854775807)(v:Value)(ps:List (List UInt8))(w:World)(hf:ps.length < f)(hp:ps.length≤1000000)(ha:a.length=8)(hb:b.length=8)(h:Hss w v ps):
  Calls Tryz.prog 60 #[.int .i64 m,.int .i64 n,.agg (hv a),.agg (hv b),v] w fun r w'=>r= .returned (.bool (conB f m n a b ps))∧Below w.heap.size w w':=by
 by_cases hout:m < 1∨n < m
 ·rw [conB_out hout];exact con_out a b m n v ps w hout ha hb h
 ·rw [conB_in hout];exact con_in f a b m n (by omega) (by omega) hn v ps w hf hp ha hb h
theorem plainCon_any (f:Nat)(a b:ByteArray)(m n:Int)(hn:n≤9223372036854775807)(v:Value)(ss:List ByteArray)(w:World)(hf:ss.length < f)(hp:ss.length≤1000000)(h:Sss w v ss):
  Calls Tryz.prog 37 #[.int .i64 m,.int .i64 n,.string a,.string b,v] w fun r w'=>r= .returned (.bool (conB f m n (e8 a.data.toList) (e8 b.data.toList) (ss.map fun s=>e8 s.data.toList)))∧Below w.heap.size w w':=by
 have H:=hide h
 obtain⟨c,cap,rfl,-,-⟩:=h
 go_enter Tryz.func37,Tryz.ntmps37
 go_wp2_with fail
 refine(hash_any a _).mono ?_
 rintro e w1 ⟨rfl,hb1⟩
 have HB1:=hide hb1
 clear hb1
 go_wp2_with fail
 refine(hash_any b _).mono ?_
 rintro e w2 ⟨rfl,hb2⟩
 have HB2:=hide (HB1.out.trans (hb2.mono HB1.out.size))
 clear hb2
 go_wp2_with fail
 refine(hashes_any _ ss _ hp (H.out.below HB2.out)).mono ?_
 rintro e w3 ⟨x,rfl,hb3,hh⟩
 have HB3:=hide (HB2.out.trans (hb3.mono HB2.out.size))
 have HH3:=hide hh
 clear hb3 hh
 go_wp2_with fail
 refine(con_any f _ _ m n hn x _ _ (by rw [List.length_map];exact hf) (by rw [List.length_map];exact hp) (e8_length _) (e8_length _) HH3.out).mono ?_
 rintro e w4 ⟨rfl,hb4⟩
 have HB4:=hide (HB3.out.trans (hb4.mono HB3.out.size))
 clear hb4
 go_wp2_with fail
 go_ret
 exact⟨rfl,HB4.out⟩
end
section
set_option maxHeartbeats 2000000
open Go.RowKit Go.Shelf
set_option maxRecDepth 100000
attribute [local go_sem] Oper.semAt_some
abbrev TBox:Nat:=131
theorem allN_any (nm:Nat)(w:World):
  Calls Tryz.prog 147 #[ptrV nm] w fun r w'=>r= .returned (.func (.func 186) #[] #[.pointer (some ⟨w.heap.size,0,none⟩)])∧w'=w.alloc (.cells #[ptrV nm] TBox):=by
 unfold ptrV
 go_enter Tryz.func147,Tryz.ntmps147
 go_wp2_with fail
 go_ret
 exact⟨rfl,rfl⟩
def KpN (W W':World):Prop:=∀(k:Nat) (c:Array Value) (t:TypeId) (x:Nat×Nat),W.heap[k]?=some (.cells c t x)→t∈[LkN,MeN,TBox]→W'.heap[k]?=some (.cells c t x)
theorem kpN_t {A B C:World}(h:KpN A B)(h':KpN B C):KpN A C:=fun k c t x e ht=>h' k c t x (h k c t x e ht) ht
theorem kpN_b {n:Nat}(W:World)(l:Nat)(o o':Obj)(_:n≤l)(h:W.heap[l]?=some o)(hc:o.isCells=false)(_:o.isWalk=false):KpN W (W.putObj l o'):=fun k c t x e _=>by
 rw [World.putObj_heap_other (fun e'=>by subst e';rw [h] at e;simp only [Option.some.injEq] at e;subst e;simp [Obj.isCells] at hc)]
 exact e
theorem chain_nx {nx pv:Nat→Nat}:∀(l:List Nat),chain nx pv l→∀ i (h:i+1 < l.length),nx (l[i]'(by omega))=l[i+1]
 | [],_,i,h=>by simp at h
 | [a],_,i,h=>by simp at h
 | a::b::r,hc,i,h=>by
  cases i with
  | zero=>exact hc.1
  | succ i=>exact chain_nx (b::r) hc.2.2 i (by simpa using h)
def ptrB:Value→Nat
 | .pointer (some a)=>a.block
 | _=>0
def posL (bs:List Nat)(v:Value):Nat:=bs.idxOf (ptrB v)
theorem posL_at {bs:List Nat}(hn:bs.Nodup){q:Nat}(h:q < bs.length):bs.idxOf bs[q]=q:=by
 have h1:bs.idxOf bs[q] < bs.length:=List.idxOf_lt_length_of_mem (List.getElem_mem h)
 have h2:bs[bs.idxOf bs[q]]=bs[q]:=List.getElem_idxOf h1
 exact(List.getElem_inj hn).1 h2
def lkB (eb:Nat)(LN:LsN)(q:Nat):Nat:=(LN.map (·.1)++[eb]).getD q 0
theorem lkB_at {eb:Nat}{LN:LsN}{q:Nat}(h:q < LN.length):lkB eb LN q=LN[q].1:=by
 unfold lkB
 rw [List.getD_eq_getElem?_getD,List.getElem?_append_left (by simpa using h)]
 simp [h]
theorem lkB_end {eb:Nat}{LN:LsN}:lkB eb LN LN.length=eb:=by
 unfold lkB
 rw [List.getD_eq_getElem?_getD,List.getElem?_append_right (by simp)]
 simp
theorem posL_lk {eb:Nat}{LN:LsN}(hn:(LN.map (·.1)).Nodup)(he:eb∉LN.map (·.1)){q:Nat}(h:q≤LN.length):posL (LN.map (·.1)) (.pointer (some ⟨lkB eb LN q,0,none⟩))=q:=by
 show(LN.map (·.1)).idxOf (lkB eb LN q)=q
 rcases Nat.lt_or_ge q LN.length with hq | hq
 ·rw [lkB_at hq]
  have:=posL_at hn (q:=q) (by simpa using hq)
  simpa using this
 ·obtain rfl:q=LN.length:=by omega
  rw [lkB_end,List.idxOf_eq_length he]
  simp
theorem ptr_neq {a b:Nat}{w:World}{r:Bool}(h:(sameAddr ⟨a,0,none⟩ ⟨b,0,none⟩).run Tryz.prog w= .ok r w):(binOp .neq 192 (.pointer (some ⟨a,0,none⟩)) (.pointer (some ⟨b,0,none⟩))).run Tryz.prog w= .ok (.bool (!r)) w:=by
 have key:∀ d,(Op.equalIn (d+1) 192 (.pointer (some ⟨a,0,none⟩)) (.pointer (some ⟨b,0,none⟩))).run Tryz.prog w= .ok r w:=by
  intro d
  simp [Op.equalIn,run_underlying Tryz.underlying192,Tryz.sizeOf194,h]
 simp only [binOp]
 have:=key 9999
 simp [Op.equal,Op.maxDepth,this]
abbrev encN (LN:LsN)(i:Fin LN.length):Array Value:=#[plV LN[i].2.1,LN[i].2.2]
theorem allN_in (n:Nat)(hn:1≤n)(l Bx nm hb eb:Nat)(nx pv:Nat→Nat)(room:Int)(A:Nat→Prop)(LN:LsN)(J Jx:List (Fin LN.length)→World→Prop)(hJa:∀ s A B,J s A→A.grownBy B none→J s B)
  (hY:∀ pre x W,J pre W→pre.length < LN.length→YieldAt Fence.wide (n - 1) Tryz.prog l (encN LN x) W fun e W'=>(e= .returned (.bool true)∧J (pre++[x]) W'∧KpN W W')∨(e= .returned (.bool false)∧Jx (pre++[x]) W'))
  (W:World) (hBx:W.heap[Bx]?=some (.cells #[ptrV nm] TBox (0,0))) (hM:MemNAt W A nm hb eb nx pv room LN) (h0:J [] W) :
  CallsIn Fence.wide n Tryz.prog 186 #[.func (.yield l) #[] #[],.pointer (some ⟨Bx,0,none⟩)] W fun e W'=>(∃ v,e= .returned v)∧((∃ xs,xs.map Fin.val=List.range LN.length∧J xs W')∨(∃ pre,True∧Jx pre W')):=by
 have hc:=hM.ring.circ
 have hnx:nx eb=lkB eb LN 0∧∀ q,q < LN.length→nx (lkB eb LN q)=lkB eb LN (q+1):=by
  have hl:(LN.map (·.1)++[eb]).length=LN.length+1:=by simp
  refine⟨?_,fun q h=>?_⟩
  ·have:=chain_nx _ hc.2 0 (by simp)
   simp only [List.cons_append,List.getElem_cons_zero,List.getElem_cons_succ,Nat.zero_add] at this
   unfold lkB
   rw [List.getD_eq_getElem?_getD,List.getElem?_eq_getElem (by omega)]
   exact this
  ·have:=chain_nx _ hc.2 (q+1) (by simp;omega)
   simp only [List.cons_append,List.getElem_cons_succ] at this
   unfold lkB
   rw [List.getD_eq_getElem?_getD,List.getD_eq_getElem?_getD,List.getElem?_eq_getElem (by omega),List.getElem?_eq_getElem (by omega)]
   exact this
 have HNX:=hide hnx
 have HM:=hide hM
 have HBX:=hide hBx
 have HY:=hide hY
 have HND:Hid ((LN.map (·.1)).Nodup∧eb∉LN.map (·.1)):=⟨(List.nodup_cons.1 hc.1).2,(List.nodup_cons.1 hc.1).1⟩
 clear hM hBx hY hc hnx
 refine callsIn_of_wp Tryz.func186 rfl trivial ?_ rfl
 simp only [Tryz.ntmps186,List.size_toArray,List.length_cons,List.length_nil,Nat.reduceAdd,Nat.reduceSub,Array.replicate_succ,Array.replicate_zero,List.push_toArray,List.append_toArray,List.nil_append,List.cons_append]
 have c0:W.cell? ⟨Bx,0,none⟩=some (.pointer (some ⟨nm,0,none⟩)):=(dcell HBX.out 0 _ rfl).1
 have c1:W.cell? ⟨nm,2,none⟩=some (.pointer (some ⟨eb,0,none⟩)):=(dcell HM.out.mem 2 _ rfl).1
 have c2:W.cell? ⟨eb,5,none⟩=some (.pointer (some ⟨nx eb,0,none⟩)):=(dcell HM.out.ring.ends 5 _ rfl).1
 rw [HNX.out.1] at c2
 gi_wp2
 gi_loopw [3] (fun p wr=>∃(q:Nat) (pre:List (Fin LN.length)),q≤LN.length∧p= .pointer (some ⟨lkB eb LN q,0,none⟩)∧KpN W wr∧pre.map Fin.val=List.range q∧J pre wr) (fun p _=>LN.length - posL (LN.map (·.1)) p)
 case atStart=>exact⟨0,[],Nat.zero_le _,rfl,fun _ _ _ _ e _=>e,rfl,h0⟩
 case round =>
  obtain⟨q,pre,hq,rfl,hk,hp,hJ⟩:=hrel
  have hbx:=hk _ _ _ _ HBX.out (by simp)
  have hmm:=hk _ _ _ _ HM.out.mem (by simp)
  have e0:wr.cell? ⟨Bx,0,none⟩=some (.pointer (some ⟨nm,0,none⟩)):=(dcell hbx 0 _ rfl).1
  have e1:wr.cell? ⟨nm,2,none⟩=some (.pointer (some ⟨eb,0,none⟩)):=(dcell hmm 2 _ rfl).1
  by_cases hlt:q < LN.length
  ·have hne:¬ lkB eb LN q=eb:=fun e=>HND.out.2 (by rw [← e,lkB_at hlt];exact List.mem_map_of_mem (List.getElem_mem hlt))
   have hl1:wr.heap[lkB eb LN q]?=some (.cells (lkN LN[q].2.1 LN[q].2.2 (pv LN[q].1) (nx LN[q].1)) LkN (0,0)):=by
    rw [lkB_at hlt]
    exact hk _ _ _ _ (HM.out.ring.link LN[q] (List.getElem_mem hlt)) (by simp)
   have he1:wr.heap[eb]?=some (.cells (lkN (0,0,0) (.pointer none) (pv eb) (nx eb)) LkN (0,0)):=hk _ _ _ _ HM.out.ring.ends (by simp)
   have hcmp:=ptr_neq (run_sameAddr_other (P:=Tryz.prog) (a:=⟨lkB eb LN q,0,none⟩) (b:=⟨eb,0,none⟩) wr (by intro e;injection e with e;exact hne e) hl1 he1)
   obtain⟨a,ha⟩:=(HM.out.ok LN[q] (List.getElem_mem hlt)).2
   have f0:wr.cell? ⟨lkB eb LN q,0,none⟩=some (.int .i64 LN[q].2.1.1):=(dcell hl1 0 _ rfl).1
   have f1:wr.cell? ⟨lkB eb LN q,1,none⟩=some (.int .i64 LN[q].2.1.2.1):=(dcell hl1 1 _ rfl).1
   have f2:wr.cell? ⟨lkB eb LN q,2,none⟩=some (.int .i64 LN[q].2.1.2.2):=(dcell hl1 2 _ rfl).1
   have f3:wr.cell? ⟨lkB eb LN q,3,none⟩=some (.pointer a):=by
    have:=(dcell hl1 3 _ rfl).1
    rw [← ha]
    exact this
   have hpl:pre.length=q:=by
    have:=congrArg List.length hp
    simpa using this
   obtain⟨fn,tmps,assign,body,hy,hR⟩:=HY.out pre ⟨q,hlt⟩ wr.drew (hJa _ _ _ hJ ⟨rfl,rfl,rfl,Nat.le_refl _,fun _ _ _=>rfl⟩) (by omega)
   have henc:encN LN ⟨q,hlt⟩=#[.agg #[.int .i64 LN[q].2.1.1,.int .i64 LN[q].2.1.2.1,.int .i64 LN[q].2.1.2.2],.pointer a]:=by
    unfold encN plV
    simp only [Fin.getElem_fin]
    rw [ha]
   rw [henc] at hy
   have HR:=hide hR
   have HK:=hide hk
   have HP:=hide hp
   have HL1:=hide hl1
   clear hR hk hp hbx hmm hl1 he1 hne henc HY
   generalize hb':lkB eb LN q=lb at *
   have HNB:Hid (nx LN[q].1=lkB eb LN (q+1)):=by
    have:=HNX.out.2 q hlt
    rw [lkB_at hlt] at this
    exact this
   gi_wp2
   have hfm:Tryz.prog.follows Departure.mixedOrders=true:=by kernel_rfl
   have HR2:Hid (RoundIn Fence.wide (n - 1) Tryz.prog l fn tmps assign body wr.drew fun e W'=>∃ b,e= .returned (.bool b)∧((b=true∧J (pre++[⟨q,hlt⟩]) W'∧KpN wr.drew W')∨(b=false∧Jx (pre++[⟨q,hlt⟩]) W'))):=HR.out.mono (fun e W' h=>by
    rcases h with ⟨rfl,h⟩ | ⟨rfl,h⟩
    ·exact⟨true,rfl,.inl ⟨rfl,h⟩⟩
    ·exact⟨false,rfl,.inr ⟨rfl,h⟩⟩)
   gi_region_with_o (refine HR2.out.mono ?_;rintro e W3 ⟨b,rfl,hres⟩)
   all_goals (
    have HB':=hide hb'
    clear hb'
    rcases hres with ⟨rfl,hJ3,hk3⟩ | ⟨rfl,hJx3⟩)
   all_goals first
    | (
     have hl3:W3.heap[lb]?=some (.cells (lkN LN[q].2.1 LN[q].2.2 (pv LN[q].1) (nx LN[q].1)) LkN (0,0)):=hk3 _ _ _ _ HL1.out (by simp)
     have f5:W3.cell? ⟨lb,5,none⟩=some (.pointer (some ⟨lkB eb LN (q+1),0,none⟩)):=by
      have:=(dcell hl3 5 _ rfl).1
      rw [← HNB.out]
      exact this
     gi_wp2
     go_roundw
     case rel=>exact⟨q+1,pre++[⟨q,hlt⟩],by omega,rfl,kpN_t HK.out (fun k c t x e ht=>hk3 k c t x e ht),by rw [List.map_append,HP.out,List.range_succ];rfl,hJ3⟩
     case measure =>
      rw [← HB'.out,posL_lk HND.out.1 HND.out.2 (by omega),posL_lk HND.out.1 HND.out.2 (by omega)]
      omega)
    | (
     gi_wp2
     refine bodyPost_ret (results_none rfl _ _ _) rfl ?_
     exact⟨⟨_,rfl⟩,.inr ⟨_,trivial,hJx3⟩⟩)
  ·obtain rfl:q=LN.length:=by omega
   rw [lkB_end]
   have hcmp:=ptr_neq (run_sameAddr_same (P:=Tryz.prog) wr ⟨eb,0,none⟩)
   gi_wp2
   go_end0
   exact⟨⟨_,rfl⟩,.inl ⟨pre,hp,hJ⟩⟩
theorem allN_stops (n:Nat)(hn:1≤n)(Bx nm hb eb:Nat)(nx pv:Nat→Nat)(room:Int)(A:Nat→Prop)(LN:LsN)(w:World)(hBx:w.heap[Bx]?=some (.cells #[ptrV nm] TBox (0,0)))(hM:MemNAt w A nm hb eb nx pv room LN):
  SeqStopsK Fence.wide n Tryz.prog 186 #[.pointer (some ⟨Bx,0,none⟩)] (encN LN) KpN (fun xs=>xs.map Fin.val=List.range LN.length) (fun _=>True) LN.length w:=by
 intro l J Jx W hW hJ hJx hY h0
 have hk:KpN w W:=fun k c t x e _=>(hW.block k (heap_some_lt e)).trans e
 have hM2:MemNAt W A nm hb eb nx pv room LN:=⟨hM.own,hk _ _ _ _ hM.mem (by simp),⟨hk _ _ _ _ hM.ring.ends (by simp),fun x hx=>hk _ _ _ _ (hM.ring.link x hx) (by simp),hM.ring.circ⟩,hM.map.same (hW.block _ hM.map.lt),hM.ok⟩
 exact allN_in n hn l Bx nm hb eb nx pv room A LN J Jx (fun s X Y hs hg=>hJ s X Y none hs hg (fun r e=>by cases e)) hY W (hk _ _ _ _ hBx (by simp)) hM2 h0
end
end Go.Proofs.YtinhekmmdlhfkaaGreatDoor
