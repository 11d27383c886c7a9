import Derived.RangeFuncNested
import Derived.RangeFuncBound
import Derived.RangeFuncCalls
import Derived.RangeFuncLeaves
import Derived.Shelf.Abstract
import Derived.Shelf.RegionOpen
import Derived.WalkKit
import Derived.OwnWalkIn
import Derived.TacticsInMore
import Derived.LoopNIn
import Derived.LoopIn
import Derived.Test.YtinhekmmdlhfkaaGreatDoorG31
namespace Go.Proofs.YtinhekmmdlhfkaaGreatDoor
section
set_option maxHeartbeats 2000000
open Go.RowKit Go.Shelf
set_option maxRecDepth 100000
attribute [local go_sem] Oper.semAt_some
abbrev zmb:Nat:=131
theorem z1g (nm:Nat)(w:World):
  Calls Tryz.prog 147 #[zt nm] w fun r w'=>r= .returned (.func (.func 186) #[] #[.pointer (some ⟨w.heap.size,0,none⟩)])∧w'=w.alloc (.cells #[zt nm] zmb):=by
 unfold zt
 go_enter Tryz.func147,Tryz.ntmps147
 go_wp2_with fail
 go_ret
 exact⟨rfl,rfl⟩
def KpN (W W':World):Prop:=∀(k:Nat) (c:Array Value) (t:TypeId) (x:Nat×Nat),W.heap[k]?=some (.cells c t x)→t∈[LkN,MeN,zmb]→W'.heap[k]?=some (.cells c t x)
theorem z7s {A B C:World}(h:KpN A B)(h':KpN B C):KpN A C:=fun k c t x e ht=>h' k c t x (h k c t x e ht) ht
theorem z9p {n:Nat}(W:World)(l:Nat)(o o':Obj)(_:n≤l)(h:W.heap[l]?=some o)(hc:o.isCells=false)(_:o.isWalk=false):KpN W (W.putObj l o'):=fun k c t x e _=>by
 rw [World.putObj_heap_other (fun e'=>by subst e';rw [h] at e;simp only [Option.some.injEq] at e;subst e;simp [Obj.isCells] at hc)]
 exact e
theorem zm2 {nx pv:Nat→Nat}:∀(l:List Nat),vz nx pv l→∀ i (h:i+1 < l.length),nx (l[i]'(by omega))=l[i+1]
 | [],_,i,h=>by simp at h
 | [a],_,i,h=>by simp at h
 | a::b::r,hc,i,h=>by
  cases i with
  | zero=>exact hc.1
  | succ i=>exact zm2 (b::r) hc.2.2 i (by simpa using h)
def z9t:Value→Nat
 | .pointer (some a)=>a.block
 | _=>0
def z9q (bs:List Nat)(v:Value):Nat:=bs.idxOf (z9t v)
theorem z5m {bs:List Nat}(hn:bs.Nodup){q:Nat}(h:q < bs.length):bs.idxOf bs[q]=q:=by
 have h1:bs.idxOf bs[q] < bs.length:=List.idxOf_lt_length_of_mem (List.getElem_mem h)
 have h2:bs[bs.idxOf bs[q]]=bs[q]:=List.getElem_idxOf h1
 exact(List.getElem_inj hn).1 h2
def lkB (eb:Nat)(LN:LsN)(q:Nat):Nat:=(LN.map (·.1)++[eb]).getD q 0
theorem zq0 {eb:Nat}{LN:LsN}{q:Nat}(h:q < LN.length):lkB eb LN q=LN[q].1:=by
 unfold lkB
 rw [List.getD_eq_getElem?_getD,List.getElem?_append_left (by simpa using h)]
 simp [h]
theorem zwz {eb:Nat}{LN:LsN}:lkB eb LN LN.length=eb:=by
 unfold lkB
 rw [List.getD_eq_getElem?_getD,List.getElem?_append_right (by simp)]
 simp
theorem zww {eb:Nat}{LN:LsN}(hn:(LN.map (·.1)).Nodup)(he:eb∉LN.map (·.1)){q:Nat}(h:q≤LN.length):z9q (LN.map (·.1)) (.pointer (some ⟨lkB eb LN q,0,none⟩))=q:=by
 show(LN.map (·.1)).idxOf (lkB eb LN q)=q
 rcases Nat.lt_or_ge q LN.length with hq | hq
 ·rw [zq0 hq]
  have:=z5m hn (q:=q) (by simpa using hq)
  simpa using this
 ·obtain rfl:q=LN.length:=by omega
  rw [zwz,List.idxOf_eq_length he]
  simp
theorem zwk {a b:Nat}{w:World}{r:Bool}(h:(sameAddr ⟨a,0,none⟩ ⟨b,0,none⟩).run Tryz.prog w= .ok r w):(binOp .neq 192 (.pointer (some ⟨a,0,none⟩)) (.pointer (some ⟨b,0,none⟩))).run Tryz.prog w= .ok (.bool (!r)) w:=by
 have key:∀ d,(Op.equalIn (d+1) 192 (.pointer (some ⟨a,0,none⟩)) (.pointer (some ⟨b,0,none⟩))).run Tryz.prog w= .ok r w:=by
  intro d
  simp [Op.equalIn,run_underlying Tryz.underlying192,Tryz.sizeOf194,h]
 simp only [binOp]
 have:=key 9999
 simp [Op.equal,Op.maxDepth,this]
abbrev z0r (LN:LsN)(i:Fin LN.length):Array Value:=#[plV LN[i].2.1,LN[i].2.2]
theorem z6s (n:Nat)(hn:1≤n)(l Bx nm hb eb:Nat)(nx pv:Nat→Nat)(room:Int)(A:Nat→Prop)(LN:LsN)(J Jx:List (Fin LN.length)→World→Prop)(hJa:∀ s A B,J s A→A.grownBy B none→J s B)
  (hY:∀ pre x W,J pre W→pre.length < LN.length→YieldAt Fence.wide (n - 1) Tryz.prog l (z0r LN x) W fun e W'=>(e= .returned (.bool true)∧J (pre++[x]) W'∧KpN W W')∨(e= .returned (.bool false)∧Jx (pre++[x]) W'))
  (W:World) (hBx:W.heap[Bx]?=some (.cells #[zt nm] zmb (0,0))) (hM:zh7 W A nm hb eb nx pv room LN) (h0:J [] W) :
  CallsIn Fence.wide n Tryz.prog 186 #[.func (.yield l) #[] #[],.pointer (some ⟨Bx,0,none⟩)] W fun e W'=>(∃ v,e= .returned v)∧((∃ xs,xs.map Fin.val=List.range LN.length∧J xs W')∨(∃ pre,True∧Jx pre W')):=by
 have hc:=hM.ring.circ
 have hnx:nx eb=lkB eb LN 0∧∀ q,q < LN.length→nx (lkB eb LN q)=lkB eb LN (q+1):=by
  have hl:(LN.map (·.1)++[eb]).length=LN.length+1:=by simp
  refine⟨?_,fun q h=>?_⟩
  ·have:=zm2 _ hc.2 0 (by simp)
   simp only [List.cons_append,List.getElem_cons_zero,List.getElem_cons_succ,Nat.zero_add] at this
   unfold lkB
   rw [List.getD_eq_getElem?_getD,List.getElem?_eq_getElem (by omega)]
   exact this
  ·have:=zm2 _ hc.2 (q+1) (by simp;omega)
   simp only [List.cons_append,List.getElem_cons_succ] at this
   unfold lkB
   rw [List.getD_eq_getElem?_getD,List.getD_eq_getElem?_getD,List.getElem?_eq_getElem (by omega),List.getElem?_eq_getElem (by omega)]
   exact this
 have HNX:=za hnx
 have HM:=za hM
 have HBX:=za hBx
 have HY:=za hY
 have HND:Hid ((LN.map (·.1)).Nodup∧eb∉LN.map (·.1)):=⟨(List.nodup_cons.1 hc.1).2,(List.nodup_cons.1 hc.1).1⟩
 clear hM hBx hY hc hnx
 refine callsIn_of_wp Tryz.func186 rfl trivial ?_ rfl
 simp only [Tryz.ntmps186,List.size_toArray,List.length_cons,List.length_nil,Nat.reduceAdd,Nat.reduceSub,Array.replicate_succ,Array.replicate_zero,List.push_toArray,List.append_toArray,List.nil_append,List.cons_append]
 have c0:W.cell? ⟨Bx,0,none⟩=some (.pointer (some ⟨nm,0,none⟩)):=(zg HBX.o 0 _ rfl).1
 have c1:W.cell? ⟨nm,2,none⟩=some (.pointer (some ⟨eb,0,none⟩)):=(zg HM.o.mem 2 _ rfl).1
 have c2:W.cell? ⟨eb,5,none⟩=some (.pointer (some ⟨nx eb,0,none⟩)):=(zg HM.o.ring.ends 5 _ rfl).1
 rw [HNX.o.1] at c2
 gi_wp2
 gi_loopw [3] (fun p wr=>∃(q:Nat) (pre:List (Fin LN.length)),q≤LN.length∧p= .pointer (some ⟨lkB eb LN q,0,none⟩)∧KpN W wr∧pre.map Fin.val=List.range q∧J pre wr) (fun p _=>LN.length - z9q (LN.map (·.1)) p)
 case atStart=>exact⟨0,[],Nat.zero_le _,rfl,fun _ _ _ _ e _=>e,rfl,h0⟩
 case round =>
  obtain⟨q,pre,hq,rfl,hk,hp,hJ⟩:=hrel
  have hbx:=hk _ _ _ _ HBX.o (by simp)
  have hmm:=hk _ _ _ _ HM.o.mem (by simp)
  have e0:wr.cell? ⟨Bx,0,none⟩=some (.pointer (some ⟨nm,0,none⟩)):=(zg hbx 0 _ rfl).1
  have e1:wr.cell? ⟨nm,2,none⟩=some (.pointer (some ⟨eb,0,none⟩)):=(zg hmm 2 _ rfl).1
  by_cases hlt:q < LN.length
  ·have hne:¬ lkB eb LN q=eb:=fun e=>HND.o.2 (by rw [← e,zq0 hlt];exact List.mem_map_of_mem (List.getElem_mem hlt))
   have hl1:wr.heap[lkB eb LN q]?=some (.cells (lkN LN[q].2.1 LN[q].2.2 (pv LN[q].1) (nx LN[q].1)) LkN (0,0)):=by
    rw [zq0 hlt]
    exact hk _ _ _ _ (HM.o.ring.link LN[q] (List.getElem_mem hlt)) (by simp)
   have he1:wr.heap[eb]?=some (.cells (lkN (0,0,0) (.pointer none) (pv eb) (nx eb)) LkN (0,0)):=hk _ _ _ _ HM.o.ring.ends (by simp)
   have hcmp:=zwk (run_sameAddr_other (P:=Tryz.prog) (a:=⟨lkB eb LN q,0,none⟩) (b:=⟨eb,0,none⟩) wr (by intro e;injection e with e;exact hne e) hl1 he1)
   obtain⟨a,ha⟩:=(HM.o.ok LN[q] (List.getElem_mem hlt)).2
   have f0:wr.cell? ⟨lkB eb LN q,0,none⟩=some (.int .i64 LN[q].2.1.1):=(zg hl1 0 _ rfl).1
   have f1:wr.cell? ⟨lkB eb LN q,1,none⟩=some (.int .i64 LN[q].2.1.2.1):=(zg hl1 1 _ rfl).1
   have f2:wr.cell? ⟨lkB eb LN q,2,none⟩=some (.int .i64 LN[q].2.1.2.2):=(zg hl1 2 _ rfl).1
   have f3:wr.cell? ⟨lkB eb LN q,3,none⟩=some (.pointer a):=by
    have:=(zg hl1 3 _ rfl).1
    rw [← ha]
    exact this
   have hpl:pre.length=q:=by
    have:=congrArg List.length hp
    simpa using this
   obtain⟨fn,tmps,assign,body,hy,hR⟩:=HY.o pre ⟨q,hlt⟩ wr.drew (hJa _ _ _ hJ ⟨rfl,rfl,rfl,Nat.le_refl _,fun _ _ _=>rfl⟩) (by omega)
   have henc:z0r LN ⟨q,hlt⟩=#[.agg #[.int .i64 LN[q].2.1.1,.int .i64 LN[q].2.1.2.1,.int .i64 LN[q].2.1.2.2],.pointer a]:=by
    unfold z0r plV
    simp only [Fin.getElem_fin]
    rw [ha]
   rw [henc] at hy
   have HR:=za hR
   have HK:=za hk
   have HP:=za hp
   have HL1:=za hl1
   clear hR hk hp hbx hmm hl1 he1 hne henc HY
   generalize hb':lkB eb LN q=lb at *
   have HNB:Hid (nx LN[q].1=lkB eb LN (q+1)):=by
    have:=HNX.o.2 q hlt
    rw [zq0 hlt] at this
    exact this
   gi_wp2
   have hfm:Tryz.prog.follows Departure.mixedOrders=true:=by kernel_rfl
   have HR2:Hid (RoundIn Fence.wide (n - 1) Tryz.prog l fn tmps assign body wr.drew fun e W'=>∃ b,e= .returned (.bool b)∧((b=true∧J (pre++[⟨q,hlt⟩]) W'∧KpN wr.drew W')∨(b=false∧Jx (pre++[⟨q,hlt⟩]) W'))):=HR.o.mono (fun e W' h=>by
    rcases h with ⟨rfl,h⟩ | ⟨rfl,h⟩
    ·exact⟨true,rfl,.inl ⟨rfl,h⟩⟩
    ·exact⟨false,rfl,.inr ⟨rfl,h⟩⟩)
   gi_region_with_o (refine HR2.o.mono ?_;rintro e W3 ⟨b,rfl,hres⟩)
   all_goals (
    have HB':=za hb'
    clear hb'
    rcases hres with ⟨rfl,hJ3,hk3⟩ | ⟨rfl,hJx3⟩)
   all_goals first
    | (
     have hl3:W3.heap[lb]?=some (.cells (lkN LN[q].2.1 LN[q].2.2 (pv LN[q].1) (nx LN[q].1)) LkN (0,0)):=hk3 _ _ _ _ HL1.o (by simp)
     have f5:W3.cell? ⟨lb,5,none⟩=some (.pointer (some ⟨lkB eb LN (q+1),0,none⟩)):=by
      have:=(zg hl3 5 _ rfl).1
      rw [← HNB.o]
      exact this
     gi_wp2
     go_roundw
     case rel=>exact⟨q+1,pre++[⟨q,hlt⟩],by omega,rfl,z7s HK.o (fun k c t x e ht=>hk3 k c t x e ht),by rw [List.map_append,HP.o,List.range_succ];rfl,hJ3⟩
     case measure =>
      rw [← HB'.o,zww HND.o.1 HND.o.2 (by omega),zww HND.o.1 HND.o.2 (by omega)]
      omega)
    | (
     gi_wp2
     refine bodyPost_ret (results_none rfl _ _ _) rfl ?_
     exact⟨⟨_,rfl⟩,.inr ⟨_,trivial,hJx3⟩⟩)
  ·obtain rfl:q=LN.length:=by omega
   rw [zwz]
   have hcmp:=zwk (run_sameAddr_same (P:=Tryz.prog) wr ⟨eb,0,none⟩)
   gi_wp2
   go_end0
   exact⟨⟨_,rfl⟩,.inl ⟨pre,hp,hJ⟩⟩
theorem zuw (n:Nat)(hn:1≤n)(Bx nm hb eb:Nat)(nx pv:Nat→Nat)(room:Int)(A:Nat→Prop)(LN:LsN)(w:World)(hBx:w.heap[Bx]?=some (.cells #[zt nm] zmb (0,0)))(hM:zh7 w A nm hb eb nx pv room LN):
  SeqStopsK Fence.wide n Tryz.prog 186 #[.pointer (some ⟨Bx,0,none⟩)] (z0r LN) KpN (fun xs=>xs.map Fin.val=List.range LN.length) (fun _=>True) LN.length w:=by
 intro l J Jx W hW hJ hJx hY h0
 have hk:KpN w W:=fun k c t x e _=>(hW.block k (zb e)).trans e
 have hM2:zh7 W A nm hb eb nx pv room LN:=⟨hM.own,hk _ _ _ _ hM.mem (by simp),⟨hk _ _ _ _ hM.ring.ends (by simp),fun x hx=>hk _ _ _ _ (hM.ring.link x hx) (by simp),hM.ring.circ⟩,hM.map.same (hW.block _ hM.map.lt),hM.ok⟩
 exact z6s n hn l Bx nm hb eb nx pv room A LN J Jx (fun s X Y hs hg=>hJ s X Y none hs hg (fun r e=>by cases e)) hY W (hk _ _ _ _ hBx (by simp)) hM2 h0
end
section
set_option maxHeartbeats 4000000
open Go.RowKit Go.Shelf
set_option maxRecDepth 100000
attribute [local go_sem] Oper.semAt_some
attribute [local go_sem ↓] yq yk yt yp yn yo yu yl
def exP (pm hb eb:Nat)(L:LsP):Nat→Prop:=fun k=>k=pm∨k=hb∨k=eb∨k∈L.map (·.1)
theorem zct.exact {w:World}{O:Nat→Prop}{pm:Nat}{room:Int}{L:LsP}(h:zct w O pm room L):∃ hb eb nx pv,zbn w (exP pm hb eb L) pm hb eb nx pv room L∧∀ k,exP pm hb eb L k→O k:=by
 obtain⟨hb,eb,nx,pv,h⟩:=h
 refine⟨hb,eb,nx,pv,⟨⟨.inl rfl,.inr (.inl rfl),.inr (.inr (.inl rfl)),fun x hx=> .inr (.inr (.inr (List.mem_map_of_mem hx)))⟩,h.mem,h.ring,h.map,h.ok⟩,?_⟩
 rintro k (rfl | rfl | rfl | hk)
 ·exact h.own.1
 ·exact h.own.2.1
 ·exact h.own.2.2.1
 ·obtain⟨x,hx,rfl⟩:=List.mem_map.1 hk
  exact h.own.2.2.2 x hx
theorem zum (pm hb eb:Nat)(nx pv:Nat→Nat)(room:Int)(L:LsP)(p:Pl)(hp:zcb p)(v:List Value)(hv:v.length=44)(hv1:∀ x∈v,x.oneCell'=true)(w:World)(h:zbn w (exP pm hb eb L) pm hb eb nx pv room L)(hn:L.length≤1000000000000):
  Calls Tryz.prog 148 #[zt pm,plV p,.agg v.toArray] w fun r w'=>r= .returned (.tuple #[])∧zf (exP pm hb eb L) [LkP] w w'∧∃ nbk nx' pv',w.heap.size≤nbk∧nbk < w'.heap.size∧zbn w' (exP pm hb eb (zfr room (L.drop p++[(nbk,p,v)]))) pm hb eb nx' pv' room (zfr room (L.drop p++[(nbk,p,v)])):=by
 refine(z2f (exP pm hb eb L) pm room L p hp v hv hv1 w ⟨hb,eb,nx,pv,h⟩ hn).mono ?_
 rintro r w' ⟨rfl,ht,nbk,h1,h2,hm⟩
 obtain⟨hb',eb',nx',pv',hm⟩:=hm
 have e:=hm.mem
 rw [ht.keep h.mem (by decide)] at e
 have e2:hb=hb'∧eb=eb':=by
  have:=e
  simp only [Option.some.injEq,Obj.cells.injEq,and_true] at this
  have h3:Value.map (some hb)=Value.map (some hb'):=by
   have:=congrArg (fun a=>a[1]?) this
   simpa using this
  have h4:zt eb=zt eb':=by
   have:=congrArg (fun a=>a[2]?) this
   simpa using this
  exact⟨by injection h3 with h3;injection h3,zrz h4⟩
 obtain⟨rfl,rfl⟩:=e2
 exact⟨rfl,ht,nbk,nx',pv',h1,h2,⟨.inl rfl,.inr (.inl rfl),.inr (.inr (.inl rfl)),fun x hx=> .inr (.inr (.inr (List.mem_map_of_mem hx)))⟩,hm.mem,hm.ring,hm.map,hm.ok⟩
theorem zbn.grown {w w':World}{O:Nat→Prop}{pm hb eb:Nat}{nx pv:Nat→Nat}{room:Int}{L:LsP}(h:zbn w O pm hb eb nx pv room L){row:Option Nat}(hg:w.grownBy w' row)(hr:∀ r,row=some r→hb≠r∧∃ o:Obj,w.heap[r]?=some o∧o.isCells=false):zbn w' O pm hb eb nx pv room L:=by
 have cell:∀(k:Nat) (c:Array Value) (t:TypeId) (x:Nat×Nat),w.heap[k]?=some (.cells c t x)→w'.heap[k]?=some (.cells c t x):=fun k c t x e=>by
  rw [hg.block k (zb e) (fun e'=>by
   obtain⟨-,o,ho,hc⟩:=hr k e'.symm
   rw [e] at ho
   simp only [Option.some.injEq] at ho
   subst ho
   simp [Obj.isCells] at hc)]
  exact e
 exact⟨h.own,cell _ _ _ _ h.mem,⟨cell _ _ _ _ h.ring.ends,fun x hx=>cell _ _ _ _ (h.ring.link x hx),h.ring.circ,h.ring.len⟩,h.map.same (hg.block hb h.map.lt (fun e=>(hr hb e.symm).1 rfl)),h.ok⟩
theorem z6w {w:World}{xs:List Px}{f:Fl}(h:j4 w xs f):j4 w (ztq xs) (zip f):=by
 have h2:=zq8 h (j4.none w)
 have e:zb1 f Fl.no=zip f:=by
  obtain⟨a,b,c,d,rfl⟩:=zez h.2.1
  rfl
 rw [e] at h2
 exact h2
theorem z5n {xs:List Px}(h:FOk xs):FOk (ztq xs):=zto h Fx.no_ok
def znx (nd:Mm)(i:Nat):Pl×Fl:=nd.getD i ((0,0,0),Fl.no)
theorem z8h (nd:Mm){xs:List Nat}(h:xs=List.range nd.length):xs.map (znx nd)=nd:=by
 subst h
 apply List.ext_getElem
 ·simp
 ·intro i h1 h2
  simp only [List.getElem_map,List.getElem_range]
  unfold znx
  rw [List.getD_eq_getElem?_getD,List.getElem?_eq_getElem h2]
  rfl
theorem zn2 (room:Int)(pr nd:Mm)(x:Pl×Fl):ym room pr (nd++[x])=(ym room pr nd).put room x.1 (zip x.2):=by
 unfold ym
 rw [List.foldl_append]
 rfl
theorem z6u {w:World}{L:LsP}{pr:Mm}(h:qo (PrR w) L pr)(room:Int)(p:Pl){nbk:Nat}{xs:List Px}{f:Fl}(hk:FOk xs)(hi:j4 w xs f):qo (PrR w) (zfr room (L.drop p++[(nbk,p,fcs xs)])) (pr.put room p f):=by
 have h2:qo (PrR w) (L.drop p++[(nbk,p,fcs xs)]) (pr.drop p++[(p,f)]):=(h.filter _ _ (fun a b hr=>by rw [hr.1])).snoc ⟨rfl,xs,rfl,hk,hi⟩
 have hl:=h2.len
 unfold zfr Mm.put
 rw [← hl]
 split
 ·exact h2.tail
 ·exact h2
structure Mem (w w1 W:World)(pm hb eb:Nat)(room:Int)(LP:LsP)(pr:Mm)(n:Nat):Prop where
 turn:zf (exP pm hb eb LP) [LkP] w1 W
 mem:∃ L nx pv,zbn W (exP pm hb eb L) pm hb eb nx pv room L∧qo (PrR w) L pr∧(∀ x∈L,x.1∈LP.map (·.1)∨w1.heap.size≤x.1)∧L.length≤n
theorem Mem.below {w w1 W W':World}{pm hb eb:Nat}{room:Int}{LP:LsP}{pr:Mm}{n:Nat}(h:Mem w w1 W pm hb eb room LP pr n)(hb':Below W.heap.size W W'):Mem w w1 W' pm hb eb room LP pr n:=by
 refine⟨h.turn.then_below hb',?_⟩
 obtain⟨L,nx',pv',h1,h2,h3⟩:=h.mem
 exact⟨L,nx',pv',h1.grown (row:=none) ⟨hb'.os,hb'.tape,hb'.output,hb'.size,fun k hk _=>hb'.block k hk⟩ (fun r e=>by cases e),h2,h3⟩
theorem zxd {W W':World}(h:Below W.heap.size W W'):KpN W W':=fun k _ _ _ e _=>(h.block k (zb e)).trans e
theorem zk9 {B:Nat}{W W':World}(h:Below W.heap.size W W'):KeepsFrom B W W':=⟨h.size,fun k _ _ e _=>(h.block k (zb e)).trans e⟩
theorem qo.at {α β:Type}{R:α→β→Prop}{l:List α}{m:List β}(h:qo R l m):∀ i (h1:i < l.length) (h2:i < m.length),R l[i] m[i]:=by
 induction h using qo.ind with
 | nil=>intro i h1;simp at h1
 | cons hr _ ih =>
  intro i h1 h2
  cases i with
  | zero=>exact hr
  | succ i=>exact ih i (by simpa using h1) (by simpa using h2)
theorem Mem.put {w w1 W w5 w6:World}{pm hb eb:Nat}{room:Int}{LP:LsP}{pr:Mm}{n:Nat}(h:Mem w w1 W pm hb eb room LP pr n)(h5:Below W.heap.size W w5){L:LsP}{nx pv:Nat→Nat}(hm:zbn w5 (exP pm hb eb L) pm hb eb nx pv room L)(hr:qo (PrR w) L pr)(hL:∀ x∈L,x.1∈LP.map (·.1)∨w1.heap.size≤x.1)(hn:L.length≤n)
  (ht:zf (exP pm hb eb L) [LkP] w5 w6) {p:Pl} {xs:List Px} {f:Fl} (hk:FOk xs) (hi:j4 w xs f) {nbk:Nat} {nx' pv':Nat→Nat} (hnb:w5.heap.size≤nbk∧nbk < w6.heap.size) (hm6:zbn w6 (exP pm hb eb (zfr room (L.drop p++[(nbk,p,fcs xs)]))) pm hb eb nx' pv' room (zfr room (L.drop p++[(nbk,p,fcs xs)]))) (hhb:hb < w1.heap.size) (hpmb:pm < w1.heap.size∧eb < w1.heap.size) :
  Mem w w1 w6 pm hb eb room LP (pr.put room p f) (n+1)∧KeepsFrom w1.heap.size W w6∧KpN W w6:=by
 have s1:=h.turn.size
 have s5:=h5.size
 refine⟨⟨?_,_,nx',pv',hm6,z6u hr room p hk hi,?_,?_⟩,?_,?_⟩
 ·refine(h.turn.then_below h5).trans (ht.mono (fun b hb'=>?_) (fun _ h=>h))
  rcases hb' with rfl | rfl | rfl | hb'
  ·exact .inl (.inl rfl)
  ·exact .inl (.inr (.inl rfl))
  ·exact .inl (.inr (.inr (.inl rfl)))
  ·obtain⟨x,hx,rfl⟩:=List.mem_map.1 hb'
   rcases hL x hx with h1 | h1
   ·exact .inl (.inr (.inr (.inr h1)))
   ·exact .inr ⟨h1,zb (hm.ring.link x hx)⟩
 ·intro x hx
  have hx2:x∈L.drop p++[(nbk,p,fcs xs)]:=by
   unfold zfr at hx
   split at hx
   ·exact List.mem_of_mem_tail hx
   ·exact hx
  rcases List.mem_append.1 hx2 with h1 | h1
  ·exact hL x (List.mem_filter.1 h1).1
  ·obtain rfl:=List.mem_singleton.1 h1
   exact .inr (by simp only;omega)
 ·have hd:(L.drop p).length≤L.length:=List.length_filter_le _ _
  have:(zfr room (L.drop p++[(nbk,p,fcs xs)])).length≤(L.drop p++[(nbk,p,fcs xs)]).length:=by
   unfold zfr
   split
   ·simp
   ·exact Nat.le_refl _
  simp only [List.length_append,List.length_cons,List.length_nil] at this
  omega
 ·refine⟨Nat.le_trans s5 ht.size,fun k' o hB e ho=>?_⟩
  have e5:=(h5.block k' (zb e)).trans e
  rcases ht.block k' (zb e5) with h1 | ⟨h1,-⟩
  ·rw [h1];exact e5
  ·exfalso
   rcases h1 with rfl | rfl | rfl | h1
   ·omega
   ·omega
   ·omega
   ·obtain⟨x,hx,rfl⟩:=List.mem_map.1 h1
    have:=hm.ring.link x hx
    rw [e5] at this
    simp only [Option.some.injEq] at this
    subst this
    simp [Obj.isCells] at ho
 ·intro k' c t x e hT
  exact ht.keep ((h5.block k' (zb e)).trans e) (by
   intro hh
   simp only [List.mem_cons,List.not_mem_nil,or_false] at hT hh
   rcases hT with rfl | rfl | rfl
   ·exact absurd hh (by decide)
   ·exact absurd hh (by decide)
   ·exact absurd hh (by decide))
theorem Mem.grown {w w1 X Y:World}{pm hb eb:Nat}{room:Int}{LP:LsP}{pr:Mm}{n:Nat}(hs:Mem w w1 X pm hb eb room LP pr n)(hhb:hb < w1.heap.size){row:Option Nat}(hg:X.grownBy Y row)(hr:∀ r,row=some r→w1.heap.size≤r∧∃ o:Obj,X.heap[r]?=some o∧o.isCells=false):Mem w w1 Y pm hb eb room LP pr n:=by
 refine⟨⟨hg.os.trans hs.turn.os,hg.tape.trans hs.turn.tape,hg.output.trans hs.turn.output,Nat.le_trans hs.turn.size hg.size,fun j hj=>?_⟩,?_⟩
 ·rw [hg.block j (Nat.lt_of_lt_of_le hj hs.turn.size) (fun e=>by have:=(hr j e.symm).1;omega)]
  exact hs.turn.block j hj
 ·obtain⟨L,nx',pv',h1,h2,h3⟩:=hs.mem
  exact⟨L,nx',pv',h1.grown hg (fun r e=>⟨by have:=(hr r e).1;omega,(hr r e).2⟩),h2,h3⟩
theorem CS.remembered {W0 w w1 w':World}{O A OP:Nat→Prop}{cb nb db pm nm hb eb:Nat}{C:Array Value}{d:Dk}{room:Int}{pr pr':Mm}{k n:Nat}{m:Ms Nt}{LP:LsP}(h:CS W0 w O A OP cb nb db pm nm C d room pr m k)(hop:∀ b,OP b→W0.heap.size≤b)(hb1:Below w.heap.size w w1)(hex:∀ b,exP pm hb eb LP b→OP b)(hm:Mem w w1 w' pm hb eb room LP pr' n):
  zf OP [LkP] w w'∧CS W0 w' O A (Ext OP w w') cb nb db pm nm C d room pr' m k:=by
 have s1:=hb1.size
 have s2:=hm.turn.size
 have ht:zf OP [LkP] w w':=(zf.of_below hb1).trans (hm.turn.mono (fun b hb'=> .inl (hex b hb')) (fun _ h=>h))
 have s0:=ht.size
 refine⟨ht,h.base.trans (ht.below hop h.base.size),h.own,h.apart,?_,h.disk.stay ht (by decide) (by decide),h.net.turn ht (by decide) (by decide) (by decide),h.st,h.few,ht.keep h.cli (by decide),h.cells,?_,?_,h.nee.stay ht (fun b hb e=>h.away b e (.inr hb)) (by decide) (by decide) (fun _ h=>h),h.short⟩
 ·rintro b (hb' | hb' | hb' | hb')
  ·exact Nat.lt_of_lt_of_le (h.lt b (.inl hb')) s0
  ·exact Nat.lt_of_lt_of_le (h.lt b (.inr (.inl hb'))) s0
  ·exact Nat.lt_of_lt_of_le (h.lt b (.inr (.inr hb'))) s0
  ·exact hb'.2
 ·obtain⟨L,nx,pv,h1,h2,h3,-⟩:=hm.mem
  refine⟨L,⟨hb,eb,nx,pv,⟨.inl (hex _ (.inl rfl)),.inl (hex _ (.inr (.inl rfl))),.inl (hex _ (.inr (.inr (.inl rfl)))),fun x hx=>?_⟩,h1.mem,h1.ring,h1.map,h1.ok⟩,h2.mono fun a _ b hr=>hr.turn ht (by decide)⟩
  rcases h3 x hx with h4 | h4
  ·exact .inl (hex _ (.inr (.inr (.inr h4))))
  ·exact .inr ⟨by omega,zb (h1.ring.link x hx)⟩
 ·rintro b (hb' | hb') e
  ·exact h.away b hb' e
  ·have:=h.lt b (e.imp id .inl)
   omega
theorem zru {F:Fence}{n:Nat}{P:Program}{ops:Array Oper}{Q:Exit→Act→World→Prop}{md:Region.Mode}(I:Array Bool→Act→World→Prop)
  (hI:∀ listed a w,I listed a w→(Region.ready md ops listed=[]→Q .normal a w)∧∀ i∈Region.ready md ops listed,wpOpIn F n P ops Q i (I (listed.setIfInBounds i true)) a w) :
  ∀(fuel:Nat) (listed:Array Bool) (a:Act) (w:World),listed.toList.count false≤fuel→I listed a w→wpAnyIn F n P md ops Q fuel listed a w:=by
 intro fuel
 induction fuel with
 | zero =>
  intro listed a w hc h
  have hr:Region.ready md ops listed=[]:=by
   cases hr:Region.ready md ops listed with
   | nil=>rfl
   | cons i l =>
    exfalso
    have hi:=(mem_ready.1 (by rw [hr];exact List.mem_cons_self:i∈Region.ready md ops listed)).1
    rw [Array.getD_eq_getD_getElem?] at hi
    cases e:listed[i]? with
    | none=>rw [e] at hi;cases hi
    | some b =>
     rw [e] at hi
     obtain rfl:b=false:=hi
     have hm:false∈listed.toList:=Array.mem_toList_iff.2 (Array.mem_of_getElem? e)
     have:=List.count_pos_iff.2 hm
     omega
  exact⟨hr,(hI _ _ _ h).1 hr⟩
 | succ fuel ih =>
  intro listed a w hc h
  refine⟨(hI _ _ _ h).1,fun i hi=>wpOpIn_mono (fun a' w' h'=>ih _ a' w' ?_ h') ((hI _ _ _ h).2 i hi)⟩
  have hi:=(mem_ready.1 hi).1
  rw [Array.getD_eq_getD_getElem?] at hi
  cases e:listed[i]? with
  | none=>rw [e] at hi;cases hi
  | some b =>
   rw [e] at hi
   obtain rfl:b=false:=hi
   obtain⟨h1,h2⟩:=Array.getElem?_eq_some_iff.1 e
   have hset:(listed.setIfInBounds i true).toList=listed.toList.set i true:=by simp
   rw [hset]
   have:∀(l:List Bool) (i:Nat),l[i]?=some false→(l.set i true).count false+1=l.count false:=by
    intro l
    induction l with
    | nil=>intro i h;simp at h
    | cons x l ihl =>
     intro i h
     cases i with
     | zero =>
      simp only [List.getElem?_cons_zero,Option.some.injEq] at h
      subst h
      simp
     | succ i =>
      simp only [List.getElem?_cons_succ] at h
      have:=ihl i h
      simp only [List.set_cons_succ,List.count_cons]
      omega
   have:=this listed.toList i (by simpa using e)
   omega
theorem zjn (W0:World)(O A OP:Nat→Prop)(cb nb db pm nm:Nat)(C:Array Value)(d:Dk)(room:Int)(pr:Mm)(k:Nat)(m:Ms Nt)(w:World)(hpl:pr.length≤100000000000)(hop:∀ b,OP b→W0.heap.size≤b)(hcs:CS W0 w O A OP cb nb db pm nm C d room pr m k):
  Calls Tryz.prog 100 #[zt cb] w fun r w'=>r= .returned (.tuple #[])∧zf OP [LkP] w w'∧CS W0 w' O A (Ext OP w w') cb nb db pm nm C d room (ym room pr m.needed) m k:=by
 obtain⟨LN,hmn,hnd,hndup⟩:=hcs.nee
 obtain⟨hbn,ebn,nxn,pvn,hmn⟩:=hmn
 obtain⟨LP,hmp,hpr⟩:=hcs.prv
 obtain⟨hb,eb,nx,pv,hmp,hex⟩:=hmp.exact
 have HMN:=za hmn
 have HND:=za hnd
 have HMP:=za hmp
 have HPR:=za hpr
 have HEX:=za hex
 have HCS:=za hcs
 have HPL:=za hpl
 have HOP:=za hop
 clear hmn hnd hndup hmp hpr hex hcs hpl hop
 unfold zt
 refine(callsIn_wide (n:=9)).1 ?_
 refine callsIn_of_wp_marks Tryz.func100 rfl trivial ?_ rfl
 simp only [Tryz.ntmps100,List.size_toArray,List.length_cons,List.length_nil,Nat.reduceAdd,Nat.reduceSub,Array.replicate_succ,Array.replicate_zero,List.push_toArray,List.append_toArray,List.nil_append,List.cons_append]
 have c14:(w.alloc (.cells #[.pointer (some ⟨cb,0,none⟩)] 80)).cell? ⟨cb,14,none⟩=some (.pointer (some ⟨nm,0,none⟩)):=by
  rw [zk _ _ ⟨cb,14,none⟩ (zb HCS.o.cli)]
  exact(zg HCS.o.cli 14 _ HCS.o.cells.nee).1
 have HALL:=za (fun w=>z1g nm w)
 unfold zt at HALL
 gi_wp2
 refine⟨trivial,CallsIn.mono (callsIn_wide.2 (HALL.o _)) ?_⟩
 rintro e w' ⟨rfl,rfl⟩
 gi_wp2
 have HB1:Hid (Below w.heap.size w ((w.alloc (.cells #[.pointer (some ⟨cb,0,none⟩)] 80)).alloc (.cells #[.pointer (some ⟨nm,0,none⟩)] zmb))):=zw w _ _
 have HX1:Hid (((w.alloc (.cells #[.pointer (some ⟨cb,0,none⟩)] 80)).alloc (.cells #[.pointer (some ⟨nm,0,none⟩)] zmb)).heap[w.heap.size]?=some (.cells #[.pointer (some ⟨cb,0,none⟩)] 80 (0,0))):=zc (heap_alloc_last _ _)
 have HY1:Hid (((w.alloc (.cells #[.pointer (some ⟨cb,0,none⟩)] 80)).alloc (.cells #[.pointer (some ⟨nm,0,none⟩)] zmb)).heap[w.heap.size+1]?=some (.cells #[zt nm] zmb (0,0))):=by
  have:=heap_alloc_last (w.alloc (.cells #[.pointer (some ⟨cb,0,none⟩)] 80)) (.cells #[.pointer (some ⟨nm,0,none⟩)] zmb)
  rw [show(w.alloc (.cells #[.pointer (some ⟨cb,0,none⟩)] 80)).heap.size=w.heap.size+1 by simp] at this
  exact this
 have HZ1:Hid (((w.alloc (.cells #[.pointer (some ⟨cb,0,none⟩)] 80)).alloc (.cells #[.pointer (some ⟨nm,0,none⟩)] zmb)).heap.size=w.heap.size+2):=by show _=_;simp
 clear c14 HALL
 generalize (w.alloc (.cells #[.pointer (some ⟨cb,0,none⟩)] 80)).alloc (.cells #[.pointer (some ⟨nm,0,none⟩)] zmb)=w1 at *
 have HMN1:Hid (zh7 w1 A nm hbn ebn nxn pvn zbe LN):=by
  have hM:=HMN.o
  have hc:∀(k:Nat) (c:Array Value) (t:TypeId) (x:Nat×Nat),w.heap[k]?=some (.cells c t x)→w1.heap[k]?=some (.cells c t x):=fun k c t x e=>(HB1.o.block k (zb e)).trans e
  exact⟨hM.own,hc _ _ _ _ hM.mem,⟨hc _ _ _ _ hM.ring.ends,fun x hx=>hc _ _ _ _ (hM.ring.link x hx),hM.ring.circ⟩,hM.map.same (HB1.o.block _ hM.map.lt),hM.ok⟩
 have HMP1:Hid (zbn w1 (exP pm hb eb LP) pm hb eb nx pv room LP):=by
  refine zbn.grown HMP.o (row:=none) ⟨HB1.o.os,HB1.o.tape,HB1.o.output,HB1.o.size,fun k hk _=>HB1.o.block k hk⟩ (fun r e=>by cases e)
 have hhb:hb < w1.heap.size:=HMP1.o.map.lt
 refine wpIn_rangeFunc_ownH (F:=Fence.wide) rfl (by omega) (gf:=186) (lb:=#[.pointer (some ⟨w.heap.size+1,0,none⟩)]) rfl trivial (enters_of Tryz.func186 (by kernel_rfl) rfl)
  (zuw 8 (by omega) (w.heap.size+1) nm hbn ebn nxn pvn zbe A LN w1 HY1.o HMN1.o) z7s z9p (Below.refl _ _) (fun _=>rfl)
  (fun pre W=>Mem w w1 W pm hb eb room LP (ym room pr (pre.map fun i=>znx m.needed i.val)) (LP.length+pre.length))
  (fun _ _ _=>False) ?hI (fun _ _ _ _ _ hs _ _=>hs) ?h0
  (fun x a' W=>∃ Bp a,LN[x].2.2= .pointer a∧W.heap[Bp]?=some (.cells #[.int .i64 LN[x].2.1.1,.int .i64 LN[x].2.1.2.1,.int .i64 LN[x].2.1.2.2] 126 (0,0))∧a'={ tmps:=#[.pointer (some ⟨cb,0,none⟩),.pointer (some ⟨w.heap.size,0,none⟩),.pointer (some ⟨Bp,0,none⟩),.pointer a,.pointer (some ⟨cb,0,none⟩),.pointer (some ⟨cb,0,none⟩),.pointer (some ⟨cb,14,none⟩),.pointer (some ⟨nm,0,none⟩),.func (.func 186) #[] #[.pointer (some ⟨w.heap.size+1,0,none⟩)],plV LN[x].2.1,.pointer a,undef,undef,undef,undef,undef,undef,undef,undef,undef,undef],defers:=[] })
  ?hAx ?assign ?body ?done ?stop
 case hI =>
  intro s X Y row hs hg hr
  exact hs.grown hhb hg hr
 case h0 =>
  refine⟨zf.refl _ _ _,LP,nx,pv,HMP1.o,?_,fun x hx=> .inl (List.mem_map_of_mem hx),by simp⟩
  exact HPR.o
 case hAx =>
  rintro x a' s X Y row ⟨Bp,a,h1,h2,h3⟩ hg hr
  refine⟨Bp,a,h1,?_,h3⟩
  rw [hg.block Bp (zb h2) (fun e=>by
   obtain⟨-,o,ho,hc⟩:=hr Bp e.symm
   rw [h2] at ho
   simp only [Option.some.injEq] at ho
   subst ho
   simp [Obj.isCells] at hc)]
  exact h2
 case assign =>
  rintro l pre x W K hi hK
  obtain⟨a,ha⟩:=(HMN.o.ok LN[x] (List.getElem_mem _)).2
  unfold z0r plV
  rw [ha]
  gi_wp2
  exact hK _ _ (zk9 (ze W _)) (zxd (ze W _)) (hi.below (ze W _)) ⟨W.heap.size,a,ha,heap_alloc_last _ _,rfl⟩
 case body =>
  rintro l pre x a' W hl ⟨r,hr⟩ hi ⟨Bp,a,ha,hp,rfl⟩ hlt
  have hxn:x.val < m.needed.length:=by rw [← HND.o.len];exact x.isLt
  have hrel:=HND.o.at x.val x.isLt hxn
  obtain⟨hkey,fb,xs,hfv,hA,hf,hfk,hfi⟩:=hrel
  have haf:a=some ⟨fb,0,none⟩:=by
   have:LN[x].2.2=zt fb:=hfv
   rw [ha] at this
   unfold zt at this
   injection this
  subst haf
  have HPOK:=za (HMN.o.ok LN[x] (List.getElem_mem _)).1
  have hkey':LN[x].2.1=m.needed[x.val].1:=hkey
  clear hkey
  generalize LN[x].2.1=P at *
  have hkey:=hkey'
  clear hkey'
  clear hfv ha
  have hf1:zn w1 fb xs:=(HB1.o.block _ (zb hf)).trans hf
  have hfW:zn W fb xs:=hi.turn.keep hf1 (by decide)
  have hbx:W.heap[w.heap.size]?=some (.cells #[.pointer (some ⟨cb,0,none⟩)] 80 (0,0)):=hi.turn.keep HX1.o (by decide)
  have hcl:W.heap[cb]?=some (.cells C qw (0,0)):=hi.turn.keep ((HB1.o.block _ (zb HCS.o.cli)).trans HCS.o.cli) (by decide)
  have HI:=za hi
  have HF:=za hf
  have HFK:=za hfk
  have HFI:=za hfi
  have HFW:=za hfW
  have HBXW:=za hbx
  have HCLW:=za hcl
  have HPW:=za hp
  have hnd:znx m.needed x.val=m.needed[x.val]:=by
   unfold znx
   rw [List.getD_eq_getElem?_getD,List.getElem?_eq_getElem hxn]
   rfl
  have HKEY:Hid (P=(znx m.needed x.val).1∧j4 w xs (znx m.needed x.val).2):=by
   rw [hnd];exact⟨hkey,hfi⟩
  have q0:W.cell? ⟨w.heap.size,0,none⟩=some (.pointer (some ⟨cb,0,none⟩)):=(zg hbx 0 _ rfl).1
  have q1:W.cell? ⟨cb,13,none⟩=some (.pointer (some ⟨pm,0,none⟩)):=(zg hcl 13 _ HCS.o.cells.prv).1
  have q2:W.cell? ⟨Bp,0,none⟩=some (.int .i64 P.1):=(zg hp 0 _ rfl).1
  have q3:W.cell? ⟨Bp,1,none⟩=some (.int .i64 P.2.1):=(zg hp 1 _ rfl).1
  have q4:W.cell? ⟨Bp,2,none⟩=some (.int .i64 P.2.2):=(zg hp 2 _ rfl).1
  have hld:(zoz (.pointer (some ⟨fb,0,none⟩))).run Tryz.prog W.drew= .ok (.agg (fcs xs).toArray) W.drew:=vy (w:=W.drew) (yv (w:=W.drew) hfW) hfk.len
  have hfm:Tryz.prog.follows Departure.mixedOrders=true:=by kernel_rfl
  have HFT:=za (zr0 xs hfk W.drew)
  have HLEN:Hid (LP.length+pre.length≤1000000000000):=by
   have h1:=HPR.o.len
   have h2:=HPL.o
   have h3:=HCS.o.short
   have h4:=HND.o.len
   show _≤_
   omega
  obtain⟨L,nx5,pv5,hm,hrl,hL,hn⟩:=hi.mem
  have HM:=za hm
  have HRL:=za hrl
  have HL:=za hL
  have HN:=za hn
  have HPUT:Hid (∀ w5,Below W.heap.size W w5→Calls Tryz.prog 148 #[zt pm,plV P,.agg (fcs (ztq xs)).toArray] w5 fun r w'=>r= .returned (.tuple #[])∧Mem w w1 w' pm hb eb room LP (ym room pr ((pre++[x]).map fun i=>znx m.needed i.val)) (LP.length+(pre++[x]).length)∧KeepsFrom w1.heap.size W w'∧KpN W w'):=by
   intro w5 hb5
   have hm5:zbn w5 (exP pm hb eb L) pm hb eb nx5 pv5 room L:=hm.grown (row:=none) ⟨hb5.os,hb5.tape,hb5.output,hb5.size,fun k hk _=>hb5.block k hk⟩ (fun r e=>by cases e)
   have hfo:=z5n HFK.o
   refine(zum pm hb eb nx5 pv5 room L P HPOK.o (fcs (ztq xs)) hfo.len (ji hfo.2) w5 hm5 (by have:=HLEN.o;omega)).mono ?_
   rintro r w6 ⟨rfl,ht,nbk,nx6,pv6,h1,h2,hm6⟩
   have:=HI.o.put hb5 hm5 hrl hL hn ht hfo (z6w HKEY.o.2) ⟨h1,h2⟩ hm6 hhb ⟨zb HMP1.o.mem,zb HMP1.o.ring.ends⟩
   refine⟨rfl,?_,this.2⟩
   rw [List.map_append,List.map_cons,List.map_nil,zn2,← HKEY.o.1]
   have h3:=this.1
   rw [Nat.add_assoc] at h3
   simpa using h3
  have HP5:Hid (∀ w5,Below W.heap.size W w5→w5.cell? ⟨cb,13,none⟩=some (.pointer (some ⟨pm,0,none⟩))∧w5.cell? ⟨w.heap.size,0,none⟩=some (.pointer (some ⟨cb,0,none⟩))∧w5.cell? ⟨Bp,0,none⟩=some (.int .i64 P.1)∧w5.cell? ⟨Bp,1,none⟩=some (.int .i64 P.2.1)∧w5.cell? ⟨Bp,2,none⟩=some (.int .i64 P.2.2)):=by
   intro w5 hb5
   have hp5:=(hb5.block _ (zb HPW.o)).trans HPW.o
   exact⟨(zg ((hb5.block _ (zb HCLW.o)).trans HCLW.o) 13 _ HCS.o.cells.prv).1,(zg ((hb5.block _ (zb HBXW.o)).trans HBXW.o) 0 _ rfl).1,(zg hp5 0 _ rfl).1,(zg hp5 1 _ rfl).1,(zg hp5 2 _ rfl).1⟩
  unfold zt at HPUT
  unfold zt at HFT
  clear hf hfk hfi hf1 hfW hbx hcl hp hi hnd hkey hA hm hrl hL hn HM HRL HL HN HKEY HFW HBXW HCLW HPW HF HFK HFI HI HLEN HPOK HMN1 HMP1 HMN HND HMP HPR HEX HCS HPL HOP HB1 HX1 HY1 HZ1 hlt hxn
  gi_wp2
  refine wpIn_region_any hfm ?_
  change wpAnyIn _ _ _ _ _ _ _ _ _ (World.drew _)
  refine zru (fun listed a w'=>(∃ l0 l1 l2 l3 l4 l5 l6 l7 l8:Bool,listed=#[l0,l1,l2,l3,l4,l5,l6,l7,l8,false]∧(l1=true→l0=true)∧(l2=true→l1=true)∧(l3=true→l2=true)∧(l6=true→l5=true)∧(l7=true→l6=true)∧(l8=true→l7=true)∧(l8=false∧w'=W.drew∨l8=true∧Below W.heap.size W w') ∧
   a={ tmps:=#[.pointer (some ⟨cb,0,none⟩),.pointer (some ⟨w.heap.size,0,none⟩),.pointer (some ⟨Bp,0,none⟩),.pointer (some ⟨fb,0,none⟩),.pointer (some ⟨cb,0,none⟩),.pointer (some ⟨cb,0,none⟩),.pointer (some ⟨cb,14,none⟩),.pointer (some ⟨nm,0,none⟩),.func (.func 186) #[] #[.pointer (some ⟨w.heap.size+1,0,none⟩)],plV P,.pointer (some ⟨fb,0,none⟩),
    bif l0 then .pointer (some ⟨cb,0,none⟩) else undef,bif l1 then .pointer (some ⟨cb,0,none⟩) else undef,bif l2 then .pointer (some ⟨cb,13,none⟩) else undef,bif l3 then .pointer (some ⟨pm,0,none⟩) else undef,bif l4 then plV P else undef,bif l5 then .pointer (some ⟨fb,0,none⟩) else undef,bif l6 then .pointer (some ⟨fb,0,none⟩) else undef,bif l7 then .agg (fcs xs).toArray else undef,bif l8 then .agg (fcs (ztq xs)).toArray else undef,undef],defers:=[] }) ∨
   (listed=Array.replicate 10 true∧KeepsFrom w1.heap.size W w'∧KpN W w'∧Mem w w1 w' pm hb eb room LP (ym room pr ((pre++[x]).map fun i=>znx m.needed i.val)) (LP.length+(pre++[x]).length))) ?_ _ _ _ _ (by decide) (.inl ⟨false,false,false,false,false,false,false,false,false,rfl,by decide,by decide,by decide,by decide,by decide,by decide,.inl ⟨rfl,rfl⟩,rfl⟩)
  rintro listed a w' (⟨l0,l1,l2,l3,l4,l5,l6,l7,l8,rfl,d1,d2,d3,d6,d7,d8,hw,rfl⟩ | ⟨rfl,h1,h2,h3⟩)
  ·refine⟨fun hr=>?_,fun i hi=>?_⟩
   ·exfalso
    have R:∀ i,i∉Region.ready _ _ _:=fun i=>by rw [hr];exact List.not_mem_nil
    obtain rfl:l0=true:=by
     cases l0 with
     | true=>rfl
     | false=>exact absurd (mem_ready.2 ⟨rfl,_,rfl,by simp⟩) (R 0)
    obtain rfl:l1=true:=by
     cases l1 with
     | true=>rfl
     | false=>exact absurd (mem_ready.2 ⟨rfl,_,rfl,by simp⟩) (R 1)
    obtain rfl:l2=true:=by
     cases l2 with
     | true=>rfl
     | false=>exact absurd (mem_ready.2 ⟨rfl,_,rfl,by simp⟩) (R 2)
    obtain rfl:l3=true:=by
     cases l3 with
     | true=>rfl
     | false=>exact absurd (mem_ready.2 ⟨rfl,_,rfl,by simp⟩) (R 3)
    obtain rfl:l4=true:=by
     cases l4 with
     | true=>rfl
     | false=>exact absurd (mem_ready.2 ⟨rfl,_,rfl,by simp⟩) (R 4)
    obtain rfl:l5=true:=by
     cases l5 with
     | true=>rfl
     | false=>exact absurd (mem_ready.2 ⟨rfl,_,rfl,by simp⟩) (R 5)
    obtain rfl:l6=true:=by
     cases l6 with
     | true=>rfl
     | false=>exact absurd (mem_ready.2 ⟨rfl,_,rfl,by simp⟩) (R 6)
    obtain rfl:l7=true:=by
     cases l7 with
     | true=>rfl
     | false=>exact absurd (mem_ready.2 ⟨rfl,_,rfl,by simp⟩) (R 7)
    obtain rfl:l8=true:=by
     cases l8 with
     | true=>rfl
     | false=>exact absurd (mem_ready.2 ⟨rfl,_,rfl,by simp⟩) (R 8)
    exact absurd (mem_ready.2 ⟨rfl,_,rfl,by simp⟩) (R 9)
   ·have hlt10:i < 10:=by
     obtain⟨-,o,ho,-⟩:=mem_ready.1 hi
     exact(Array.getElem?_eq_some_iff.1 ho).1
    have HC:Hid (w'.cell? ⟨cb,13,none⟩=some (.pointer (some ⟨pm,0,none⟩))∧w'.cell? ⟨w.heap.size,0,none⟩=some (.pointer (some ⟨cb,0,none⟩))∧w'.cell? ⟨Bp,0,none⟩=some (.int .i64 P.1)∧w'.cell? ⟨Bp,1,none⟩=some (.int .i64 P.2.1)∧w'.cell? ⟨Bp,2,none⟩=some (.int .i64 P.2.2)):=by
     rcases hw with ⟨-,rfl⟩ | ⟨-,hb5⟩
     ·exact HP5.o _ (qk (Below.refl _ _))
     ·exact HP5.o _ hb5
    obtain⟨q1,q0,q2,q3,q4⟩:=HC.o
    obtain⟨hu,o,ho,ha⟩:=mem_ready.1 hi
    clear hi
    rcases(show i=0∨i=1∨i=2∨i=3∨i=4∨i=5∨i=6∨i=7∨i=8∨i=9 by omega) with rfl | rfl | rfl | rfl | rfl | rfl | rfl | rfl | rfl | rfl
    ·obtain rfl:l0=false:=hu
     clear ho ha
     refine wpOpIn_step rfl (fun K hK=>?_)
     go_simp
     refine hK _ _ (.inl ⟨true,l1,l2,l3,l4,l5,l6,l7,l8,rfl,fun _=>rfl,d2,d3,d6,d7,d8,hw,rfl⟩)
    ·obtain rfl:l1=false:=hu
     obtain rfl:=Option.some.inj ho
     obtain rfl:l0=true:=ha ⟨0,.data⟩ (by simp) rfl
     clear ho ha
     refine wpOpIn_step rfl (fun K hK=>?_)
     go_simp
     refine hK _ _ (.inl ⟨true,true,l2,l3,l4,l5,l6,l7,l8,rfl,fun _=>rfl,fun _=>rfl,d3,d6,d7,d8,hw,rfl⟩)
    ·obtain rfl:l2=false:=hu
     obtain rfl:=Option.some.inj ho
     obtain rfl:l1=true:=ha ⟨1,.data⟩ (by simp) rfl
     obtain rfl:=d1 rfl
     clear ho ha
     refine wpOpIn_step rfl (fun K hK=>?_)
     go_simp
     refine hK _ _ (.inl ⟨true,true,true,l3,l4,l5,l6,l7,l8,rfl,d1,fun _=>rfl,fun _=>rfl,d6,d7,d8,hw,rfl⟩)
    ·obtain rfl:l3=false:=hu
     obtain rfl:=Option.some.inj ho
     obtain rfl:l2=true:=ha ⟨2,.data⟩ (by simp) rfl
     obtain rfl:=d2 rfl
     obtain rfl:=d1 rfl
     clear ho ha
     refine wpOpIn_step rfl (fun K hK=>?_)
     go_simp
     refine hK _ _ (.inl ⟨true,true,true,true,l4,l5,l6,l7,l8,rfl,d1,d2,fun _=>rfl,d6,d7,d8,hw,rfl⟩)
    ·obtain rfl:l4=false:=hu
     clear ho ha
     refine wpOpIn_step rfl (fun K hK=>?_)
     go_simp
     refine hK _ _ (.inl ⟨l0,l1,l2,l3,true,l5,l6,l7,l8,rfl,d1,d2,d3,d6,d7,d8,hw,rfl⟩)
    ·obtain rfl:l5=false:=hu
     clear ho ha
     refine wpOpIn_step rfl (fun K hK=>?_)
     go_simp
     refine hK _ _ (.inl ⟨l0,l1,l2,l3,l4,true,l6,l7,l8,rfl,d1,d2,d3,fun _=>rfl,d7,d8,hw,rfl⟩)
    ·obtain rfl:l6=false:=hu
     obtain rfl:=Option.some.inj ho
     obtain rfl:l5=true:=ha ⟨5,.data⟩ (by simp) rfl
     clear ho ha
     refine wpOpIn_step rfl (fun K hK=>?_)
     go_simp
     refine hK _ _ (.inl ⟨l0,l1,l2,l3,l4,true,true,l7,l8,rfl,d1,d2,d3,fun _=>rfl,fun _=>rfl,d8,hw,rfl⟩)
    ·obtain rfl:l7=false:=hu
     obtain rfl:=Option.some.inj ho
     obtain rfl:l6=true:=ha ⟨6,.data⟩ (by simp) rfl
     obtain rfl:=d6 rfl
     clear ho ha
     obtain rfl:w'=W.drew:=by
      rcases hw with ⟨-,h⟩ | ⟨h,-⟩
      ·exact h
      ·exact absurd (d8 h) (by decide)
     refine wpOpIn_step rfl (fun K hK=>?_)
     go_simp
     refine hK _ _ (.inl ⟨l0,l1,l2,l3,l4,true,true,true,l8,rfl,d1,d2,d3,d6,fun _=>rfl,fun _=>rfl,hw,rfl⟩)
    ·obtain rfl:l8=false:=hu
     obtain rfl:=Option.some.inj ho
     obtain rfl:l7=true:=ha ⟨7,.data⟩ (by simp) rfl
     obtain rfl:=d7 rfl
     obtain rfl:=d6 rfl
     clear ho ha
     obtain rfl:w'=W.drew:=by
      rcases hw with ⟨-,h⟩ | ⟨h,-⟩
      ·exact h
      ·exact absurd h (by decide)
     refine wpOpIn_step rfl (fun K hK=>?_)
     go_simp
     refine⟨trivial,CallsIn.mono (CallsIn.inRound l (callsIn_wide.2 HFT.o)) ?_⟩
     rintro e w5 ⟨rfl,hb5⟩
     exact hK _ _ (.inl ⟨l0,l1,l2,l3,l4,true,true,true,true,rfl,d1,d2,d3,fun _=>rfl,fun _=>rfl,fun _=>rfl,.inr ⟨rfl,qk hb5⟩,rfl⟩)
    ·obtain rfl:=Option.some.inj ho
     obtain rfl:l3=true:=ha ⟨3,.data⟩ (by simp) rfl
     obtain rfl:l4=true:=ha ⟨4,.data⟩ (by simp) rfl
     obtain rfl:l8=true:=ha ⟨8,.data⟩ (by simp) rfl
     clear ho ha
     obtain rfl:=d8 rfl
     obtain rfl:=d7 rfl
     obtain rfl:=d6 rfl
     obtain rfl:=d3 rfl
     obtain rfl:=d2 rfl
     obtain rfl:=d1 rfl
     refine wpOpIn_step rfl (fun K hK=>?_)
     go_simp
     have hb5:Below W.heap.size W w':=by
      rcases hw with ⟨h,-⟩ | ⟨-,h⟩
      ·exact absurd h (by decide)
      ·exact h
     refine⟨trivial,CallsIn.mono (CallsIn.inRound l (callsIn_wide.2 (HPUT.o w' hb5))) ?_⟩
     rintro e w6 ⟨rfl,hM6,hK6,hP6⟩
     exact hK _ _ (.inr ⟨rfl,hK6,hP6,hM6⟩)
  ·refine⟨fun _=>⟨h1,h2,h3⟩,fun i hi=>?_⟩
   exfalso
   obtain⟨hu,-⟩:=mem_ready.1 hi
   simp only [Array.getD_eq_getD_getElem?,Array.getElem?_replicate] at hu
   split at hu<;>simp at hu
 case done =>
  rintro D ys W hD hS hi hK
  gi_wp2
  refine⟨by simp,.inl ⟨_,_,rfl,run_takeDeferred hK,?_⟩⟩
  refine⟨_,results_none rfl _ _ _,rfl,?_⟩
  have h9:=hi.grown hhb (grownBy_putObj' W D (.deferred none)) (fun r e=>by cases e;exact⟨hD,_,hK,rfl⟩)
  have e:(ys.map fun i=>znx m.needed i.val)=m.needed:=by
   have e1:=z8h m.needed (xs:=ys.map Fin.val) (by rw [hS,HND.o.len])
   rw [List.map_map] at e1
   exact e1
  rw [e] at h9
  exact HCS.o.remembered HOP.o HB1.o HEX.o h9
 case stop =>
  rintro D c pre W _ _ h _
  exact h.elim
end
end Go.Proofs.YtinhekmmdlhfkaaGreatDoor
