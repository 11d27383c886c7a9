import Derived.RangeFuncNested
import Derived.RangeFuncBound
import Derived.Shelf.RegionOpen
import Derived.OwnWalkIn
import Derived.LoopNIn
import Derived.LoopIn
import Derived.Test.YtndkblnpbjffhaaGreatDoorG36
set_option maxHeartbeats 2000000
set_option maxRecDepth 100000
open Go.RowKit Go.Shelf
namespace Go.Proofs.YtndkblnpbjffhaaGreatDoor
section
attribute [local go_sem] Oper.semAt_some
abbrev zm9:Nat:=105
theorem z35 (nm:Nat)(w:World):
  Calls Tryz.prog 143 #[zo nm] w fun r w'=>r= .returned (.func (.func 192) #[] #[.pointer (some ⟨w.heap.size,0,none⟩)])∧w'=w.alloc (.cells #[zo nm] zm9):=by
 unfold zo;go_enter Tryz.func143,Tryz.ntmps143;go_wp2_with fail;go_ret;exact⟨rfl,rfl⟩
def KpN (W h:World):Prop:=∀(k:Nat) (c:Array Value) (t:TypeId) (x:Nat×Nat),W.heap[k]?=some (.cells c t x)→t∈[LkN,MeN,zm9]→h.heap[k]?=some (.cells c t x)
theorem z83 {A B C:World}(h:KpN A B)(D:KpN B C):KpN A C:=fun k c t x e r=>D k c t x (h k c t x e r) r
theorem yag {n:Nat}(W:World)(l:Nat)(o D:Obj)(_:n≤l)(h:W.heap[l]?=some o)(A:o.isCells=false)(_:o.isWalk=false):KpN W (W.putObj l D):=fun k c t x e _=>by
 rw [World.putObj_heap_other (fun r=>by subst r;rw [h] at e;simp only [Option.some.injEq] at e;subst e;simp [Obj.isCells] at A)];exact e
theorem zn0 {nx pv:Nat→Nat}:∀(l:List Nat),zag nx pv l→∀ i (h:i+1 < l.length),nx (l[i]'(by omega))=l[i+1]
 | [],_,i,h=>by simp at h
 | [a],_,i,h=>by simp at h
 | a::b::r,hc,i,h=>by
  cases i with
  | zero=>exact hc.1
  | succ i=>exact zn0 (b::r) hc.2.2 i (by simpa using h)
def yap:Value→Nat
 | .pointer (some a)=>a.block
 | _=>0
def yam (h:List Nat)(v:Value):Nat:=h.idxOf (yap v)
theorem z7l {r:List Nat}(A:r.Nodup){q:Nat}(h:q < r.length):r.idxOf r[q]=q:=by
 have h1:r.idxOf r[q] < r.length:=List.idxOf_lt_length_of_mem (List.getElem_mem h);have h2:r[r.idxOf r[q]]=r[q]:=List.getElem_idxOf h1;exact(List.getElem_inj A).1 h2
def lkB (r:Nat)(h:LsN)(q:Nat):Nat:=(h.map (·.1)++[r]).getD q 0
theorem zqh {A:Nat}{r:LsN}{q:Nat}(h:q < r.length):lkB A r q=r[q].1:=by
 unfold lkB;rw [List.getD_eq_getElem?_getD,List.getElem?_append_left (by simpa using h)];simp [h]
theorem zyb {r:Nat}{h:LsN}:lkB r h h.length=r:=by
 unfold lkB;rw [List.getD_eq_getElem?_getD,List.getElem?_append_right (by simp)];simp
theorem zyo {A:Nat}{r:LsN}(H:(r.map (·.1)).Nodup)(E:A∉r.map (·.1)){q:Nat}(h:q≤r.length):yam (r.map (·.1)) (.pointer (some ⟨lkB A r q,0,none⟩))=q:=by
 show(r.map (·.1)).idxOf (lkB A r q)=q;rcases Nat.lt_or_ge q r.length with D | D
 ·rw [zqh D];have:=z7l H (q:=q) (by simpa using D);simpa using this
 ·obtain rfl:q=r.length:=by omega
  rw [zyb,List.idxOf_eq_length E];simp
theorem zy2 {a b:Nat}{w:World}{r:Bool}(h:(sameAddr ⟨a,0,none⟩ ⟨b,0,none⟩).run Tryz.prog w= .ok r w):(binOp .neq 168 (.pointer (some ⟨a,0,none⟩)) (.pointer (some ⟨b,0,none⟩))).run Tryz.prog w= .ok (.bool (!r)) w:=by
 have key:∀ d,(Op.equalIn (d+1) 168 (.pointer (some ⟨a,0,none⟩)) (.pointer (some ⟨b,0,none⟩))).run Tryz.prog w= .ok r w:=by
  intro d;simp [Op.equalIn,run_underlying Tryz.underlying168,Tryz.sizeOf170,h]
 simp only [binOp];have:=key 9999;simp [Op.equal,Op.maxDepth,this]
abbrev z26 (h:LsN)(i:Fin h.length):Array Value:=#[plV h[i].2.1,h[i].2.2]
theorem z66 (n:Nat)(hn:1≤n)(l Bx nm hb E:Nat)(nx pv:Nat→Nat)(room:Int)(A:Nat→Prop)(r:LsN)(J Jx:List (Fin r.length)→World→Prop)(am:∀ s A B,J s A→A.grownBy B none→J s B)
  (hY:∀ D x W,J D W→D.length < r.length→YieldAt Fence.wide (n - 1) Tryz.prog l (z26 r x) W fun e Q=>(e= .returned (.bool true)∧J (D++[x]) Q∧KpN W Q)∨(e= .returned (.bool false)∧Jx (D++[x]) Q))
  (W:World) (X:W.heap[Bx]?=some (.cells #[zo nm] zm9 (0,0))) (hM:zix W A nm hb E nx pv room r) (h0:J [] W) :
  CallsIn Fence.wide n Tryz.prog 192 #[.func (.yield l) #[] #[],.pointer (some ⟨Bx,0,none⟩)] W fun e Q=>(∃ v,e= .returned v)∧((∃ xs,xs.map Fin.val=List.range r.length∧J xs Q)∨(∃ D,True∧Jx D Q)):=by
 have hc:=hM.ring.circ;have ag:nx E=lkB E r 0∧∀ q,q < r.length→nx (lkB E r q)=lkB E r (q+1):=by
  have hl:(r.map (·.1)++[E]).length=r.length+1:=by simp
  refine⟨?_,fun q h=>?_⟩
  ·have:=zn0 _ hc.2 0 (by simp);simp only [List.cons_append,List.getElem_cons_zero,List.getElem_cons_succ,Nat.zero_add] at this;unfold lkB;rw [List.getD_eq_getElem?_getD,List.getElem?_eq_getElem (by omega)];exact this
  ·have:=zn0 _ hc.2 (q+1) (by simp;omega);simp only [List.cons_append,List.getElem_cons_succ] at this;unfold lkB;rw [List.getD_eq_getElem?_getD,List.getD_eq_getElem?_getD,List.getElem?_eq_getElem (by omega),List.getElem?_eq_getElem (by omega)];exact this
 have V:=za ag;have R:=za hM;have U:=za X;have HY:=za hY;have L:Hid ((r.map (·.1)).Nodup∧E∉r.map (·.1)):=⟨(List.nodup_cons.1 hc.1).2,(List.nodup_cons.1 hc.1).1⟩
 clear hM X hY hc ag;refine callsIn_of_wp Tryz.func192 rfl trivial ?_ rfl;simp only [Tryz.ntmps192,List.size_toArray,List.length_cons,List.length_nil,Nat.reduceAdd,Nat.reduceSub,Array.replicate_succ,Array.replicate_zero,List.push_toArray,List.append_toArray,List.nil_append,List.cons_append];have c0:W.cell? ⟨Bx,0,none⟩=some (.pointer (some ⟨nm,0,none⟩)):=(zf U.o 0 _ rfl).1;have c1:W.cell? ⟨nm,2,none⟩=some (.pointer (some ⟨E,0,none⟩)):=(zf R.o.mem 2 _ rfl).1;have c2:W.cell? ⟨E,5,none⟩=some (.pointer (some ⟨nx E,0,none⟩)):=(zf R.o.ring.ends 5 _ rfl).1;rw [V.o.1] at c2
 gi_wp2
 gi_loopw [3] (fun p wr=>∃(q:Nat) (D:List (Fin r.length)),q≤r.length∧p= .pointer (some ⟨lkB E r q,0,none⟩)∧KpN W wr∧D.map Fin.val=List.range q∧J D wr) (fun p _=>r.length - yam (r.map (·.1)) p)
 case atStart=>exact⟨0,[],Nat.zero_le _,rfl,fun _ _ _ _ e _=>e,rfl,h0⟩
 case round =>
  obtain⟨q,D,hq,rfl,S,hp,hJ⟩:=hrel;have Z:=S _ _ _ _ U.o (by simp);have ae:=S _ _ _ _ R.o.mem (by simp);have e0:wr.cell? ⟨Bx,0,none⟩=some (.pointer (some ⟨nm,0,none⟩)):=(zf Z 0 _ rfl).1;have e1:wr.cell? ⟨nm,2,none⟩=some (.pointer (some ⟨E,0,none⟩)):=(zf ae 2 _ rfl).1;by_cases H:q < r.length
  ·have af:¬ lkB E r q=E:=fun e=>L.o.2 (by rw [← e,zqh H];exact List.mem_map_of_mem (List.getElem_mem H));have I:wr.heap[lkB E r q]?=some (.cells (lkN r[q].2.1 r[q].2.2 (pv r[q].1) (nx r[q].1)) LkN (0,0)):=by
    rw [zqh H];exact S _ _ _ _ (R.o.ring.link r[q] (List.getElem_mem H)) (by simp)
   have aa:wr.heap[E]?=some (.cells (lkN (0,0,0) (.pointer none) (pv E) (nx E)) LkN (0,0)):=S _ _ _ _ R.o.ring.ends (by simp);have ao:=zy2 (run_sameAddr_other (P:=Tryz.prog) (a:=⟨lkB E r q,0,none⟩) (b:=⟨E,0,none⟩) wr (by intro e;injection e with e;exact af e) I aa);obtain⟨a,ha⟩:=(R.o.ok r[q] (List.getElem_mem H)).2;have f0:wr.cell? ⟨lkB E r q,0,none⟩=some (.int .i64 r[q].2.1.1):=(zf I 0 _ rfl).1;have f1:wr.cell? ⟨lkB E r q,1,none⟩=some (.int .i64 r[q].2.1.2.1):=(zf I 1 _ rfl).1;have f2:wr.cell? ⟨lkB E r q,2,none⟩=some (.int .i64 r[q].2.1.2.2):=(zf I 2 _ rfl).1;have f3:wr.cell? ⟨lkB E r q,3,none⟩=some (.pointer a):=by
    have:=(zf I 3 _ rfl).1;rw [← ha];exact this
   have au:D.length=q:=by
    have:=congrArg List.length hp;simpa using this
   obtain⟨fn,tmps,assign,body,hy,hR⟩:=HY.o D ⟨q,H⟩ wr.drew (am _ _ _ hJ ⟨rfl,rfl,rfl,Nat.le_refl _,fun _ _ _=>rfl⟩) (by omega);have ac:z26 r ⟨q,H⟩=#[.agg #[.int .i64 r[q].2.1.1,.int .i64 r[q].2.1.2.1,.int .i64 r[q].2.1.2.2],.pointer a]:=by
    unfold z26 plV;simp only [Fin.getElem_fin];rw [ha]
   rw [ac] at hy;have HR:=za hR;have HK:=za S;have HP:=za hp;have ai:=za I;clear hR S hp Z ae I aa af ac HY;generalize Y:lkB E r q=lb at *
   have aj:Hid (nx r[q].1=lkB E r (q+1)):=by
    have:=V.o.2 q H;rw [zqh H] at this;exact this
   gi_wp2
   have ar:Tryz.prog.follows Departure.mixedOrders=true:=by kernel_rfl
   have ak:Hid (RoundIn Fence.wide (n - 1) Tryz.prog l fn tmps assign body wr.drew fun e Q=>∃ b,e= .returned (.bool b)∧((b=true∧J (D++[⟨q,H⟩]) Q∧KpN wr.drew Q)∨(b=false∧Jx (D++[⟨q,H⟩]) Q))):=HR.o.mono (fun e Q h=>by
    rcases h with ⟨rfl,h⟩ | ⟨rfl,h⟩
    ·exact⟨true,rfl,.inl ⟨rfl,h⟩⟩
    ·exact⟨false,rfl,.inr ⟨rfl,h⟩⟩)
   gi_region_with_o (refine ak.o.mono ?_;rintro e W3 ⟨b,rfl,aq⟩)
   all_goals (
    have ah:=za Y;clear Y;rcases aq with ⟨rfl,al,ad⟩ | ⟨rfl,an⟩)
   all_goals first
    | (
     have ap:W3.heap[lb]?=some (.cells (lkN r[q].2.1 r[q].2.2 (pv r[q].1) (nx r[q].1)) LkN (0,0)):=ad _ _ _ _ ai.o (by simp);have f5:W3.cell? ⟨lb,5,none⟩=some (.pointer (some ⟨lkB E r (q+1),0,none⟩)):=by
      have:=(zf ap 5 _ rfl).1;rw [← aj.o];exact this
     gi_wp2
     go_roundw
     case rel=>exact⟨q+1,D++[⟨q,H⟩],by omega,rfl,z83 HK.o (fun k c t x e ht=>ad k c t x e ht),by rw [List.map_append,HP.o,List.range_succ];rfl,al⟩
     case measure =>
      rw [← ah.o,zyo L.o.1 L.o.2 (by omega),zyo L.o.1 L.o.2 (by omega)];omega)
    | (
     gi_wp2
     refine bodyPost_ret (results_none rfl _ _ _) rfl ?_;exact⟨⟨_,rfl⟩,.inr ⟨_,trivial,an⟩⟩)
  ·obtain rfl:q=r.length:=by omega
   rw [zyb];have ao:=zy2 (run_sameAddr_same (P:=Tryz.prog) wr ⟨E,0,none⟩)
   gi_wp2
   go_end0;exact⟨⟨_,rfl⟩,.inl ⟨D,hp,hJ⟩⟩
theorem zwn (n:Nat)(hn:1≤n)(H nm Q I:Nat)(nx pv:Nat→Nat)(room:Int)(A:Nat→Prop)(D:LsN)(w:World)(K:w.heap[H]?=some (.cells #[zo nm] zm9 (0,0)))(h:zix w A nm Q I nx pv room D):
  SeqStopsK Fence.wide n Tryz.prog 192 #[.pointer (some ⟨H,0,none⟩)] (z26 D) KpN (fun xs=>xs.map Fin.val=List.range D.length) (fun _=>True) D.length w:=by
 intro l J S W R U V Z h0;have E:KpN w W:=fun k c t x e _=>(R.block k (zb e)).trans e;have L:zix W A nm Q I nx pv room D:=⟨h.own,E _ _ _ _ h.mem (by simp),⟨E _ _ _ _ h.ring.ends (by simp),fun x hx=>E _ _ _ _ (h.ring.link x hx) (by simp),h.ring.circ⟩,h.map.same (R.block _ h.map.lt),h.ok⟩
 exact z66 n hn l H nm Q I nx pv room A D J S (fun s X Y hs hg=>U s X Y none hs hg (fun r e=>by cases e)) Z W (E _ _ _ _ K (by simp)) L h0
end
end Go.Proofs.YtndkblnpbjffhaaGreatDoor
