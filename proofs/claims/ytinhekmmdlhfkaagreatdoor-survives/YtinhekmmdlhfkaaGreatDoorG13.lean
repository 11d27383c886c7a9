import Derived.Test.YtinhekmmdlhfkaaGreatDoorG11
import Derived.Test.YtinhekmmdlhfkaaGreatDoorG12
namespace Go.Proofs.YtinhekmmdlhfkaaGreatDoor
section
set_option maxHeartbeats 8000000
open Go.RowKit
set_option maxRecDepth 100000
theorem zf.undrewK {O:Nat→Prop}{T:List Nat}{a w:World}{n:Nat}(h:zf O T (a.drewN n) w):zf O T a w:=⟨h.os,h.tape,h.output,h.size,h.block⟩
def zxo (room:Int)(L:LsN):LsN:=if room < (L.length:Int) then L.tail else L
theorem zul (L:LsN)(b:Nat)(p:Pl)(v:Value):LsN.ks (L++[(b,p,v)])=L.ks++[(p,b)]:=by simp [LsN.ks]
theorem zqa (L:LsN)(p:Pl):(L.drop p).get p=none:=by
 unfold LsN.get LsN.drop
 have:(L.filter fun x=>!decide (x.2.1=p)).find? (fun x=>decide (x.2.1=p))=none:=by
  rw [List.find?_eq_none]
  intro x hx
  have:=(List.mem_filter.1 hx).2
  simpa using this
 rw [this]
theorem zeo.add {w:World}{eb nb:Nat}{p:Pl}{v:Value}{L:LsN}{nx pv:Nat→Nat}(h:zeo w eb L nx pv)(hn:w.heap[nb]?=some (.cells (lkN p v (pv eb) eb) LkN (0,0)))(hnot:nb∉eb::L.map (·.1)):
  zeo ((w.setCell ⟨pv eb,5,none⟩ (.pointer (some ⟨nb,0,none⟩))).setCell ⟨eb,4,none⟩ (.pointer (some ⟨nb,0,none⟩))) eb (L++[(nb,p,v)]) (upd (upd nx (pv eb) nb) nb eb) (upd (upd pv eb nb) nb (pv eb)):=by
 have hc:=h.circ
 have hpn:nb≠pv eb:=fun e=>hnot (e▸hc.pv_mem)
 have hen:nb≠eb:=fun e=>hnot (by simp [e])
 have old:∀ {c:Nat} {q:Pl} {u:Value},c≠nb→w.heap[c]?=some (.cells (lkN q u (pv c) (nx c)) LkN (0,0))→((w.setCell ⟨pv eb,5,none⟩ (.pointer (some ⟨nb,0,none⟩))).setCell ⟨eb,4,none⟩ (.pointer (some ⟨nb,0,none⟩))).heap[c]?=some (.cells (lkN q u (upd (upd pv eb nb) nb (pv eb) c) (upd (upd nx (pv eb) nb) nb eb c)) LkN (0,0)):=by
  intro c q u hc' e
  rw [ja _ nb _ c hc',ja _ nb _ c hc']
  exact z3x (zsk e)
 refine⟨old hen.symm h.ends,fun x hx=>?_,?_⟩
 ·rcases List.mem_append.1 hx with hx | hx
  ·exact old (fun e=>hnot (by rw [← e];exact List.mem_cons_of_mem _ (List.mem_map.2 ⟨x,hx,rfl⟩))) (h.link x hx)
  ·obtain rfl:x=(nb,p,v):=by simpa using hx
   simp only
   rw [vm,vm,heap_setCell_other _ _ _ _ hen,heap_setCell_other _ _ _ _ hpn]
   exact hn
 ·rw [List.map_append];exact hc.add hnot
theorem z4b (O:Nat→Prop)(mb:Nat)(room:Int)(L:LsN)(p:Pl)(hp:zcb p)(a:Option Addr)(w:World)(h:vt w O mb room L)(hn:L.length≤1000000000000):
  Calls Tryz.prog 153 #[zt mb,plV p,.pointer a] w fun r w'=>r= .returned (.tuple #[])∧zf O [LkN] w w'∧∃ nb,w.heap.size≤nb∧nb < w'.heap.size∧vt w' (Ext O w w') mb room (zxo room (L.drop p++[(nb,p,.pointer a)])):=by
 have HD:=za (zon O mb room L p hp (w.alloc (.cells #[.int .i64 p.1,.int .i64 p.2.1,.int .i64 p.2.2] 126)) (h.below (ze w _) (fun _ h=>h)))
 have HP:=za hp
 have HN:Hid ((L.drop p).length≤1000000000000):=Nat.le_trans (List.length_filter_le _ _) hn
 have HGN:=za (zqa L p)
 clear h hp hn
 generalize L.drop p=L1 at *
 unfold plV zt at *
 go_enter Tryz.func153,Tryz.ntmps153
 go_wp2_with fail
 refine HD.o.mono ?_
 rintro r w1 ⟨rfl,ht1,hm1⟩
 have hk1:w1.heap[w.heap.size]?=some (.cells #[.int .i64 p.1,.int .i64 p.2.1,.int .i64 p.2.2] 126 (0,0)):=ht1.keep (heap_alloc_last w _) (by decide)
 have HT1:Hid (zf O [LkN] w w1):=(zf.of_below (ze w _)).trans (ht1.mono (fun k hk=> .inl hk) (fun _ h=>h))
 obtain⟨hb,eb,nx,pv,hm⟩:=hm1
 have HM:=za hm
 have e2:w1.cell? ⟨mb,2,none⟩=some (.pointer (some ⟨eb,0,none⟩)):=(zg hm.mem 2 _ rfl).1
 have e4:w1.cell? ⟨eb,4,none⟩=some (.pointer (some ⟨pv eb,0,none⟩)):=(zg hm.ring.ends 4 _ rfl).1
 have k0:w1.cell? ⟨w.heap.size,0,none⟩=some (.int .i64 p.1):=(zg hk1 0 _ rfl).1
 have k1:w1.cell? ⟨w.heap.size,1,none⟩=some (.int .i64 p.2.1):=(zg hk1 1 _ rfl).1
 have k2:w1.cell? ⟨w.heap.size,2,none⟩=some (.int .i64 p.2.2):=(zg hk1 2 _ rfl).1
 have HK1:=za hk1
 have z0:¬ mb=w1.heap.size:=by have:=zb hm.mem;omega
 have z1:¬ eb=w1.heap.size:=by have:=zb hm.ring.ends;omega
 have z2:¬ w.heap.size=w1.heap.size:=by have:=zb hk1;omega
 clear HD hm hk1 ht1
 go_wp2_with fail
 go_region_held3 (fun w'=>w'.cell? ⟨mb,2,none⟩=some (.pointer (some ⟨eb,0,none⟩))∧w'.cell? ⟨eb,4,none⟩=some (.pointer (some ⟨pv eb,0,none⟩))∧w'.cell? ⟨w.heap.size,0,none⟩=some (.int .i64 p.1)∧w'.cell? ⟨w.heap.size,1,none⟩=some (.int .i64 p.2.1)∧w'.cell? ⟨w.heap.size,2,none⟩=some (.int .i64 p.2.2)) (go_keep) (fail)
 rename_i hheld
 clear hheld z0 z1 z2 e2 e4 k0 k1 k2
 have HB2:Hid (Below w1.heap.size w1 (w1.alloc (.cells #[.int .i64 p.1,.int .i64 p.2.1,.int .i64 p.2.2,.pointer a,.pointer (some ⟨pv eb,0,none⟩),.pointer (some ⟨eb,0,none⟩)] LkN)).drew):=(ze _ _).drew
 have HN2:Hid ((w1.alloc (.cells #[.int .i64 p.1,.int .i64 p.2.1,.int .i64 p.2.2,.pointer a,.pointer (some ⟨pv eb,0,none⟩),.pointer (some ⟨eb,0,none⟩)] LkN)).drew.heap[w1.heap.size]?=some (.cells (lkN p (.pointer a) (pv eb) eb) LkN (0,0))):=heap_alloc_last _ _
 generalize (w1.alloc (.cells #[.int .i64 p.1,.int .i64 p.2.1,.int .i64 p.2.2,.pointer a,.pointer (some ⟨pv eb,0,none⟩),.pointer (some ⟨eb,0,none⟩)] LkN)).drew=W2 at *
 have HNL:Hid (w.heap.size≤w1.heap.size):=HT1.o.size
 have HM2:Hid (zh7 W2 O mb hb eb nx pv room L1):=by
  have hm:=HM.o
  refine⟨hm.own,(HB2.o.block _ (zb hm.mem)).trans hm.mem,hm.ring.same fun k c e=>HB2.o.block k (zb e),hm.map.same (HB2.o.block _ hm.map.lt),hm.ok⟩
 have HT2:Hid (zf O [LkN] w W2):=HT1.o.then_below HB2.o
 have HK2:Hid (W2.heap[w.heap.size]?=some (.cells #[.int .i64 p.1,.int .i64 p.2.1,.int .i64 p.2.2] 126 (0,0))):=(HB2.o.block _ (zb HK1.o)).trans HK1.o
 have HNO:Hid (w1.heap.size∉eb::L1.map (·.1)):=by
  intro hx
  rcases List.mem_cons.1 hx with e | e
  ·have:=zb HM.o.ring.ends;omega
  ·obtain⟨x,hx,ex⟩:=List.mem_map.1 e
   have:=zb (HM.o.ring.link x hx)
   omega
 clear HT1 HM HK1 HB2
 generalize w1.heap.size=nb at *
 have hPV:∃ q u,W2.heap[pv eb]?=some (.cells (lkN q u (pv (pv eb)) (nx (pv eb))) LkN (0,0)):=by
  rcases List.mem_cons.1 HM2.o.ring.circ.pv_mem with e | e
  ·rw [e];exact⟨_,_,HM2.o.ring.ends⟩
  ·obtain⟨x,hx,ex⟩:=List.mem_map.1 e
   rw [← ex];exact⟨_,_,HM2.o.ring.link x hx⟩
 obtain⟨q,u,hPV⟩:=hPV
 have oP:Hid (O (pv eb)):=by
  rcases List.mem_cons.1 HM2.o.ring.circ.pv_mem with e | e
  ·rw [e];exact HM2.o.own.2.2.1
  ·obtain⟨x,hx,ex⟩:=List.mem_map.1 e
   rw [← ex];exact HM2.o.own.2.2.2 x hx
 have n4:W2.cell? ⟨nb,4,none⟩=some (.pointer (some ⟨pv eb,0,none⟩)):=(zg HN2.o 4 _ rfl).1
 have n5:W2.cell? ⟨nb,5,none⟩=some (.pointer (some ⟨eb,0,none⟩)):=(zg HN2.o 5 _ rfl).1
 have p5:W2.cell? ⟨pv eb,5,none⟩=some (.pointer (some ⟨nx (pv eb),0,none⟩)):=(zg hPV 5 _ rfl).1
 have g5:W2.frozen? ⟨pv eb,5,none⟩=false:=(zg hPV 5 _ rfl).2
 have e4:W2.cell? ⟨eb,4,none⟩=some (.pointer (some ⟨pv eb,0,none⟩)):=(zg HM2.o.ring.ends 4 _ rfl).1
 have g4:W2.frozen? ⟨eb,4,none⟩=false:=(zg HM2.o.ring.ends 4 _ rfl).2
 have z0:¬ pv eb=nb:=fun e=>HNO.o (e▸HM2.o.ring.circ.pv_mem)
 have z1:¬ eb=nb:=fun e=>HNO.o (by simp [e])
 have HPV:=za hPV
 clear hPV
 go_wp2_with fail
 go_region_held3 (fun w'=>w'.cell? ⟨nb,4,none⟩=some (.pointer (some ⟨pv eb,0,none⟩))∧w'.cell? ⟨nb,5,none⟩=some (.pointer (some ⟨eb,0,none⟩))) (go_keep) (fail)
 rename_i hheld
 clear hheld
 have HR:Hid (zf O [LkN] w ((W2.setCell ⟨pv eb,5,none⟩ (.pointer (some ⟨nb,0,none⟩))).setCell ⟨eb,4,none⟩ (.pointer (some ⟨nb,0,none⟩))).drew∧zeo ((W2.setCell ⟨pv eb,5,none⟩ (.pointer (some ⟨nb,0,none⟩))).setCell ⟨eb,4,none⟩ (.pointer (some ⟨nb,0,none⟩))).drew eb (L1++[(nb,p,.pointer a)]) (upd (upd nx (pv eb) nb) nb eb) (upd (upd pv eb nb) nb (pv eb)) ∧
   (nb < ((W2.setCell ⟨pv eb,5,none⟩ (.pointer (some ⟨nb,0,none⟩))).setCell ⟨eb,4,none⟩ (.pointer (some ⟨nb,0,none⟩))).drew.heap.size) ∧
   ∀(k:Nat),(∀ c:Array Value,W2.heap[k]?≠some (Obj.cells c LkN (0,0)))→((W2.setCell ⟨pv eb,5,none⟩ (.pointer (some ⟨nb,0,none⟩))).setCell ⟨eb,4,none⟩ (.pointer (some ⟨nb,0,none⟩))).drew.heap[k]?=W2.heap[k]?):=by
  refine⟨?_,(HM2.o.ring.add HN2.o HNO.o).same fun k c _=>rfl,?_,?_⟩
  ·have t1:zf O [LkN] w (W2.setCell ⟨pv eb,5,none⟩ (.pointer (some ⟨nb,0,none⟩))):=HT2.o.set (.inl oP.out) HPV.o (by simp) _
   exact(t1.set (.inl HM2.o.own.2.2.1) (zsk HM2.o.ring.ends) (by simp) _).drew
  ·have:=zb HN2.o
   simpa [World.setCell,World.drew] using this
  ·intro k hk
   have e1:k≠eb:=fun e=>hk _ (e▸HM2.o.ring.ends)
   have e2:k≠pv eb:=fun e=>hk _ (e▸HPV.o)
   show((W2.setCell _ _).setCell _ _).heap[k]?=_
   rw [heap_setCell_other _ _ _ _ e1,heap_setCell_other _ _ _ _ e2]
 generalize ((W2.setCell ⟨pv eb,5,none⟩ (.pointer (some ⟨nb,0,none⟩))).setCell ⟨eb,4,none⟩ (.pointer (some ⟨nb,0,none⟩))).drew=W3 at *
 clear n4 n5 p5 g5 e4 g4 z0 z1 HPV oP
 have hmem3:W3.heap[mb]?=some (.cells #[.int .i64 room,.map (some hb),zt eb] MeN (0,0)):=by
  rw [HR.o.2.2.2 mb (fun c e=>by rw [HM2.o.mem] at e;simp only [Option.some.injEq,Obj.cells.injEq] at e;exact absurd e.2.1 (by decide))];exact HM2.o.mem
 have hkey3:W3.heap[w.heap.size]?=some (.cells #[.int .i64 p.1,.int .i64 p.2.1,.int .i64 p.2.2] 126 (0,0)):=by
  rw [HR.o.2.2.2 w.heap.size (fun c e=>by rw [HK2.o] at e;simp only [Option.some.injEq,Obj.cells.injEq] at e;exact absurd e.2.1 (by decide))];exact HK2.o
 have hmap3:jc W3.drew hb L1.ks:=by
  refine HM2.o.map.same ?_
  show W3.heap[hb]?=_
  refine HR.o.2.2.2 hb (fun c e=>HM2.o.map.not e rfl)
 have hno:L1.ks.get p=none:=by rw [zjo,HGN.o];rfl
 obtain⟨w4,hrun,hmap4,hgrow⟩:=hmap3.put Tryz.underlying191 HP.o (by have:=HN.o;unfold maxLen;simp [LsN.ks];omega) hno nb
 unfold plV zt at hrun
 have hgr:W3.grownBy w4 (some hb):=⟨hgrow.os,hgrow.tape,hgrow.output,hgrow.size,hgrow.block⟩
 have hm3:jc W3 hb L1.ks:=hmap3.same rfl
 have hmem4:=(hgr.block mb (zb hmem3) (hm3.not hmem3)).trans hmem3
 have hkey4:=(hgr.block w.heap.size (zb hkey3) (hm3.not hkey3)).trans hkey3
 have a1:W3.cell? ⟨mb,1,none⟩=some (.map (some hb)):=(zg hmem3 1 _ rfl).1
 have b0:W3.cell? ⟨w.heap.size,0,none⟩=some (.int .i64 p.1):=(zg hkey3 0 _ rfl).1
 have b1:W3.cell? ⟨w.heap.size,1,none⟩=some (.int .i64 p.2.1):=(zg hkey3 1 _ rfl).1
 have b2:W3.cell? ⟨w.heap.size,2,none⟩=some (.int .i64 p.2.2):=(zg hkey3 2 _ rfl).1
 have c1:w4.cell? ⟨mb,1,none⟩=some (.map (some hb)):=(zg hmem4 1 _ rfl).1
 have d0:w4.cell? ⟨w.heap.size,0,none⟩=some (.int .i64 p.1):=(zg hkey4 0 _ rfl).1
 have d1:w4.cell? ⟨w.heap.size,1,none⟩=some (.int .i64 p.2.1):=(zg hkey4 1 _ rfl).1
 have d2:w4.cell? ⟨w.heap.size,2,none⟩=some (.int .i64 p.2.2):=(zg hkey4 2 _ rfl).1
 have HM4:Hid (zh7 w4 (Ext O w w4) mb hb eb (upd (upd nx (pv eb) nb) nb eb) (upd (upd pv eb nb) nb (pv eb)) room (L1++[(nb,p,.pointer a)])):=by
  refine⟨⟨.inl HM2.o.own.1,.inl HM2.o.own.2.1,.inl HM2.o.own.2.2.1,fun x hx=>?_⟩,hmem4,HR.o.2.1.same fun k c e=>hgr.block k (zb e) (hm3.not e),by rw [zul];exact hmap4,fun x hx=>?_⟩
  ·rcases List.mem_append.1 hx with hx | hx
   ·exact .inl (HM2.o.own.2.2.2 x hx)
   ·obtain rfl:x=(nb,p,.pointer a):=by simpa using hx
    exact .inr ⟨HNL.o,Nat.lt_of_lt_of_le HR.o.2.2.1 hgr.size⟩
  ·rcases List.mem_append.1 hx with hx | hx
   ·exact HM2.o.ok x hx
   ·obtain rfl:x=(nb,p,.pointer a):=by simpa using hx
    exact⟨HP.o,a,rfl⟩
 have HT4:Hid (zf O [LkN] w w4):=HR.o.1.map (.inl HM2.o.own.2.1) hm3 hgr
 have HNB:Hid (nb < w4.heap.size):=Nat.lt_of_lt_of_le HR.o.2.2.1 hgr.size
 clear hmem3 hkey3 hmap3 hno hmap4 hgrow hgr hm3 hmem4 hkey4 HM2 HT2 HK2 HNO HN2 HR
 go_wp2_with fail
 go_region_held3 (fun w'=>w'.cell? ⟨mb,1,none⟩=some (.map (some hb))∧w'.cell? ⟨w.heap.size,0,none⟩=some (.int .i64 p.1)∧w'.cell? ⟨w.heap.size,1,none⟩=some (.int .i64 p.2.1)∧w'.cell? ⟨w.heap.size,2,none⟩=some (.int .i64 p.2.2)) (go_keep) (fail)
 rename_i hheld
 clear hheld hrun a1 b0 b1 b2 d0 d1 d2 HGN
 generalize upd (upd nx (pv eb) nb) nb eb=nx4 at *
 generalize upd (upd pv eb nb) nb (pv eb)=pv4 at *
 have HL4:Hid ((L1++[(nb,p,Value.pointer a)]).length=L1.length+1):=by show _=_;simp
 have HNE:Hid (L1++[(nb,p,Value.pointer a)]≠[]):=by show _≠_;simp
 generalize hL4:L1++[(nb,p,Value.pointer a)]=L4 at *
 have HEQ:=za hL4
 clear hL4
 have hlen:∀ n ty,(Builtin.len_ #[191] ty #[.map (some hb)]).run Tryz.prog (w4.drewN n)= .ok (.int .i64 (L4.length:Int)) (w4.drewN n):=fun n ty=>by
  have:=(HM4.o.map.same (w':=w4.drewN n) rfl).len Tryz.underlying191 ty
  rw [this];simp [LsN.ks]
 have r0:w4.cell? ⟨mb,0,none⟩=some (.int .i64 room):=(zg HM4.o.mem 0 _ rfl).1
 have HHN:=za HN.o
 by_cases hc:room < (L4.length:Int)
 ·have HPR:Hid (zxo room L4=L4.tail):=if_pos hc
  have r2:w4.cell? ⟨mb,2,none⟩=some (.pointer (some ⟨eb,0,none⟩)):=(zg HM4.o.mem 2 _ rfl).1
  obtain⟨x,L5,eL⟩:∃ x r,L4=x::r:=by
   cases h:L4 with
   | nil=>exact absurd h HNE.o
   | cons x r=>exact⟨x,r,rfl⟩
  have HEL:=za eL
  have hfst:nx4 eb=x.1:=by
   have:=HM4.o.ring.circ
   rw [eL,List.map_cons] at this
   exact this.first.1
  have hx:=HM4.o.ring.link x (by rw [eL];simp)
  have r5:w4.cell? ⟨eb,5,none⟩=some (.pointer (some ⟨x.1,0,none⟩)):=by
   have:=(zg HM4.o.ring.ends 5 _ rfl).1
   rw [hfst] at this
   exact this
  have x0:w4.cell? ⟨x.1,0,none⟩=some (.int .i64 x.2.1.1):=(zg hx 0 _ rfl).1
  have x1:w4.cell? ⟨x.1,1,none⟩=some (.int .i64 x.2.1.2.1):=(zg hx 1 _ rfl).1
  have x2:w4.cell? ⟨x.1,2,none⟩=some (.int .i64 x.2.1.2.2):=(zg hx 2 _ rfl).1
  have HXO:=za (HM4.o.ok x (by rw [eL];simp)).1
  have HTL:Hid (L4.drop x.2.1=L4.tail):=by
   show _=_
   obtain⟨D,-,-,hnd,-⟩:=HM4.o.map
   rw [eL] at hnd ⊢
   unfold LsN.ks at hnd
   rw [List.map_map,List.map_cons,List.nodup_cons] at hnd
   unfold LsN.drop
   rw [List.filter_cons]
   simp only [decide_true,Bool.not_true,Bool.false_eq_true,if_false,List.tail_cons]
   rw [List.filter_eq_self]
   intro y hy
   have:y.2.1≠x.2.1:=fun e=>hnd.1 (List.mem_map.2 ⟨y,hy,e⟩)
   simpa using this
  clear eL hfst hx
  have HDR:=za (fun n=>zon (Ext O w w4) mb room L4 x.2.1 HXO.o (w4.drewN n) ⟨hb,eb,nx4,pv4,⟨HM4.o.own,HM4.o.mem,HM4.o.ring.same fun _ _ _=>rfl,HM4.o.map.same rfl,HM4.o.ok⟩⟩)
  unfold plV zt at HDR
  obtain⟨xb,⟨xl,xi,xw⟩,xv⟩:=x
  go_wp2_with fail
  go_quiet (fail)
  go_wp2_with fail
  refine(HDR.o _).mono ?_
  rintro r w5 ⟨rfl,ht5,hm5⟩
  rw [HTL.o] at hm5
  have HT5:Hid (zf O [LkN] w w5):=HT4.o.trans (ht5.mono (fun _ h=>h) (fun _ h=>h)).undrewK
  have hs5:w4.heap.size≤w5.heap.size:=ht5.size
  obtain⟨h5,e5,n5,p5,hm5⟩:=hm5
  have HM5:Hid (vt w5 (Ext O w w5) mb room L4.tail):=⟨h5,e5,n5,p5,⟨⟨Ext.more hs5 _ hm5.own.1,Ext.more hs5 _ hm5.own.2.1,Ext.more hs5 _ hm5.own.2.2.1,fun x hx=>Ext.more hs5 _ (hm5.own.2.2.2 x hx)⟩,hm5.mem,hm5.ring,hm5.map,hm5.ok⟩⟩
  clear ht5 hm5
  go_wp2_with fail
  go_end0
  exact⟨rfl,HT5.o,nb,HNL.o,Nat.lt_of_lt_of_le HNB.o hs5,by rw [HEQ.o,HPR.o];exact HM5.o⟩
 ·have HPR:Hid (zxo room L4=L4):=if_neg hc
  have hc':(L4.length:Int)≤room:=by omega
  go_wp2_with fail
  go_quiet (fail)
  go_wp2_with fail
  go_end0
  exact⟨rfl,HT4.o.drewN _,nb,HNL.o,HNB.o,by rw [HEQ.o,HPR.o];exact⟨hb,eb,nx4,pv4,⟨HM4.o.own,HM4.o.mem,HM4.o.ring.same fun _ _ _=>rfl,HM4.o.map.same rfl,HM4.o.ok⟩⟩⟩
end
section
set_option maxHeartbeats 8000000
open Go.RowKit
set_option maxRecDepth 100000
def zfr (room:Int)(L:LsP):LsP:=if room < (L.length:Int) then L.tail else L
theorem zuq (L:LsP)(b:Nat)(p:Pl)(v:List Value):LsP.ks (L++[(b,p,v)])=L.ks++[(p,b)]:=by simp [LsP.ks]
theorem zqu (L:LsP)(p:Pl):(L.drop p).get p=none:=by
 unfold LsP.get LsP.drop
 have:(L.filter fun x=>!decide (x.2.1=p)).find? (fun x=>decide (x.2.1=p))=none:=by
  rw [List.find?_eq_none]
  intro x hx
  have:=(List.mem_filter.1 hx).2
  simpa using this
 rw [this]
theorem zev.add {w:World}{eb nb:Nat}{p:Pl}{v:List Value}(hv:v.length=44)(hv1:∀ x∈v,x.oneCell'=true){L:LsP}{nx pv:Nat→Nat}(h:zev w eb L nx pv)(hn:w.heap[nb]?=some (.cells (lkP p v (pv eb) eb) LkP (0,0)))(hnot:nb∉eb::L.map (·.1)):
  zev ((w.setCell ⟨pv eb,48,none⟩ (.pointer (some ⟨nb,0,none⟩))).setCell ⟨eb,47,none⟩ (.pointer (some ⟨nb,0,none⟩))) eb (L++[(nb,p,v)]) (upd (upd nx (pv eb) nb) nb eb) (upd (upd pv eb nb) nb (pv eb)):=by
 have hc:=h.circ
 have hpn:nb≠pv eb:=fun e=>hnot (e▸hc.pv_mem)
 have hen:nb≠eb:=fun e=>hnot (by simp [e])
 have old:∀ {c:Nat} {q:Pl} {u:List Value},c≠nb→u.length=44→w.heap[c]?=some (.cells (lkP q u (pv c) (nx c)) LkP (0,0))→((w.setCell ⟨pv eb,48,none⟩ (.pointer (some ⟨nb,0,none⟩))).setCell ⟨eb,47,none⟩ (.pointer (some ⟨nb,0,none⟩))).heap[c]?=some (.cells (lkP q u (upd (upd pv eb nb) nb (pv eb) c) (upd (upd nx (pv eb) nb) nb eb c)) LkP (0,0)):=by
  intro c q u hc' hu e
  rw [ja _ nb _ c hc',ja _ nb _ c hc']
  exact zuk hu (zmo hu e)
 refine⟨old hen.symm za7 h.ends,fun x hx=>?_,?_,fun x hx=>?_⟩
 ·rcases List.mem_append.1 hx with hx | hx
  ·exact old (fun e=>hnot (by rw [← e];exact List.mem_cons_of_mem _ (List.mem_map.2 ⟨x,hx,rfl⟩))) (h.len x hx).1 (h.link x hx)
  ·obtain rfl:x=(nb,p,v):=by simpa using hx
   simp only
   rw [vm,vm,heap_setCell_other _ _ _ _ hen,heap_setCell_other _ _ _ _ hpn]
   exact hn
 ·rw [List.map_append];exact hc.add hnot
 ·rcases List.mem_append.1 hx with hx | hx
  ·exact h.len x hx
  ·obtain rfl:x=(nb,p,v):=by simpa using hx
   exact⟨hv,hv1⟩
def zoz (V:Value):Sem Value:=Instr.loadAt 130 V
theorem yq (V:Value):Instr.loadAt 130 V=zoz V:=rfl
theorem vy {w:World}{b o:Nat}{cs:List Value}(h:w.rangeAt b o cs)(hl:cs.length=44):(zoz (.pointer (some ⟨b,o,none⟩))).run Tryz.prog w= .ok (.agg cs.toArray) w :=
 run_loadAt_mid w b o _ cs _ h Tryz.underlying130 rfl (by rw [jk,hl])
def zw9 (parts:Array (Nat×Value)):Sem Value:=Instr.build LkP parts
theorem zpt (parts:Array (Nat×Value)):Instr.build LkP parts=zw9 parts:=rfl
theorem zv {n:Nat}{v:List Value}(h:v.length=n+1):∃ x r,v=x::r∧r.length=n:=by
 cases v with
 | nil=>simp at h
 | cons x r=>exact⟨x,r,rfl,by simpa using h⟩
theorem z8v (v:List Value)(h:v.length=44):∃ x0 x1 x2 x3 x4 x5 x6 x7 x8 x9 x10 x11 x12 x13 x14 x15 x16 x17 x18 x19 x20 x21 x22 x23 x24 x25 x26 x27 x28 x29 x30 x31 x32 x33 x34 x35 x36 x37 x38 x39 x40 x41 x42 x43:Value,v=[x0,x1,x2,x3,x4,x5,x6,x7,x8,x9,x10,x11,x12,x13,x14,x15,x16,x17,x18,x19,x20,x21,x22,x23,x24,x25,x26,x27,x28,x29,x30,x31,x32,x33,x34,x35,x36,x37,x38,x39,x40,x41,x42,x43]:=by
 obtain⟨x0,r0,e0,h0⟩:=zv h
 obtain⟨x1,r1,e1,h1⟩:=zv h0
 obtain⟨x2,r2,e2,h2⟩:=zv h1
 obtain⟨x3,r3,e3,h3⟩:=zv h2
 obtain⟨x4,r4,e4,h4⟩:=zv h3
 obtain⟨x5,r5,e5,h5⟩:=zv h4
 obtain⟨x6,r6,e6,h6⟩:=zv h5
 obtain⟨x7,r7,e7,h7⟩:=zv h6
 obtain⟨x8,r8,e8,h8⟩:=zv h7
 obtain⟨x9,r9,e9,h9⟩:=zv h8
 obtain⟨x10,r10,e10,h10⟩:=zv h9
 obtain⟨x11,r11,e11,h11⟩:=zv h10
 obtain⟨x12,r12,e12,h12⟩:=zv h11
 obtain⟨x13,r13,e13,h13⟩:=zv h12
 obtain⟨x14,r14,e14,h14⟩:=zv h13
 obtain⟨x15,r15,e15,h15⟩:=zv h14
 obtain⟨x16,r16,e16,h16⟩:=zv h15
 obtain⟨x17,r17,e17,h17⟩:=zv h16
 obtain⟨x18,r18,e18,h18⟩:=zv h17
 obtain⟨x19,r19,e19,h19⟩:=zv h18
 obtain⟨x20,r20,e20,h20⟩:=zv h19
 obtain⟨x21,r21,e21,h21⟩:=zv h20
 obtain⟨x22,r22,e22,h22⟩:=zv h21
 obtain⟨x23,r23,e23,h23⟩:=zv h22
 obtain⟨x24,r24,e24,h24⟩:=zv h23
 obtain⟨x25,r25,e25,h25⟩:=zv h24
 obtain⟨x26,r26,e26,h26⟩:=zv h25
 obtain⟨x27,r27,e27,h27⟩:=zv h26
 obtain⟨x28,r28,e28,h28⟩:=zv h27
 obtain⟨x29,r29,e29,h29⟩:=zv h28
 obtain⟨x30,r30,e30,h30⟩:=zv h29
 obtain⟨x31,r31,e31,h31⟩:=zv h30
 obtain⟨x32,r32,e32,h32⟩:=zv h31
 obtain⟨x33,r33,e33,h33⟩:=zv h32
 obtain⟨x34,r34,e34,h34⟩:=zv h33
 obtain⟨x35,r35,e35,h35⟩:=zv h34
 obtain⟨x36,r36,e36,h36⟩:=zv h35
 obtain⟨x37,r37,e37,h37⟩:=zv h36
 obtain⟨x38,r38,e38,h38⟩:=zv h37
 obtain⟨x39,r39,e39,h39⟩:=zv h38
 obtain⟨x40,r40,e40,h40⟩:=zv h39
 obtain⟨x41,r41,e41,h41⟩:=zv h40
 obtain⟨x42,r42,e42,h42⟩:=zv h41
 obtain⟨x43,r43,e43,h43⟩:=zv h42
 have e44:r43=[]:=List.length_eq_zero_iff.1 h43
 refine⟨x0,x1,x2,x3,x4,x5,x6,x7,x8,x9,x10,x11,x12,x13,x14,x15,x16,x17,x18,x19,x20,x21,x22,x23,x24,x25,x26,x27,x28,x29,x30,x31,x32,x33,x34,x35,x36,x37,x38,x39,x40,x41,x42,x43,?_⟩
 rw [e0,e1,e2,e3,e4,e5,e6,e7,e8,e9,e10,e11,e12,e13,e14,e15,e16,e17,e18,e19,e20,e21,e22,e23,e24,e25,e26,e27,e28,e29,e30,e31,e32,e33,e34,e35,e36,e37,e38,e39,e40,e41,e42,e43,e44]
theorem zvs (p:Pl)(v:List Value)(h:v.length=44)(o n:Nat)(w:World):
  (zw9 #[(0,.agg #[.int .i64 p.1,.int .i64 p.2.1,.int .i64 p.2.2]),(1,.agg v.toArray),(2,.pointer (some ⟨o,0,none⟩)),(3,.pointer (some ⟨n,0,none⟩))]).run Tryz.prog w= .ok (.agg (lkP p v o n)) w:=by
 obtain⟨x0,x1,x2,x3,x4,x5,x6,x7,x8,x9,x10,x11,x12,x13,x14,x15,x16,x17,x18,x19,x20,x21,x22,x23,x24,x25,x26,x27,x28,x29,x30,x31,x32,x33,x34,x35,x36,x37,x38,x39,x40,x41,x42,x43,rfl⟩:=z8v v h
 kernel_rfl
theorem z0n (v:List Value)(h:v.length=44):(Tryz.prog.info? 130).map (·.size)=some v.length:=by rw [jk,h]
attribute [local go_sem ↓] yq zpt
theorem z2f (O:Nat→Prop)(mb:Nat)(room:Int)(L:LsP)(p:Pl)(hp:zcb p)(v:List Value)(hv:v.length=44)(hv1:∀ x∈v,x.oneCell'=true)(w:World)(h:zct w O mb room L)(hn:L.length≤1000000000000):
  Calls Tryz.prog 148 #[zt mb,plV p,.agg v.toArray] w fun r w'=>r= .returned (.tuple #[])∧zf O [LkP] w w'∧∃ nb,w.heap.size≤nb∧nb < w'.heap.size∧zct w' (Ext O w w') mb room (zfr room (L.drop p++[(nb,p,v)])):=by
 have HD:=za (zpf O mb room L p hp ((w.alloc (.cells #[.int .i64 p.1,.int .i64 p.2.1,.int .i64 p.2.2] 126)).alloc (.cells v.toArray 130)) (h.below (zw w _ _) (fun _ h=>h)))
 have HP:=za hp
 have HN:Hid ((L.drop p).length≤1000000000000):=Nat.le_trans (List.length_filter_le _ _) hn
 have HGN:=za (zqu L p)
 have HV:=za (And.intro hv hv1)
 clear h hp hn hv hv1
 generalize L.drop p=L1 at *
 unfold plV zt at *
 go_enter Tryz.func148,Tryz.ntmps148
 go_wp2_with fail
 refine HD.o.mono ?_
 rintro r w1 ⟨rfl,ht1,hm1⟩
 have hk1:w1.heap[w.heap.size]?=some (.cells #[.int .i64 p.1,.int .i64 p.2.1,.int .i64 p.2.2] 126 (0,0)):=ht1.keep (zc (heap_alloc_last w _)) (by decide)
 have hq1:w1.heap[w.heap.size+1]?=some (.cells v.toArray 130 (0,0)):=ht1.keep (by have:=heap_alloc_last (w.alloc (.cells #[.int .i64 p.1,.int .i64 p.2.1,.int .i64 p.2.2] 126)) (.cells v.toArray 130);simpa using this) (by decide)
 have HT1:Hid (zf O [LkP] w w1):=(zf.of_below (zw w _ _)).trans (ht1.mono (fun k hk=> .inl hk) (fun _ h=>h))
 obtain⟨hb,eb,nx,pv,hm⟩:=hm1
 have HM:=za hm
 have e2:w1.cell? ⟨mb,2,none⟩=some (.pointer (some ⟨eb,0,none⟩)):=(zg hm.mem 2 _ rfl).1
 have e4:w1.cell? ⟨eb,47,none⟩=some (.pointer (some ⟨pv eb,0,none⟩)):=(zg hm.ring.ends 47 _ (zpc za7)).1
 have k0:w1.cell? ⟨w.heap.size,0,none⟩=some (.int .i64 p.1):=(zg hk1 0 _ rfl).1
 have k1:w1.cell? ⟨w.heap.size,1,none⟩=some (.int .i64 p.2.1):=(zg hk1 1 _ rfl).1
 have k2:w1.cell? ⟨w.heap.size,2,none⟩=some (.int .i64 p.2.2):=(zg hk1 2 _ rfl).1
 have rr:w1.rangeAt (w.heap.size+1) 0 v:=yv hq1
 have HK1:=za hk1
 have z0:¬ mb=w1.heap.size:=by have:=zb hm.mem;omega
 have z1:¬ eb=w1.heap.size:=by have:=zb hm.ring.ends;omega
 have z2:¬ w.heap.size=w1.heap.size:=by have:=zb hk1;omega
 have hu:=Tryz.underlying130
 have hi:=z0n v HV.o.1
 have h44:=HV.o.1
 have hone:=HV.o.2
 have hbuild:=zvs p v HV.o.1 (pv eb) eb
 have HRR:Hid (∀ w',w'=w1.drew→(zoz (.pointer (some ⟨w.heap.size+1,0,none⟩))).run Tryz.prog w'= .ok (.agg v.toArray) w'):=fun w' e=>by subst e;exact vy (by simpa using rr) h44
 have HRA:Hid (∀ o,(zoz (.pointer (some ⟨w.heap.size+1,0,none⟩))).run Tryz.prog (w1.alloc o).drew= .ok (.agg v.toArray) (w1.alloc o).drew):=fun o=>vy (by simpa using World.rangeAt_alloc rr o) h44
 clear HD hm hk1 ht1 hq1 rr hu hi h44 hone
 go_wp2_with fail
 go_region_held3 (fun w'=>w'.cell? ⟨mb,2,none⟩=some (.pointer (some ⟨eb,0,none⟩))∧w'.cell? ⟨eb,47,none⟩=some (.pointer (some ⟨pv eb,0,none⟩))∧w'.cell? ⟨w.heap.size,0,none⟩=some (.int .i64 p.1)∧w'.cell? ⟨w.heap.size,1,none⟩=some (.int .i64 p.2.1)∧w'.cell? ⟨w.heap.size,2,none⟩=some (.int .i64 p.2.2)∧(zoz (.pointer (some ⟨w.heap.size+1,0,none⟩))).run Tryz.prog w'= .ok (.agg v.toArray) w') ((first | (refine⟨?_,?_,?_,?_,?_,HRR.o _ rfl⟩<;>go_keep) | (refine⟨?_,?_,?_,?_,?_,HRA.o _⟩<;>go_keep))) (fail)
 rename_i hheld
 clear hheld z0 z1 z2 e2 e4 k0 k1 k2 HRR HRA hbuild
 have HB2:Hid (Below w1.heap.size w1 (w1.alloc (.cells (lkP p v (pv eb) eb) LkP)).drew):=(ze _ _).drew
 have HN2:Hid ((w1.alloc (.cells (lkP p v (pv eb) eb) LkP)).drew.heap[w1.heap.size]?=some (.cells (lkP p v (pv eb) eb) LkP (0,0))):=heap_alloc_last _ _
 generalize (w1.alloc (.cells (lkP p v (pv eb) eb) LkP)).drew=W2 at *
 have HNL:Hid (w.heap.size≤w1.heap.size):=HT1.o.size
 have HM2:Hid (zbn W2 O mb hb eb nx pv room L1):=by
  have hm:=HM.o
  refine⟨hm.own,(HB2.o.block _ (zb hm.mem)).trans hm.mem,hm.ring.same fun k c e=>HB2.o.block k (zb e),hm.map.same (HB2.o.block _ hm.map.lt),hm.ok⟩
 have HT2:Hid (zf O [LkP] w W2):=HT1.o.then_below HB2.o
 have HK2:Hid (W2.heap[w.heap.size]?=some (.cells #[.int .i64 p.1,.int .i64 p.2.1,.int .i64 p.2.2] 126 (0,0))):=(HB2.o.block _ (zb HK1.o)).trans HK1.o
 have HNO:Hid (w1.heap.size∉eb::L1.map (·.1)):=by
  intro hx
  rcases List.mem_cons.1 hx with e | e
  ·have:=zb HM.o.ring.ends;omega
  ·obtain⟨x,hx,ex⟩:=List.mem_map.1 e
   have:=zb (HM.o.ring.link x hx)
   omega
 clear HT1 HM HK1 HB2
 generalize w1.heap.size=nb at *
 have hPV:∃ q u,u.length=44∧W2.heap[pv eb]?=some (.cells (lkP q u (pv (pv eb)) (nx (pv eb))) LkP (0,0)):=by
  rcases List.mem_cons.1 HM2.o.ring.circ.pv_mem with e | e
  ·rw [e];exact⟨_,_,za7,HM2.o.ring.ends⟩
  ·obtain⟨x,hx,ex⟩:=List.mem_map.1 e
   rw [← ex];exact⟨_,_,(HM2.o.ring.len x hx).1,HM2.o.ring.link x hx⟩
 obtain⟨q,u,hPl,hPV⟩:=hPV
 have oP:Hid (O (pv eb)):=by
  rcases List.mem_cons.1 HM2.o.ring.circ.pv_mem with e | e
  ·rw [e];exact HM2.o.own.2.2.1
  ·obtain⟨x,hx,ex⟩:=List.mem_map.1 e
   rw [← ex];exact HM2.o.own.2.2.2 x hx
 have n4:W2.cell? ⟨nb,47,none⟩=some (.pointer (some ⟨pv eb,0,none⟩)):=(zg HN2.o 47 _ (zpc HV.o.1)).1
 have n5:W2.cell? ⟨nb,48,none⟩=some (.pointer (some ⟨eb,0,none⟩)):=(zg HN2.o 48 _ (zo1 HV.o.1)).1
 have p5:W2.cell? ⟨pv eb,48,none⟩=some (.pointer (some ⟨nx (pv eb),0,none⟩)):=(zg hPV 48 _ (zo1 hPl)).1
 have g5:W2.frozen? ⟨pv eb,48,none⟩=false:=(zg hPV 48 _ (zo1 hPl)).2
 have e4:W2.cell? ⟨eb,47,none⟩=some (.pointer (some ⟨pv eb,0,none⟩)):=(zg HM2.o.ring.ends 47 _ (zpc za7)).1
 have g4:W2.frozen? ⟨eb,47,none⟩=false:=(zg HM2.o.ring.ends 47 _ (zpc za7)).2
 have z0:¬ pv eb=nb:=fun e=>HNO.o (e▸HM2.o.ring.circ.pv_mem)
 have z1:¬ eb=nb:=fun e=>HNO.o (by simp [e])
 have HPV:=za hPV
 clear hPV hPl
 go_wp2_with fail
 go_region_held3 (fun w'=>w'.cell? ⟨nb,47,none⟩=some (.pointer (some ⟨pv eb,0,none⟩))∧w'.cell? ⟨nb,48,none⟩=some (.pointer (some ⟨eb,0,none⟩))) (go_keep) (fail)
 rename_i hheld
 clear hheld
 have HR:Hid (zf O [LkP] w ((W2.setCell ⟨pv eb,48,none⟩ (.pointer (some ⟨nb,0,none⟩))).setCell ⟨eb,47,none⟩ (.pointer (some ⟨nb,0,none⟩))).drew∧zev ((W2.setCell ⟨pv eb,48,none⟩ (.pointer (some ⟨nb,0,none⟩))).setCell ⟨eb,47,none⟩ (.pointer (some ⟨nb,0,none⟩))).drew eb (L1++[(nb,p,v)]) (upd (upd nx (pv eb) nb) nb eb) (upd (upd pv eb nb) nb (pv eb)) ∧
   (nb < ((W2.setCell ⟨pv eb,48,none⟩ (.pointer (some ⟨nb,0,none⟩))).setCell ⟨eb,47,none⟩ (.pointer (some ⟨nb,0,none⟩))).drew.heap.size) ∧
   ∀(k:Nat),(∀ c:Array Value,W2.heap[k]?≠some (Obj.cells c LkP (0,0)))→((W2.setCell ⟨pv eb,48,none⟩ (.pointer (some ⟨nb,0,none⟩))).setCell ⟨eb,47,none⟩ (.pointer (some ⟨nb,0,none⟩))).drew.heap[k]?=W2.heap[k]?):=by
  refine⟨?_,(HM2.o.ring.add HV.o.1 HV.o.2 HN2.o HNO.o).same fun k c _=>rfl,?_,?_⟩
  ·have t1:zf O [LkP] w (W2.setCell ⟨pv eb,48,none⟩ (.pointer (some ⟨nb,0,none⟩))):=HT2.o.set (.inl oP.out) HPV.o (by simp) _
   exact(t1.set (.inl HM2.o.own.2.2.1) (zmo za7 HM2.o.ring.ends) (by simp) _).drew
  ·have:=zb HN2.o
   simpa [World.setCell,World.drew] using this
  ·intro k hk
   have e1:k≠eb:=fun e=>hk _ (e▸HM2.o.ring.ends)
   have e2:k≠pv eb:=fun e=>hk _ (e▸HPV.o)
   show((W2.setCell _ _).setCell _ _).heap[k]?=_
   rw [heap_setCell_other _ _ _ _ e1,heap_setCell_other _ _ _ _ e2]
 generalize ((W2.setCell ⟨pv eb,48,none⟩ (.pointer (some ⟨nb,0,none⟩))).setCell ⟨eb,47,none⟩ (.pointer (some ⟨nb,0,none⟩))).drew=W3 at *
 clear n4 n5 p5 g5 e4 g4 z0 z1 HPV oP
 have hmem3:W3.heap[mb]?=some (.cells #[.int .i64 room,.map (some hb),zt eb] MeP (0,0)):=by
  rw [HR.o.2.2.2 mb (fun c e=>by rw [HM2.o.mem] at e;simp only [Option.some.injEq,Obj.cells.injEq] at e;exact absurd e.2.1 (by decide))];exact HM2.o.mem
 have hkey3:W3.heap[w.heap.size]?=some (.cells #[.int .i64 p.1,.int .i64 p.2.1,.int .i64 p.2.2] 126 (0,0)):=by
  rw [HR.o.2.2.2 w.heap.size (fun c e=>by rw [HK2.o] at e;simp only [Option.some.injEq,Obj.cells.injEq] at e;exact absurd e.2.1 (by decide))];exact HK2.o
 have hmap3:jc W3.drew hb L1.ks:=by
  refine HM2.o.map.same ?_
  show W3.heap[hb]?=_
  refine HR.o.2.2.2 hb (fun c e=>HM2.o.map.not e rfl)
 have hno:L1.ks.get p=none:=by rw [zjq,HGN.o];rfl
 obtain⟨w4,hrun,hmap4,hgrow⟩:=hmap3.put Tryz.underlying185 HP.o (by have:=HN.o;unfold maxLen;simp [LsP.ks];omega) hno nb
 unfold plV zt at hrun
 have hgr:W3.grownBy w4 (some hb):=⟨hgrow.os,hgrow.tape,hgrow.output,hgrow.size,hgrow.block⟩
 have hm3:jc W3 hb L1.ks:=hmap3.same rfl
 have hmem4:=(hgr.block mb (zb hmem3) (hm3.not hmem3)).trans hmem3
 have hkey4:=(hgr.block w.heap.size (zb hkey3) (hm3.not hkey3)).trans hkey3
 have a1:W3.cell? ⟨mb,1,none⟩=some (.map (some hb)):=(zg hmem3 1 _ rfl).1
 have b0:W3.cell? ⟨w.heap.size,0,none⟩=some (.int .i64 p.1):=(zg hkey3 0 _ rfl).1
 have b1:W3.cell? ⟨w.heap.size,1,none⟩=some (.int .i64 p.2.1):=(zg hkey3 1 _ rfl).1
 have b2:W3.cell? ⟨w.heap.size,2,none⟩=some (.int .i64 p.2.2):=(zg hkey3 2 _ rfl).1
 have c1:w4.cell? ⟨mb,1,none⟩=some (.map (some hb)):=(zg hmem4 1 _ rfl).1
 have d0:w4.cell? ⟨w.heap.size,0,none⟩=some (.int .i64 p.1):=(zg hkey4 0 _ rfl).1
 have d1:w4.cell? ⟨w.heap.size,1,none⟩=some (.int .i64 p.2.1):=(zg hkey4 1 _ rfl).1
 have d2:w4.cell? ⟨w.heap.size,2,none⟩=some (.int .i64 p.2.2):=(zg hkey4 2 _ rfl).1
 have HM4:Hid (zbn w4 (Ext O w w4) mb hb eb (upd (upd nx (pv eb) nb) nb eb) (upd (upd pv eb nb) nb (pv eb)) room (L1++[(nb,p,v)])):=by
  refine⟨⟨.inl HM2.o.own.1,.inl HM2.o.own.2.1,.inl HM2.o.own.2.2.1,fun x hx=>?_⟩,hmem4,HR.o.2.1.same fun k c e=>hgr.block k (zb e) (hm3.not e),by rw [zuq];exact hmap4,fun x hx=>?_⟩
  ·rcases List.mem_append.1 hx with hx | hx
   ·exact .inl (HM2.o.own.2.2.2 x hx)
   ·obtain rfl:x=(nb,p,v):=by simpa using hx
    exact .inr ⟨HNL.o,Nat.lt_of_lt_of_le HR.o.2.2.1 hgr.size⟩
  ·rcases List.mem_append.1 hx with hx | hx
   ·exact HM2.o.ok x hx
   ·obtain rfl:x=(nb,p,v):=by simpa using hx
    exact HP.o
 have HT4:Hid (zf O [LkP] w w4):=HR.o.1.map (.inl HM2.o.own.2.1) hm3 hgr
 have HNB:Hid (nb < w4.heap.size):=Nat.lt_of_lt_of_le HR.o.2.2.1 hgr.size
 clear hmem3 hkey3 hmap3 hno hmap4 hgrow hgr hm3 hmem4 hkey4 HM2 HT2 HK2 HNO HN2 HR
 go_wp2_with fail
 go_region_held3 (fun w'=>w'.cell? ⟨mb,1,none⟩=some (.map (some hb))∧w'.cell? ⟨w.heap.size,0,none⟩=some (.int .i64 p.1)∧w'.cell? ⟨w.heap.size,1,none⟩=some (.int .i64 p.2.1)∧w'.cell? ⟨w.heap.size,2,none⟩=some (.int .i64 p.2.2)) (go_keep) (fail)
 rename_i hheld
 clear hheld hrun a1 b0 b1 b2 d0 d1 d2 HGN
 generalize upd (upd nx (pv eb) nb) nb eb=nx4 at *
 generalize upd (upd pv eb nb) nb (pv eb)=pv4 at *
 have HL4:Hid ((L1++[(nb,p,v)]).length=L1.length+1):=by show _=_;simp
 have HNE:Hid (L1++[(nb,p,v)]≠[]):=by show _≠_;simp
 generalize hL4:L1++[(nb,p,v)]=L4 at *
 have HEQ:=za hL4
 clear hL4
 have hlen:∀ n ty,(Builtin.len_ #[185] ty #[.map (some hb)]).run Tryz.prog (w4.drewN n)= .ok (.int .i64 (L4.length:Int)) (w4.drewN n):=fun n ty=>by
  have:=(HM4.o.map.same (w':=w4.drewN n) rfl).len Tryz.underlying185 ty
  rw [this];simp [LsP.ks]
 have r0:w4.cell? ⟨mb,0,none⟩=some (.int .i64 room):=(zg HM4.o.mem 0 _ rfl).1
 have HHN:=za HN.o
 by_cases hc:room < (L4.length:Int)
 ·have HPR:Hid (zfr room L4=L4.tail):=if_pos hc
  have r2:w4.cell? ⟨mb,2,none⟩=some (.pointer (some ⟨eb,0,none⟩)):=(zg HM4.o.mem 2 _ rfl).1
  obtain⟨x,L5,eL⟩:∃ x r,L4=x::r:=by
   cases h:L4 with
   | nil=>exact absurd h HNE.o
   | cons x r=>exact⟨x,r,rfl⟩
  have HEL:=za eL
  have hfst:nx4 eb=x.1:=by
   have:=HM4.o.ring.circ
   rw [eL,List.map_cons] at this
   exact this.first.1
  have hx:=HM4.o.ring.link x (by rw [eL];simp)
  have r5:w4.cell? ⟨eb,48,none⟩=some (.pointer (some ⟨x.1,0,none⟩)):=by
   have:=(zg HM4.o.ring.ends 48 _ (zo1 za7)).1
   rw [hfst] at this
   exact this
  have x0:w4.cell? ⟨x.1,0,none⟩=some (.int .i64 x.2.1.1):=(zg hx 0 _ rfl).1
  have x1:w4.cell? ⟨x.1,1,none⟩=some (.int .i64 x.2.1.2.1):=(zg hx 1 _ rfl).1
  have x2:w4.cell? ⟨x.1,2,none⟩=some (.int .i64 x.2.1.2.2):=(zg hx 2 _ rfl).1
  have HXO:=za (HM4.o.ok x (by rw [eL];simp))
  have HTL:Hid (L4.drop x.2.1=L4.tail):=by
   show _=_
   obtain⟨D,-,-,hnd,-⟩:=HM4.o.map
   rw [eL] at hnd ⊢
   unfold LsP.ks at hnd
   rw [List.map_map,List.map_cons,List.nodup_cons] at hnd
   unfold LsP.drop
   rw [List.filter_cons]
   simp only [decide_true,Bool.not_true,Bool.false_eq_true,if_false,List.tail_cons]
   rw [List.filter_eq_self]
   intro y hy
   have:y.2.1≠x.2.1:=fun e=>hnd.1 (List.mem_map.2 ⟨y,hy,e⟩)
   simpa using this
  clear eL hfst hx
  have HDR:=za (fun n=>zpf (Ext O w w4) mb room L4 x.2.1 HXO.o (w4.drewN n) ⟨hb,eb,nx4,pv4,⟨HM4.o.own,HM4.o.mem,HM4.o.ring.same fun _ _ _=>rfl,HM4.o.map.same rfl,HM4.o.ok⟩⟩)
  unfold plV zt at HDR
  obtain⟨xb,⟨xl,xi,xw⟩,xv⟩:=x
  go_wp2_with fail
  go_quiet (fail)
  go_wp2_with fail
  refine(HDR.o _).mono ?_
  rintro r w5 ⟨rfl,ht5,hm5⟩
  rw [HTL.o] at hm5
  have HT5:Hid (zf O [LkP] w w5):=HT4.o.trans (ht5.mono (fun _ h=>h) (fun _ h=>h)).undrewK
  have hs5:w4.heap.size≤w5.heap.size:=ht5.size
  obtain⟨h5,e5,n5,p5,hm5⟩:=hm5
  have HM5:Hid (zct w5 (Ext O w w5) mb room L4.tail):=⟨h5,e5,n5,p5,⟨⟨Ext.more hs5 _ hm5.own.1,Ext.more hs5 _ hm5.own.2.1,Ext.more hs5 _ hm5.own.2.2.1,fun x hx=>Ext.more hs5 _ (hm5.own.2.2.2 x hx)⟩,hm5.mem,hm5.ring,hm5.map,hm5.ok⟩⟩
  clear ht5 hm5
  go_wp2_with fail
  go_end0
  exact⟨rfl,HT5.o,nb,HNL.o,Nat.lt_of_lt_of_le HNB.o hs5,by rw [HEQ.o,HPR.o];exact HM5.o⟩
 ·have HPR:Hid (zfr room L4=L4):=if_neg hc
  have hc':(L4.length:Int)≤room:=by omega
  go_wp2_with fail
  go_quiet (fail)
  go_wp2_with fail
  go_end0
  exact⟨rfl,HT4.o.drewN _,nb,HNL.o,HNB.o,by rw [HEQ.o,HPR.o];exact⟨hb,eb,nx4,pv4,⟨HM4.o.own,HM4.o.mem,HM4.o.ring.same fun _ _ _=>rfl,HM4.o.map.same rfl,HM4.o.ok⟩⟩⟩
end
end Go.Proofs.YtinhekmmdlhfkaaGreatDoor
