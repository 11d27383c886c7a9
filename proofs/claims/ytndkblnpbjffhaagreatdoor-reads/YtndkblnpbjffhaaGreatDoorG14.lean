import Derived.Test.YtndkblnpbjffhaaGreatDoorG12
set_option maxHeartbeats 8000000
set_option maxRecDepth 100000
open Go.RowKit
namespace Go.Proofs.YtndkblnpbjffhaaGreatDoor
theorem zg.undrewK {O:Nat→Prop}{T:List Nat}{a w:World}{n:Nat}(h:zg O T (a.drewN n) w):zg O T a w:=⟨h.os,h.tape,h.output,h.size,h.block⟩
def z0c (room:Int)(L:LsN):LsN:=if room < (L.length:Int) then L.tail else L
theorem zv0 (L:LsN)(b:Nat)(p:Pl)(v:Value):LsN.ks (L++[(b,p,v)])=L.ks++[(p,b)]:=by simp [LsN.ks]
theorem zqc (L:LsN)(p:Pl):(L.drop p).get p=none:=by
 unfold LsN.get LsN.drop;have:(L.filter fun x=>!decide (x.2.1=p)).find? (fun x=>decide (x.2.1=p))=none:=by
  rw [List.find?_eq_none];intro x h;have:=(List.mem_filter.1 h).2;simpa using this
 rw [this]
theorem zfn.add {w:World}{A r:Nat}{p:Pl}{v:Value}{L:LsN}{nx pv:Nat→Nat}(h:zfn w A L nx pv)(Q:w.heap[r]?=some (.cells (lkN p v (pv A) A) LkN (0,0)))(D:r∉A::L.map (·.1)):
  zfn ((w.setCell ⟨pv A,5,none⟩ (.pointer (some ⟨r,0,none⟩))).setCell ⟨A,4,none⟩ (.pointer (some ⟨r,0,none⟩))) A (L++[(r,p,v)]) (upd (upd nx (pv A) r) r A) (upd (upd pv A r) r (pv A)):=by
 have K:=h.circ;have J:r≠pv A:=fun e=>D (e▸K.pv_mem);have I:r≠A:=fun e=>D (by simp [e]);have old:∀ {c:Nat} {q:Pl} {u:Value},c≠r→w.heap[c]?=some (.cells (lkN q u (pv c) (nx c)) LkN (0,0))→((w.setCell ⟨pv A,5,none⟩ (.pointer (some ⟨r,0,none⟩))).setCell ⟨A,4,none⟩ (.pointer (some ⟨r,0,none⟩))).heap[c]?=some (.cells (lkN q u (upd (upd pv A r) r (pv A) c) (upd (upd nx (pv A) r) r A c)) LkN (0,0)):=by
  intro c q u H e;rw [jh _ r _ c H,jh _ r _ c H];exact z2t (zss e)
 refine⟨old I.symm h.ends,fun x E=>?_,?_⟩
 ·rcases List.mem_append.1 E with E | E
  ·exact old (fun e=>D (by rw [← e];exact List.mem_cons_of_mem _ (List.mem_map.2 ⟨x,E,rfl⟩))) (h.link x E)
  ·obtain rfl:x=(r,p,v):=by simpa using E
   simp only;rw [vt,vt,heap_setCell_other _ _ _ _ I,heap_setCell_other _ _ _ _ J];exact Q
 ·rw [List.map_append];exact K.add D
theorem z34 (O:Nat→Prop)(S:Nat)(room:Int)(L:LsN)(p:Pl)(hp:zct p)(a:Option Addr)(w:World)(h:zab w O S room L)(hn:L.length≤1000000000000):
  Calls Tryz.prog 199 #[zo S,plV p,.pointer a] w fun r w'=>r= .returned (.tuple #[])∧zg O [LkN] w w'∧∃ H,w.heap.size≤H∧H < w'.heap.size∧zab w' (Ext O w w') S room (z0c room (L.drop p++[(H,p,.pointer a)])):=by
 have HD:=za (zpx O S room L p hp (w.alloc (.cells #[.int .i64 p.1,.int .i64 p.2.1,.int .i64 p.2.2] 99)) (h.below (ze w _) (fun _ h=>h)));have HP:=za hp;have HN:Hid ((L.drop p).length≤1000000000000):=Nat.le_trans (List.length_filter_le _ _) hn;have a2:=za (zqc L p);clear h hp hn;generalize L.drop p=L1 at *
 unfold plV zo at *
 go_enter Tryz.func199,Tryz.ntmps199;go_wp2_with fail;refine HD.o.mono ?_;rintro r U ⟨rfl,aw,aH⟩;have ad:U.heap[w.heap.size]?=some (.cells #[.int .i64 p.1,.int .i64 p.2.1,.int .i64 p.2.2] 99 (0,0)):=aw.keep (heap_alloc_last w _) (by decide);have ar:Hid (zg O [LkN] w U):=(zg.of_below (ze w _)).trans (aw.mono (fun k hk=> .inl hk) (fun _ h=>h));obtain⟨X,A,nx,pv,hm⟩:=aH;have HM:=za hm;have e2:U.cell? ⟨S,2,none⟩=some (.pointer (some ⟨A,0,none⟩)):=(zf hm.mem 2 _ rfl).1;have e4:U.cell? ⟨A,4,none⟩=some (.pointer (some ⟨pv A,0,none⟩)):=(zf hm.ring.ends 4 _ rfl).1;have k0:U.cell? ⟨w.heap.size,0,none⟩=some (.int .i64 p.1):=(zf ad 0 _ rfl).1;have k1:U.cell? ⟨w.heap.size,1,none⟩=some (.int .i64 p.2.1):=(zf ad 1 _ rfl).1;have k2:U.cell? ⟨w.heap.size,2,none⟩=some (.int .i64 p.2.2):=(zf ad 2 _ rfl).1;have am:=za ad;have z0:¬ S=U.heap.size:=by have:=zb hm.mem;omega
 have z1:¬ A=U.heap.size:=by have:=zb hm.ring.ends;omega
 have z2:¬ w.heap.size=U.heap.size:=by have:=zb ad;omega
 clear HD hm ad aw;go_wp2_with fail;go_region_held3 (fun w'=>w'.cell? ⟨S,2,none⟩=some (.pointer (some ⟨A,0,none⟩))∧w'.cell? ⟨A,4,none⟩=some (.pointer (some ⟨pv A,0,none⟩))∧w'.cell? ⟨w.heap.size,0,none⟩=some (.int .i64 p.1)∧w'.cell? ⟨w.heap.size,1,none⟩=some (.int .i64 p.2.1)∧w'.cell? ⟨w.heap.size,2,none⟩=some (.int .i64 p.2.2)) (go_keep) (fail);rename_i af;clear af z0 z1 z2 e2 e4 k0 k1 k2;have Y:Hid (Below U.heap.size U (U.alloc (.cells #[.int .i64 p.1,.int .i64 p.2.1,.int .i64 p.2.2,.pointer a,.pointer (some ⟨pv A,0,none⟩),.pointer (some ⟨A,0,none⟩)] LkN)).drew):=(ze _ _).drew;have ae:Hid ((U.alloc (.cells #[.int .i64 p.1,.int .i64 p.2.1,.int .i64 p.2.2,.pointer a,.pointer (some ⟨pv A,0,none⟩),.pointer (some ⟨A,0,none⟩)] LkN)).drew.heap[U.heap.size]?=some (.cells (lkN p (.pointer a) (pv A) A) LkN (0,0))):=heap_alloc_last _ _;generalize (U.alloc (.cells #[.int .i64 p.1,.int .i64 p.2.1,.int .i64 p.2.2,.pointer a,.pointer (some ⟨pv A,0,none⟩),.pointer (some ⟨A,0,none⟩)] LkN)).drew=R at *
 have ao:Hid (w.heap.size≤U.heap.size):=ar.o.size;have E:Hid (zix R O S X A nx pv room L1):=by
  have hm:=HM.o;refine⟨hm.own,(Y.o.block _ (zb hm.mem)).trans hm.mem,hm.ring.same fun k c e=>Y.o.block k (zb e),hm.map.same (Y.o.block _ hm.map.lt),hm.ok⟩
 have a4:Hid (zg O [LkN] w R):=ar.o.then_below Y.o;have an:Hid (R.heap[w.heap.size]?=some (.cells #[.int .i64 p.1,.int .i64 p.2.1,.int .i64 p.2.2] 99 (0,0))):=(Y.o.block _ (zb am.o)).trans am.o;have aj:Hid (U.heap.size∉A::L1.map (·.1)):=by
  intro J;rcases List.mem_cons.1 J with e | e
  ·have:=zb HM.o.ring.ends;omega
  ·obtain⟨x,J,ex⟩:=List.mem_map.1 e;have:=zb (HM.o.ring.link x J);omega
 clear ar HM am Y;generalize U.heap.size=H at *
 have aa:∃ q u,R.heap[pv A]?=some (.cells (lkN q u (pv (pv A)) (nx (pv A))) LkN (0,0)):=by
  rcases List.mem_cons.1 E.o.ring.circ.pv_mem with e | e
  ·rw [e];exact⟨_,_,E.o.ring.ends⟩
  ·obtain⟨x,J,ex⟩:=List.mem_map.1 e;rw [← ex];exact⟨_,_,E.o.ring.link x J⟩
 obtain⟨q,u,aa⟩:=aa;have oP:Hid (O (pv A)):=by
  rcases List.mem_cons.1 E.o.ring.circ.pv_mem with e | e
  ·rw [e];exact E.o.own.2.2.1
  ·obtain⟨x,J,ex⟩:=List.mem_map.1 e;rw [← ex];exact E.o.own.2.2.2 x J
 have n4:R.cell? ⟨H,4,none⟩=some (.pointer (some ⟨pv A,0,none⟩)):=(zf ae.o 4 _ rfl).1;have n5:R.cell? ⟨H,5,none⟩=some (.pointer (some ⟨A,0,none⟩)):=(zf ae.o 5 _ rfl).1;have p5:R.cell? ⟨pv A,5,none⟩=some (.pointer (some ⟨nx (pv A),0,none⟩)):=(zf aa 5 _ rfl).1;have g5:R.frozen? ⟨pv A,5,none⟩=false:=(zf aa 5 _ rfl).2;have e4:R.cell? ⟨A,4,none⟩=some (.pointer (some ⟨pv A,0,none⟩)):=(zf E.o.ring.ends 4 _ rfl).1;have g4:R.frozen? ⟨A,4,none⟩=false:=(zf E.o.ring.ends 4 _ rfl).2;have z0:¬ pv A=H:=fun e=>aj.o (e▸E.o.ring.circ.pv_mem);have z1:¬ A=H:=fun e=>aj.o (by simp [e]);have aq:=za aa;clear aa;go_wp2_with fail;go_region_held3 (fun w'=>w'.cell? ⟨H,4,none⟩=some (.pointer (some ⟨pv A,0,none⟩))∧w'.cell? ⟨H,5,none⟩=some (.pointer (some ⟨A,0,none⟩))) (go_keep) (fail);rename_i af;clear af;have HR:Hid (zg O [LkN] w ((R.setCell ⟨pv A,5,none⟩ (.pointer (some ⟨H,0,none⟩))).setCell ⟨A,4,none⟩ (.pointer (some ⟨H,0,none⟩))).drew∧zfn ((R.setCell ⟨pv A,5,none⟩ (.pointer (some ⟨H,0,none⟩))).setCell ⟨A,4,none⟩ (.pointer (some ⟨H,0,none⟩))).drew A (L1++[(H,p,.pointer a)]) (upd (upd nx (pv A) H) H A) (upd (upd pv A H) H (pv A)) ∧
   (H < ((R.setCell ⟨pv A,5,none⟩ (.pointer (some ⟨H,0,none⟩))).setCell ⟨A,4,none⟩ (.pointer (some ⟨H,0,none⟩))).drew.heap.size) ∧
   ∀(k:Nat),(∀ c:Array Value,R.heap[k]?≠some (Obj.cells c LkN (0,0)))→((R.setCell ⟨pv A,5,none⟩ (.pointer (some ⟨H,0,none⟩))).setCell ⟨A,4,none⟩ (.pointer (some ⟨H,0,none⟩))).drew.heap[k]?=R.heap[k]?):=by
  refine⟨?_,(E.o.ring.add ae.o aj.o).same fun k c _=>rfl,?_,?_⟩
  ·have t1:zg O [LkN] w (R.setCell ⟨pv A,5,none⟩ (.pointer (some ⟨H,0,none⟩))):=a4.o.set (.inl oP.out) aq.o (by simp) _;exact(t1.set (.inl E.o.own.2.2.1) (zss E.o.ring.ends) (by simp) _).drew
  ·have:=zb ae.o;simpa [World.setCell,World.drew] using this
  ·intro k hk;have e1:k≠A:=fun e=>hk _ (e▸E.o.ring.ends);have e2:k≠pv A:=fun e=>hk _ (e▸aq.o);show((R.setCell _ _).setCell _ _).heap[k]?=_;rw [heap_setCell_other _ _ _ _ e1,heap_setCell_other _ _ _ _ e2]
 generalize ((R.setCell ⟨pv A,5,none⟩ (.pointer (some ⟨H,0,none⟩))).setCell ⟨A,4,none⟩ (.pointer (some ⟨H,0,none⟩))).drew=W3 at *
 clear n4 n5 p5 g5 e4 g4 z0 z1 aq oP;have ah:W3.heap[S]?=some (.cells #[.int .i64 room,.map (some X),zo A] MeN (0,0)):=by
  rw [HR.o.2.2.2 S (fun c e=>by rw [E.o.mem] at e;simp only [Option.some.injEq,Obj.cells.injEq] at e;exact absurd e.2.1 (by decide))];exact E.o.mem
 have W:W3.heap[w.heap.size]?=some (.cells #[.int .i64 p.1,.int .i64 p.2.1,.int .i64 p.2.2] 99 (0,0)):=by
  rw [HR.o.2.2.2 w.heap.size (fun c e=>by rw [an.o] at e;simp only [Option.some.injEq,Obj.cells.injEq] at e;exact absurd e.2.1 (by decide))];exact an.o
 have au:jq W3.drew X L1.ks:=by
  refine E.o.map.same ?_;show W3.heap[X]?=_;refine HR.o.2.2.2 X (fun c e=>E.o.map.not e rfl)
 have a9:L1.ks.get p=none:=by rw [zjj,a2.o];rfl
 obtain⟨Q,aA,a8,ac⟩:=au.put Tryz.underlying167 HP.o (by have:=HN.o;unfold maxLen;simp [LsN.ks];omega) a9 H;unfold plV zo at aA;have V:W3.grownBy Q (some X):=⟨ac.os,ac.tape,ac.output,ac.size,ac.block⟩
 have ag:jq W3 X L1.ks:=au.same rfl;have av:=(V.block S (zb ah) (ag.not ah)).trans ah;have ak:=(V.block w.heap.size (zb W) (ag.not W)).trans W;have a1:W3.cell? ⟨S,1,none⟩=some (.map (some X)):=(zf ah 1 _ rfl).1;have b0:W3.cell? ⟨w.heap.size,0,none⟩=some (.int .i64 p.1):=(zf W 0 _ rfl).1;have b1:W3.cell? ⟨w.heap.size,1,none⟩=some (.int .i64 p.2.1):=(zf W 1 _ rfl).1;have b2:W3.cell? ⟨w.heap.size,2,none⟩=some (.int .i64 p.2.2):=(zf W 2 _ rfl).1;have c1:Q.cell? ⟨S,1,none⟩=some (.map (some X)):=(zf av 1 _ rfl).1;have d0:Q.cell? ⟨w.heap.size,0,none⟩=some (.int .i64 p.1):=(zf ak 0 _ rfl).1;have d1:Q.cell? ⟨w.heap.size,1,none⟩=some (.int .i64 p.2.1):=(zf ak 1 _ rfl).1;have d2:Q.cell? ⟨w.heap.size,2,none⟩=some (.int .i64 p.2.2):=(zf ak 2 _ rfl).1;have I:Hid (zix Q (Ext O w Q) S X A (upd (upd nx (pv A) H) H A) (upd (upd pv A H) H (pv A)) room (L1++[(H,p,.pointer a)])):=by
  refine⟨⟨.inl E.o.own.1,.inl E.o.own.2.1,.inl E.o.own.2.2.1,fun x J=>?_⟩,av,HR.o.2.1.same fun k c e=>V.block k (zb e) (ag.not e),by rw [zv0];exact a8,fun x J=>?_⟩
  ·rcases List.mem_append.1 J with J | J
   ·exact .inl (E.o.own.2.2.2 x J)
   ·obtain rfl:x=(H,p,.pointer a):=by simpa using J
    exact .inr ⟨ao.o,Nat.lt_of_lt_of_le HR.o.2.2.1 V.size⟩
  ·rcases List.mem_append.1 J with J | J
   ·exact E.o.ok x J
   ·obtain rfl:x=(H,p,.pointer a):=by simpa using J
    exact⟨HP.o,a,rfl⟩
 have a5:Hid (zg O [LkN] w Q):=HR.o.1.map (.inl E.o.own.2.1) ag V;have a3:Hid (H < Q.heap.size):=Nat.lt_of_lt_of_le HR.o.2.2.1 V.size;clear ah W au a9 a8 ac V ag av ak E a4 an aj ae HR;go_wp2_with fail;go_region_held3 (fun w'=>w'.cell? ⟨S,1,none⟩=some (.map (some X))∧w'.cell? ⟨w.heap.size,0,none⟩=some (.int .i64 p.1)∧w'.cell? ⟨w.heap.size,1,none⟩=some (.int .i64 p.2.1)∧w'.cell? ⟨w.heap.size,2,none⟩=some (.int .i64 p.2.2)) (go_keep) (fail);rename_i af;clear af aA a1 b0 b1 b2 d0 d1 d2 a2;generalize upd (upd nx (pv A) H) H A=ay at *
 generalize upd (upd pv A H) H (pv A)=aB at *
 have aK:Hid ((L1++[(H,p,Value.pointer a)]).length=L1.length+1):=by show _=_;simp
 have aD:Hid (L1++[(H,p,Value.pointer a)]≠[]):=by show _≠_;simp
 generalize a6:L1++[(H,p,Value.pointer a)]=Z at *
 have a0:=za a6;clear a6;have aM:∀ n ty,(Builtin.len_ #[167] ty #[.map (some X)]).run Tryz.prog (Q.drewN n)= .ok (.int .i64 (Z.length:Int)) (Q.drewN n):=fun n ty=>by
  have:=(I.o.map.same (w':=Q.drewN n) rfl).len Tryz.underlying167 ty;rw [this];simp [LsN.ks]
 have r0:Q.cell? ⟨S,0,none⟩=some (.int .i64 room):=(zf I.o.mem 0 _ rfl).1;have aJ:=za HN.o;by_cases hc:room < (Z.length:Int)
 ·have ap:Hid (z0c room Z=Z.tail):=if_pos hc;have r2:Q.cell? ⟨S,2,none⟩=some (.pointer (some ⟨A,0,none⟩)):=(zf I.o.mem 2 _ rfl).1;obtain⟨x,L5,eL⟩:∃ x r,Z=x::r:=by
   cases h:Z with
   | nil=>exact absurd h aD.o
   | cons x r=>exact⟨x,r,rfl⟩
  have aI:=za eL;have a7:ay A=x.1:=by
   have:=I.o.ring.circ;rw [eL,List.map_cons] at this;exact this.first.1
  have J:=I.o.ring.link x (by rw [eL];simp);have r5:Q.cell? ⟨A,5,none⟩=some (.pointer (some ⟨x.1,0,none⟩)):=by
   have:=(zf I.o.ring.ends 5 _ rfl).1;rw [a7] at this;exact this
  have x0:Q.cell? ⟨x.1,0,none⟩=some (.int .i64 x.2.1.1):=(zf J 0 _ rfl).1;have x1:Q.cell? ⟨x.1,1,none⟩=some (.int .i64 x.2.1.2.1):=(zf J 1 _ rfl).1;have x2:Q.cell? ⟨x.1,2,none⟩=some (.int .i64 x.2.1.2.2):=(zf J 2 _ rfl).1;have aG:=za (I.o.ok x (by rw [eL];simp)).1;have aF:Hid (Z.drop x.2.1=Z.tail):=by
   show _=_;obtain⟨D,-,-,al,-⟩:=I.o.map;rw [eL] at al ⊢;unfold LsN.ks at al;rw [List.map_map,List.map_cons,List.nodup_cons] at al;unfold LsN.drop;rw [List.filter_cons];simp only [decide_true,Bool.not_true,Bool.false_eq_true,if_false,List.tail_cons];rw [List.filter_eq_self];intro y hy;have:y.2.1≠x.2.1:=fun e=>al.1 (List.mem_map.2 ⟨y,hy,e⟩);simpa using this
  clear eL a7 J;have az:=za (fun n=>zpx (Ext O w Q) S room Z x.2.1 aG.o (Q.drewN n) ⟨X,A,ay,aB,⟨I.o.own,I.o.mem,I.o.ring.same fun _ _ _=>rfl,I.o.map.same rfl,I.o.ok⟩⟩);unfold plV zo at az;obtain⟨xb,⟨xl,xi,xw⟩,xv⟩:=x;go_wp2_with fail;go_quiet (fail);go_wp2_with fail;refine(az.o _).mono ?_;rintro r w5 ⟨rfl,ax,K⟩;rw [aF.o] at K;have aE:Hid (zg O [LkN] w w5):=a5.o.trans (ax.mono (fun _ h=>h) (fun _ h=>h)).undrewK;have ai:Q.heap.size≤w5.heap.size:=ax.size;obtain⟨h5,e5,n5,p5,K⟩:=K;have aC:Hid (zab w5 (Ext O w w5) S room Z.tail):=⟨h5,e5,n5,p5,⟨⟨Ext.more ai _ K.own.1,Ext.more ai _ K.own.2.1,Ext.more ai _ K.own.2.2.1,fun x J=>Ext.more ai _ (K.own.2.2.2 x J)⟩,K.mem,K.ring,K.map,K.ok⟩⟩
  clear ax K;go_wp2_with fail;go_end0;exact⟨rfl,aE.o,H,ao.o,Nat.lt_of_lt_of_le a3.o ai,by rw [a0.o,ap.o];exact aC.o⟩
 ·have ap:Hid (z0c room Z=Z):=if_neg hc;have aL:(Z.length:Int)≤room:=by omega
  go_wp2_with fail;go_quiet (fail);go_wp2_with fail;go_end0;exact⟨rfl,a5.o.drewN _,H,ao.o,a3.o,by rw [a0.o,ap.o];exact⟨X,A,ay,aB,⟨I.o.own,I.o.mem,I.o.ring.same fun _ _ _=>rfl,I.o.map.same rfl,I.o.ok⟩⟩⟩
end Go.Proofs.YtndkblnpbjffhaaGreatDoor
