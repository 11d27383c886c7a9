import Derived.Test.YtinhekmmdlhfkaaGreatDoorG15
import Derived.Test.YtinhekmmdlhfkaaGreatDoorG20
import Derived.Test.YtinhekmmdlhfkaaGreatDoorG19
import Derived.Test.YtinhekmmdlhfkaaGreatDoorG03
import Derived.Test.YtinhekmmdlhfkaaGreatDoorG10
namespace Go.Proofs.YtinhekmmdlhfkaaGreatDoor
section
set_option maxHeartbeats 1000000
open Go.RowKit
set_option maxRecDepth 100000
attribute [local go_sem ↓] yq yk yt yp yn yo yu yl
def zte (w:World)(v:Value)(l:List UInt8):Prop:=(v=zc8∧l=[])∨Bq w v l
structure zcq (w:World)(x:Px)(p:Pc):Prop where
 there:x.there=p.there
 fits:x.fits=p.fits
 hash:x.hash=p.hash
 ent:zte w x.ent p.entry
def j4 (w:World)(xs:List Px)(f:Fl):Prop:=xs.length=4∧f.length=4∧∀ k,k < 4→zcq w (xs.getD k .no) (f.getD k .no)
theorem zte.turn {w w':World}{O:Nat→Prop}{T:List Nat}{v:Value}{l:List UInt8}(h:zte w v l)(ht:zf O T w w')(hT:5∉T):zte w' v l:=by
 rcases h with h | h
 ·exact .inl h
 ·exact .inr (h.turn ht hT)
theorem zcq.turn {w w':World}{O:Nat→Prop}{T:List Nat}{x:Px}{p:Pc}(h:zcq w x p)(ht:zf O T w w')(hT:5∉T):zcq w' x p:=⟨h.there,h.fits,h.hash,h.ent.turn ht hT⟩
theorem j4.turn {w w':World}{O:Nat→Prop}{T:List Nat}{xs:List Px}{f:Fl}(h:j4 w xs f)(ht:zf O T w w')(hT:5∉T):j4 w' xs f:=⟨h.1,h.2.1,fun k hk=>(h.2.2 k hk).turn ht hT⟩
theorem j4.below {w w':World}{xs:List Px}{f:Fl}(h:j4 w xs f)(hb:Below w.heap.size w w'):j4 w' xs f:=h.turn (O:=fun _=>False) (T:=[]) (.of_below hb) (by simp)
theorem zcq.none (w:World):zcq w .no .no:=⟨rfl,rfl,rfl,.inl ⟨rfl,rfl⟩⟩
theorem j4.none (w:World):j4 w Fx.no Fl.no:=⟨rfl,rfl,fun k hk=>by
 match k,hk with
 | 0,_=>exact zcq.none w
 | 1,_=>exact zcq.none w
 | 2,_=>exact zcq.none w
 | 3,_=>exact zcq.none w⟩
theorem zha {α:Type}(f:Nat→α)(z:α){k:Nat}(hk:k < 4):((List.range 4).map f).getD k z=f k:=by
 match k,hk with
 | 0,_=>rfl
 | 1,_=>rfl
 | 2,_=>rfl
 | 3,_=>rfl
theorem z59 (w:World)(n:Nat)(d:List UInt8):j4 w (zep n d) (ze4 n d):=by
 refine⟨by simp [zep],by simp [ze4],fun k hk=>?_⟩
 unfold zep ze4
 rw [zha _ _ hk,zha _ _ hk]
 by_cases h:k < n
 ·rw [if_pos h,if_pos h];exact⟨rfl,rfl,rfl,.inl ⟨rfl,rfl⟩⟩
 ·rw [if_neg h,if_neg h];exact zcq.none w
theorem z7p {w:World}{B:Nat}{es:List (List UInt8)}{vs:List Value}(h:∀ j (hj:j < es.length),OB w B (vs.getD j zc8) es[j]):j4 w (zgd es.length es vs) (zhw es):=by
 refine⟨by simp [zgd],by simp [zhw],fun k hk=>?_⟩
 unfold zgd zhw
 rw [zha _ _ hk,zha _ _ hk]
 by_cases hl:k < es.length
 ·rw [if_pos hl,if_pos hl]
  refine⟨rfl,rfl,rfl,.inr ?_⟩
  have:es.getD k []=es[k]:=by rw [List.getD_eq_getElem?_getD,List.getElem?_eq_getElem hl];rfl
  show Bq w _ (es.getD k [])
  rw [this]
  exact(h k hl).bq
 ·rw [if_neg hl,if_neg hl];exact zcq.none w
theorem zol (x:Option (List UInt8))(n:Nat):zbu (-1) n (x.getD [])=(zei x n).map zhw:=by
 unfold zbu zei
 rw [if_pos rfl]
 cases x with
 | none=>rfl
 | some d =>
  simp only [Option.getD_some]
  cases zch d with
  | none=>rfl
  | some es =>
   simp only
   by_cases h:es.length=n
   ·rw [if_pos h,if_pos (by rw [h])];rfl
   ·rw [if_neg h,if_neg (by omega)];rfl
theorem zkw (n:Nat)(hn:n≤4)(a:Option Addr)(len cap:Nat)(hd:len≠8*n)(w:World):
  Calls Tryz.prog 210 #[.int .i64 n,.slice a len cap] w fun r w'=>r= .returned (.tuple #[.agg (fcs Fx.no).toArray,.bool false])∧Below w.heap.size w w':=by
 have hne:((len:Int) != (n:Int)*8)=true:=by simp;omega
 have hbf:=zjz (w.alloc (.cells qh zr))
 have H0:Hid (Below w.heap.size w (w.alloc (.cells qh zr))∧zn (w.alloc (.cells qh zr)) w.heap.size Fx.no):=⟨ze _ _,heap_alloc_last _ _⟩
 rw [zpz] at hbf
 go_enter Tryz.func210,Tryz.ntmps210
 have hst:=qc (xg H0.o.2 Fx.no_ok) Fx.no_ok.len (ji Fx.no_ok.2)
 have HW:=za (xt H0.o.2 Fx.no_ok Fx.no_ok)
 have HB:=za (zu H0.o.1 (Nat.le_refl w.heap.size) (fcs Fx.no) 0)
 go_wp2_with fail
 exact bodyPost_ret (v:= .tuple #[.agg (fcs Fx.no).toArray,.bool false]) (zy Tryz.results210 _ _ w.heap.size zr _ (0,0) _ rfl HW.o Tryz.underlying130 rfl (by rw [jk,List.size_toArray,Fx.no_ok.len]) _ rfl) rfl ⟨rfl,HB.o⟩
def zjs (w':World)(o:Option Fl)(r:Ending):Prop :=
 (∃ xs f,o=some f∧FOk xs∧j4 w' xs f∧r= .returned (.tuple #[.agg (fcs xs).toArray,.bool true]))∨(o=none∧∃ xs,FOk xs∧r= .returned (.tuple #[.agg (fcs xs).toArray,.bool false]))
theorem zqq (n:Nat)(hn0:0 < n)(hn:n≤4)(l:Int)(hl:l≠-1)(v:Value)(x:Option (List UInt8))(w:World)(h:zfd w v x):
  Calls Tryz.prog 210 #[.int .i64 n,v] w fun r w'=>Below w.heap.size w w'∧zjs w' (zbu l n (x.getD [])) r:=by
 rcases h with ⟨d,rfl,hq⟩ | ⟨rfl,rfl⟩
 ·by_cases hd:d.length=8*n
  ·refine(zqj n hn hn0 v d hd w hq).mono ?_
   rintro r w' ⟨rfl,hb⟩
   refine⟨hb,.inl ⟨_,ze4 n d,?_,zqp d (by omega),z59 _ _ _,rfl⟩⟩
   unfold zbu
   rw [if_neg hl,Option.getD_some,if_pos (by omega)]
   rfl
  ·obtain⟨g,cap,C,fr,rfl,-⟩:=hq
   refine(zkw n hn _ _ _ hd w).mono ?_
   rintro r w' ⟨rfl,hb⟩
   refine⟨hb,.inr ⟨?_,_,Fx.no_ok,rfl⟩⟩
   unfold zbu
   rw [if_neg hl,Option.getD_some,if_neg (by omega)]
 ·refine(zkw n hn _ _ _ (by omega) w).mono ?_
  rintro r w' ⟨rfl,hb⟩
  refine⟨hb,.inr ⟨?_,_,Fx.no_ok,rfl⟩⟩
  unfold zbu
  rw [if_neg hl,Option.getD_none,if_neg (by simp;omega)]
theorem zti (n:Nat)(v:Value)(x:Option (List UInt8))(w:World)(h:zfd w v x):
  Calls Tryz.prog 209 #[.int .i64 n,v] w fun r w'=>Below w.heap.size w w'∧zjs w' (zbu (-1) n (x.getD [])) r:=by
 refine(znd n v x w h).mono ?_
 rintro r w' ⟨hb,⟨es,vs,he,rfl,ho⟩ | ⟨he,rfl⟩⟩
 ·refine⟨hb,.inl ⟨_,zhw es,by rw [zol,he];rfl,zw1 es vs (fun j hj=>?_),z7p ho,rfl⟩⟩
  obtain⟨g,c,e,-⟩:=(ho j hj).form
  exact⟨_,_,_,e⟩
 ·exact⟨hb,.inr ⟨by rw [zol,he];rfl,_,Fx.no_ok,rfl⟩⟩
end
section
set_option maxHeartbeats 2000000
open Go.RowKit
set_option maxRecDepth 100000
attribute [local go_sem ↓] yq yk yt yp yn yo yu yl
theorem zjs.all {w':World}{o:Option Fl}{r:Ending}(h:zjs w' o r):∃ xs,FOk xs∧r= .returned (.tuple #[.agg (fcs xs).toArray,.bool o.isSome])∧∀ f,o=some f→j4 w' xs f:=by
 rcases h with ⟨xs,f,rfl,hk,hi,rfl⟩ | ⟨rfl,xs,hk,rfl⟩
 ·exact⟨xs,hk,rfl,fun f' e=>by rw [← Option.some.inj e];exact hi⟩
 ·exact⟨xs,hk,rfl,fun f' e=>by simp at e⟩
theorem zjs.mk {w':World}{o:Option Fl}{xs:List Px}(hk:FOk xs)(hf:∀ f,o=some f→j4 w' xs f):zjs w' o (.returned (.tuple #[.agg (fcs xs).toArray,.bool o.isSome])):=by
 cases o with
 | none=>exact .inr ⟨rfl,xs,hk,rfl⟩
 | some f=>exact .inl ⟨xs,f,rfl,hk,hf f rfl,rfl⟩
theorem zfd.below {w w':World}{v:Value}{x:Option (List UInt8)}(h:zfd w v x)(hb:Below w.heap.size w w'):zfd w' v x:=by
 rcases h with ⟨d,rfl,hq⟩ | ⟨rfl,rfl⟩
 ·exact .inl ⟨d,rfl,hq.below hb⟩
 ·exact .inr ⟨rfl,rfl⟩
theorem zxn (l ix:Int)(n:Nat)(hn0:0 < n)(hn:n≤4)(v:Value)(x:Option (List UInt8))(w:World)(h:zfd w v x):
  Calls Tryz.prog 199 #[plV (l,ix,n),v] w fun r w'=>Below w.heap.size w w'∧zjs w' (zbu l n (x.getD [])) r:=by
 unfold plV
 simp only
 have H0:Hid (Below w.heap.size w ((w.alloc (.cells #[.int .i64 l,.int .i64 ix,.int .i64 n] 126)).alloc (.cells qh zr))∧zn ((w.alloc (.cells #[.int .i64 l,.int .i64 ix,.int .i64 n] 126)).alloc (.cells qh zr)) (w.heap.size+1) Fx.no):=by
  refine⟨zw _ _ _,?_⟩
  have:=heap_alloc_last (w.alloc (.cells #[.int .i64 l,.int .i64 ix,.int .i64 n] 126)) (.cells qh zr)
  rw [show(w.alloc (.cells #[.int .i64 l,.int .i64 ix,.int .i64 n] 126)).heap.size=w.heap.size+1 by simp] at this
  exact this
 have H:=za h
 clear h
 by_cases hl:l=-1
 ·subst hl
  have HC:=za (zti n v x _ (H.o.below H0.o.1))
  go_enter Tryz.func199,Tryz.ntmps199
  go_wp2_with fail
  refine HC.o.mono ?_
  rintro r w1 ⟨hb1,hc⟩
  obtain⟨xs,hk,rfl,hi⟩:=hc.all
  have hbw:Below w.heap.size w w1:=H0.o.1.trans (hb1.mono H0.o.1.size)
  have hf1:zn w1 (w.heap.size+1) Fx.no:=(hb1.block _ (zb H0.o.2)).trans H0.o.2
  have hst:(zcd (.pointer (some ⟨w.heap.size+1,0,none⟩)) (.agg (fcs xs).toArray)).run Tryz.prog w1= .ok () (w1.setCells (w.heap.size+1) 0 (fcs xs)):=qc (xg hf1 Fx.no_ok) hk.len (ji hk.2)
  have HW:=za (xt hf1 Fx.no_ok hk)
  have HB:=za (zu hbw (Nat.le_succ w.heap.size) (fcs xs) 0)
  have HTN:Hid (zf (fun b=>b=w.heap.size+1) [zr] w1 (w1.setCells (w.heap.size+1) 0 (fcs xs))):=za ((zf.refl (fun b=>b=w.heap.size+1) [zr] w1).setCells (.inl rfl) hf1 (by simp) _ _)
  have HI:=za hi
  have HK:=za hk
  clear hc hi hk hbw hf1 hb1 HC
  generalize ho:zbu (-1) n (x.getD [])=o at *
  have HO:=za ho
  clear ho
  go_wp2_with fail
  exact bodyPost_ret (v:= .tuple #[.agg (fcs xs).toArray,.bool o.isSome]) (zy Tryz.results199 _ _ (w.heap.size+1) zr _ (0,0) _ rfl HW.o Tryz.underlying130 rfl (by rw [jk,List.size_toArray,HK.o.len]) _ rfl) rfl ⟨HB.o,by rw [HO.o];exact zjs.mk HK.o (fun f e=>(HI.o f e).turn HTN.o (by decide))⟩
 ·have hlb:(l==-1)=false:=by simp [hl]
  have HC:=za (zqq n hn0 hn l hl v x _ (H.o.below H0.o.1))
  clear hl
  go_enter Tryz.func199,Tryz.ntmps199
  go_wp2_with fail
  refine HC.o.mono ?_
  rintro r w1 ⟨hb1,hc⟩
  obtain⟨xs,hk,rfl,hi⟩:=hc.all
  have hbw:Below w.heap.size w w1:=H0.o.1.trans (hb1.mono H0.o.1.size)
  have hf1:zn w1 (w.heap.size+1) Fx.no:=(hb1.block _ (zb H0.o.2)).trans H0.o.2
  have hst:(zcd (.pointer (some ⟨w.heap.size+1,0,none⟩)) (.agg (fcs xs).toArray)).run Tryz.prog w1= .ok () (w1.setCells (w.heap.size+1) 0 (fcs xs)):=qc (xg hf1 Fx.no_ok) hk.len (ji hk.2)
  have HW:=za (xt hf1 Fx.no_ok hk)
  have HB:=za (zu hbw (Nat.le_succ w.heap.size) (fcs xs) 0)
  have HTN:Hid (zf (fun b=>b=w.heap.size+1) [zr] w1 (w1.setCells (w.heap.size+1) 0 (fcs xs))):=za ((zf.refl (fun b=>b=w.heap.size+1) [zr] w1).setCells (.inl rfl) hf1 (by simp) _ _)
  have HI:=za hi
  have HK:=za hk
  clear hc hi hk hbw hf1 hb1 HC
  generalize ho:zbu l n (x.getD [])=o at *
  have HO:=za ho
  clear ho
  go_wp2_with fail
  exact bodyPost_ret (v:= .tuple #[.agg (fcs xs).toArray,.bool o.isSome]) (zy Tryz.results199 _ _ (w.heap.size+1) zr _ (0,0) _ rfl HW.o Tryz.underlying130 rfl (by rw [jk,List.size_toArray,HK.o.len]) _ rfl) rfl ⟨HB.o,by rw [HO.o];exact zjs.mk HK.o (fun f e=>(HI.o f e).turn HTN.o (by decide))⟩
end
section
set_option maxHeartbeats 1000000
open Go.RowKit
set_option maxRecDepth 100000
theorem qm.below {w w':World}{at_:Nat→Addr}(h:qm w at_)(hb:Below w.heap.size w w'):qm w' at_:=by
 have c:∀ {a:Addr} {v:Value},w.cell? a=some v→w'.cell? a=some v:=fun {a v} e=>by rw [hb.cell (p:=a) (zj e)];exact e
 refine⟨c h.entry,c h.range,c h.check,c h.old,c h.proof,c h.tile,c h.failed,h.apart,fun i hi=>?_⟩
 obtain⟨cs,t,e⟩:=h.block i hi
 refine⟨cs,t,?_⟩
 rw [hb.block _ ?_]
 ·exact e
 ·rcases Nat.lt_or_ge (at_ i).block w.heap.size with h' | h'
  ·exact h'
  ·simp [Array.getElem?_eq_none h'] at e
def told (n:Int):Value:= .agg #[.int .i64 n,.string ⟨#[]⟩]
theorem zjy (at_:Nat→Addr)(w:World)(hs:qm w at_):
  Calls Tryz.prog 27 #[.nilIface] w fun e w'=>e= .returned (told 0)∧Below w.heap.size w w':=by
 obtain⟨h0,h1,h2,h3,h4,h5,h6,hap,hbl⟩:=hs
 clear hap hbl h5
 have g0:∀ o,(w.alloc o).cell? ⟨1,0,none⟩=some (.iface 326 (.pointer (some (at_ 0)))):=fun o=>by rw [zk _ _ ⟨_,0,none⟩ (zj h0)];exact h0
 have g1:∀ o,(w.alloc o).cell? ⟨2,0,none⟩=some (.iface 326 (.pointer (some (at_ 1)))):=fun o=>by rw [zk _ _ ⟨_,0,none⟩ (zj h1)];exact h1
 have g2:∀ o,(w.alloc o).cell? ⟨3,0,none⟩=some (.iface 326 (.pointer (some (at_ 2)))):=fun o=>by rw [zk _ _ ⟨_,0,none⟩ (zj h2)];exact h2
 have g3:∀ o,(w.alloc o).cell? ⟨4,0,none⟩=some (.iface 326 (.pointer (some (at_ 3)))):=fun o=>by rw [zk _ _ ⟨_,0,none⟩ (zj h3)];exact h3
 have g4:∀ o,(w.alloc o).cell? ⟨5,0,none⟩=some (.iface 326 (.pointer (some (at_ 4)))):=fun o=>by rw [zk _ _ ⟨_,0,none⟩ (zj h4)];exact h4
 have g6:∀ o,(w.alloc o).cell? ⟨0,0,none⟩=some (.iface 326 (.pointer (some (at_ 6)))):=fun o=>by rw [zk _ _ ⟨_,0,none⟩ (zj h6)];exact h6
 clear h0 h1 h2 h3 h4 h6
 go_enter Tryz.func27,Tryz.ntmps27
 go_wp2_with fail
 refine bodyPost_ret (v:=told 0) (results_cell_row Tryz.results27 _ _ w.heap.size 29 _ (0,0) _ rfl (zc (zc (heap_alloc_last _ _))) Tryz.underlying29 rfl (by kernel_rfl)) rfl ⟨rfl,?_⟩
 exact((ze _ _).trans ((ze _ _).mono (by simp))).trans ((ze _ _).mono (by simp;omega))
theorem zdk (v:Value)(W:World):(Instr.typeAssert (.iface 326 v) 70 113 true).run Tryz.prog W= .ok (.tuple #[.pointer none,.bool false]) W:=by kernel_rfl
theorem z2c (at_:Nat→Addr)(w:World)(hs:qm w at_):
  Calls Tryz.prog 27 #[.iface 326 (.pointer (some (at_ 1)))] w fun e w'=>e= .returned (told 2)∧Below w.heap.size w w':=by
 obtain⟨h0,h1,h2,h3,h4,h5,h6,hap,hbl⟩:=hs
 have Hap:=za (hap 1 0 (by decide) (by decide) (by decide))
 have Hbl:=za (And.intro (hbl 0 (by decide)) (hbl 1 (by decide)))
 clear hap hbl h5
 have g0:∀ o,(w.alloc o).cell? ⟨1,0,none⟩=some (.iface 326 (.pointer (some (at_ 0)))):=fun o=>by rw [zk _ _ ⟨_,0,none⟩ (zj h0)];exact h0
 have g1:∀ o,(w.alloc o).cell? ⟨2,0,none⟩=some (.iface 326 (.pointer (some (at_ 1)))):=fun o=>by rw [zk _ _ ⟨_,0,none⟩ (zj h1)];exact h1
 have g2:∀ o,(w.alloc o).cell? ⟨3,0,none⟩=some (.iface 326 (.pointer (some (at_ 2)))):=fun o=>by rw [zk _ _ ⟨_,0,none⟩ (zj h2)];exact h2
 have g3:∀ o,(w.alloc o).cell? ⟨4,0,none⟩=some (.iface 326 (.pointer (some (at_ 3)))):=fun o=>by rw [zk _ _ ⟨_,0,none⟩ (zj h3)];exact h3
 have g4:∀ o,(w.alloc o).cell? ⟨5,0,none⟩=some (.iface 326 (.pointer (some (at_ 4)))):=fun o=>by rw [zk _ _ ⟨_,0,none⟩ (zj h4)];exact h4
 have g6:∀ o,(w.alloc o).cell? ⟨0,0,none⟩=some (.iface 326 (.pointer (some (at_ 6)))):=fun o=>by rw [zk _ _ ⟨_,0,none⟩ (zj h6)];exact h6
 clear h0 h1 h2 h3 h4 h6
 have hno:=zdk (.pointer (some (at_ 1)))
 have hdf:∀ o1 o2 o3,(binOp .eql 70 (.iface 326 (.pointer (some (at_ 1)))) (.iface 326 (.pointer (some (at_ 0))))).run Tryz.prog (((w.alloc o1).alloc o2).alloc o3)= .ok (.bool false) (((w.alloc o1).alloc o2).alloc o3):=fun o1 o2 o3=>by
  obtain⟨⟨c0,t0,e0⟩,⟨c1,t1,e1⟩⟩:=Hbl.o
  exact qq Hap.o ⟨c1,t1,zc (zc (zc e1))⟩ ⟨c0,t0,zc (zc (zc e0))⟩
 have hsm:∀ W,(binOp .eql 70 (.iface 326 (.pointer (some (at_ 1)))) (.iface 326 (.pointer (some (at_ 1))))).run Tryz.prog W= .ok (.bool true) W:=fun W=>by
  obtain⟨i,hi,hcmp⟩:=Option.map_eq_some_iff.1 zc1
  obtain⟨j,hj,hjs⟩:=Option.map_eq_some_iff.1 zc5
  exact run_eql_iface_ptr_same W (at_ 1) Tryz.underlying70 Tryz.underlying326 hi hcmp hj
 go_enter Tryz.func27,Tryz.ntmps27
 go_wp2_with fail
 refine wp_loop_rounds 3 ?_
 rw [rounds_succ]
 go_wp2_with fail
 rw [rounds_succ]
 go_wp2_with fail
 rw [rounds_succ]
 go_wp2_with fail
 refine bodyPost_ret (v:=told 2) (results_cell_row Tryz.results27 _ _ w.heap.size 29 _ (0,0) _ rfl (zc (zc (heap_alloc_last _ _))) Tryz.underlying29 rfl (by kernel_rfl)) rfl ⟨rfl,?_⟩
 exact((ze _ _).trans ((ze _ _).mono (by simp))).trans ((ze _ _).mono (by simp;omega))
end
section
set_option maxHeartbeats 4000000
open Go.RowKit
set_option maxRecDepth 100000
attribute [local go_sem ↓] yq yk yt yp yn yo yu yl
structure NOk (d:Dk)(n:Nt):Prop where
 nf:d.fs.length≤1000000000
 fl:∀ f∈d.fs,f.2.length≤1000000000
 ly:∀ l∈n.lies,l.data.length≤1000000000
 ll:n.lies.length≤1000000000
 fe:0≤n.fetches∧n.fetches < 4611686018427387904
 td:∀ t∈n.told,0≤t∧t < 4611686018427387904
def z9f (at_:Nat→Addr)(s:Nat)(p:List UInt8)(w':World)(o:Option Fl)(r:Ending):Prop :=
 (∃ xs f,o=some f∧FOk xs∧j4 w' xs f∧r= .returned (.tuple #[.agg (fcs xs).toArray,.nilIface])) ∨
 (o=none∧∃ g,s≤g∧w'.heap[g]?=some (.cells #[txv p,jo at_ 5] 115 (0,0))∧r= .returned (.tuple #[.agg (fcs Fx.no).toArray,xm g]))
theorem zf.setCellsNew {O:Nat→Prop}{T:List Nat}{a w:World}(h:zf O T a w){b:Nat}(hb:a.heap.size≤b)(vs:List Value)(o:Nat):zf O T a (w.setCells b o vs):=by
 obtain⟨r1,r2,r3⟩:=zel (w:=w) (b:=b) vs o
 exact⟨r1.trans h.os,r2.trans h.tape,r3.trans h.output,by rw [j6];exact h.size,fun k hk=>by
  rw [xy vs o (by omega)]
  exact h.block k hk⟩
theorem zo4 {O:Nat→Prop}{nb db:Nat}{n':Nt}{w W5:World}{P:Obj}(hT:zf O nT w W5)(hN:j5 W5 O nb db n')(hf:zn W5 (w.heap.size+1) Fx.no):
  zf O nT w ((W5.alloc P).drew.setCells (w.heap.size+1) 0 (fcs Fx.no))∧j5 ((W5.alloc P).drew.setCells (w.heap.size+1) 0 (fcs Fx.no)) O nb db n'∧zn ((W5.alloc P).drew.setCells (w.heap.size+1) 0 (fcs Fx.no)) (w.heap.size+1) Fx.no∧((W5.alloc P).drew.setCells (w.heap.size+1) 0 (fcs Fx.no)).heap[W5.heap.size]?=some P:=by
 have hf':zn (W5.alloc P).drew (w.heap.size+1) Fx.no:=zc (o:=P) hf
 have hl:=zb hf
 have hTN:=(zf.refl (fun b=>b=w.heap.size+1) [zr] (W5.alloc P).drew).setCells (.inl rfl) hf' (by simp) (fcs Fx.no) 0
 refine⟨(hT.alloc P).drew.setCellsNew (Nat.le_succ _) _ _,(hN.below (ze _ _).drew).turn hTN (by decide) (by decide) (by decide),xt hf' Fx.no_ok Fx.no_ok,?_⟩
 rw [xy _ _ (by omega)]
 exact heap_alloc_last W5 P
theorem zpr {O:Nat→Prop}{nb db:Nat}{n':Nt}{w W5:World}{P:Obj}(hT:zf O nT w W5)(hN:j5 W5 O nb db n')(hf:zn W5 (w.heap.size+1) Fx.no):
  zf O nT w ((W5.drew.setCells (w.heap.size+1) 0 (fcs Fx.no)).alloc P)∧j5 ((W5.drew.setCells (w.heap.size+1) 0 (fcs Fx.no)).alloc P) O nb db n'∧zn ((W5.drew.setCells (w.heap.size+1) 0 (fcs Fx.no)).alloc P) (w.heap.size+1) Fx.no∧((W5.drew.setCells (w.heap.size+1) 0 (fcs Fx.no)).alloc P).heap[(W5.drew.setCells (w.heap.size+1) 0 (fcs Fx.no)).heap.size]?=some P:=by
 have hf':zn W5.drew (w.heap.size+1) Fx.no:=hf
 have hTN:=(zf.refl (fun b=>b=w.heap.size+1) [zr] W5.drew).setCells (.inl rfl) hf' (by simp) (fcs Fx.no) 0
 refine⟨(hT.drew.setCellsNew (Nat.le_succ _) _ _).alloc P,((hN.below (Below.refl _ _).drew).turn hTN (by decide) (by decide) (by decide)).below (ze _ _),zc (xt hf' Fx.no_ok Fx.no_ok),heap_alloc_last _ _⟩
theorem zmv (W0:World)(at_:Nat→Addr)(O:Nat→Prop)(nb db cb:Nat)(n:Nt)(d:Dk)(l ix:Int)(k:Nat)(hk0:0 < k)(hk:k≤4)(hix:ix≤9223372036854775807)(w:World)(hW:Below W0.heap.size W0 w)(hE:Env W0)(hS:qm W0 at_)
  (hO:∀ b,O b→W0.heap.size≤b) (hok:NOk d n) (hD:zm w O db d) (hN:j5 w O nb db n) (hc:w.cell? ⟨cb,2,none⟩=some (znk nb)) :
  Calls Tryz.prog 188 #[zt cb,plV (l,ix,k)] w fun r w'=>zf O nT w w'∧j5 w' O nb db (yw (zq d.fs) n (l,ix,k)).2∧z9f at_ w.heap.size (yr l ix k) w' (yw (zq d.fs) n (l,ix,k)).1 r:=by
 have HPM:Hid (yw (zq d.fs) n (l,ix,(k:Int))=(if (zq d.fs n (yr l ix k)).1.2 then zbu l k (zq d.fs n (yr l ix k)).1.1 else none,(zq d.fs n (yr l ix k)).2)):=rfl
 unfold plV
 simp only
 have H0:Hid (Below w.heap.size w ((w.alloc (.cells #[.int .i64 l,.int .i64 ix,.int .i64 k] 126)).alloc (.cells qh zr))∧((w.alloc (.cells #[.int .i64 l,.int .i64 ix,.int .i64 k] 126)).alloc (.cells qh zr)).heap[w.heap.size]?=some (.cells #[.int .i64 l,.int .i64 ix,.int .i64 k] 126 (0,0))∧zn ((w.alloc (.cells #[.int .i64 l,.int .i64 ix,.int .i64 k] 126)).alloc (.cells qh zr)) (w.heap.size+1) Fx.no):=by
  refine⟨zw _ _ _,zc (heap_alloc_last _ _),?_⟩
  have:=heap_alloc_last (w.alloc (.cells #[.int .i64 l,.int .i64 ix,.int .i64 k] 126)) (.cells qh zr)
  rw [show(w.alloc (.cells #[.int .i64 l,.int .i64 ix,.int .i64 k] 126)).heap.size=w.heap.size+1 by simp] at this
  exact this
 have HW:=za hW
 have HE:=za hE
 have HS:=za hS
 have HO:=za hO
 have HOK:=za hok
 have HD:=za hD
 have HN:=za hN
 have HC:=za hc
 clear hW hE hS hO hok hD hN hc
 unfold zt
 go_enter Tryz.func188,Tryz.ntmps188
 go_wp2_with fail
 generalize (w.alloc (.cells #[.int .i64 l,.int .i64 ix,.int .i64 k] 126)).alloc (.cells qh zr)=W1 at *
 have hW1:Below W0.heap.size W0 W1:=HW.o.trans (H0.o.1.mono HW.o.size)
 refine(zis l ix k hix W1 (HE.o.below hW1)).mono ?_
 rintro r w1 ⟨rfl,hb1⟩
 have hB1:Below w.heap.size w w1:=H0.o.1.trans (hb1.mono H0.o.1.size)
 have HB1:=za hB1
 have HP1:Hid (w1.heap[w.heap.size]?=some (.cells #[.int .i64 l,.int .i64 ix,.int .i64 k] 126 (0,0))∧zn w1 (w.heap.size+1) Fx.no):=⟨(hb1.block _ (zb H0.o.2.1)).trans H0.o.2.1,(hb1.block _ (zb H0.o.2.2)).trans H0.o.2.2⟩
 have HF:=za (znf O nb db cb n d (yr l ix k) w1 HOK.o.nf HOK.o.fl HOK.o.ly HOK.o.ll HOK.o.fe HOK.o.td (HD.o.stay (O1:=fun _=>False) (T:=[]) (.of_below hB1) (by simp) (by simp)) (HN.o.below hB1) (by rw [hB1.cell (p:=⟨cb,2,none⟩) (zj HC.o)];exact HC.o))
 have HW1:=za (HW.o.trans (hB1.mono HW.o.size))
 clear hB1 hb1 hW1 H0
 unfold zt txv at HF
 generalize hPN:yr l ix k=pn at *
 have HPN:=za hPN
 clear hPN
 generalize hNF:zq d.fs n pn=N at *
 clear hNF
 obtain⟨⟨dat,ok⟩,n'⟩:=N
 simp only at *
 go_wp2_with fail
 refine HF.o.mono ?_
 rintro r w2 ⟨v,x,rfl,ht2,hN2,hg2,hx2⟩
 have hp2:w2.heap[w.heap.size]?=some (.cells #[.int .i64 l,.int .i64 ix,.int .i64 k] 126 (0,0)):=ht2.keep HP1.o.1 (by decide)
 have hf2:zn w2 (w.heap.size+1) Fx.no:=ht2.keep HP1.o.2 (by decide)
 have p0:w2.cell? ⟨w.heap.size,0,none⟩=some (.int .i64 l):=(zg hp2 0 _ rfl).1
 have p1:w2.cell? ⟨w.heap.size,1,none⟩=some (.int .i64 ix):=(zg hp2 1 _ rfl).1
 have p2:w2.cell? ⟨w.heap.size,2,none⟩=some (.int .i64 k):=(zg hp2 2 _ rfl).1
 have HRD:=za (zxn l ix k hk0 hk v x w2 hg2)
 have HT2:Hid (zf O nT w w2):=za ((zf.of_below HB1.o).trans (ht2.mono (fun _ h=> .inl h) (fun _ h=>h)))
 have HW2:Hid (Below W0.heap.size W0 w2):=za (HW1.o.trans (ht2.below HO.o HW1.o.size))
 have HN2:=za hN2
 have HF2:=za hf2
 rw [hx2] at HRD
 unfold plV at HRD
 simp only at HRD
 clear ht2 hN2 hg2 hx2 hp2 hf2 HF
 go_wp2_with fail
 refine HRD.o.mono ?_
 rintro r w3 ⟨hb3,hc3⟩
 obtain⟨xs,hxk,rfl,hxi⟩:=hc3.all
 generalize hO3:zbu l k dat=o at *
 have hT3:zf O nT w w3:=HT2.o.then_below hb3
 have hw3:w.heap.size+1 < w3.heap.size:=Nat.lt_of_lt_of_le (zb HF2.o) hb3.size
 have hf3:zn w3 (w.heap.size+1) Fx.no:=(hb3.block _ (zb HF2.o)).trans HF2.o
 have hf4:zn (w3.alloc (.cells qh zr)) w3.heap.size Fx.no:=heap_alloc_last _ _
 have hst1:(zcd (.pointer (some ⟨w3.heap.size,0,none⟩)) (.agg (fcs xs).toArray)).run Tryz.prog (w3.alloc (.cells qh zr))= .ok () ((w3.alloc (.cells qh zr)).setCells w3.heap.size 0 (fcs xs)):=qc (xg hf4 Fx.no_ok) hxk.len (ji hxk.2)
 have HF5:=za (xt hf4 Fx.no_ok hxk)
 have HB5:Hid (Below w3.heap.size w3 ((w3.alloc (.cells qh zr)).setCells w3.heap.size 0 (fcs xs))):=zu (ze _ _) (Nat.le_refl _) _ _
 have HT3:=za hT3
 have HFx:Hid (zn w3 (w.heap.size+1) Fx.no):=hf3
 have HXK:=za hxk
 have HXI:=za hxi
 have HW3:Hid (Below W0.heap.size W0 w3):=HW2.o.trans (hb3.mono HW2.o.size)
 have HN3:=za (HN2.o.below hb3)
 clear hc3 hxi hxk hT3 hf3 hf4 hb3 hO3 HRD HT2 HW2 HN2 HF2
 have HG:Hid (∀ W5,Below w3.heap.size w3 W5→zf O nT w W5∧j5 W5 O nb db n'∧zn W5 (w.heap.size+1) Fx.no∧W5.cell? ⟨6,0,none⟩=some (jo at_ 5)∧∀ f,o=some f→j4 W5 xs f):=by
  intro W5 hb
  refine⟨HT3.o.then_below hb,HN3.o.below hb,(hb.block _ hw3).trans HFx.o,?_,fun f e=>(HXI.o f e).below hb⟩
  have hb0:=HW3.o.trans (hb.mono HW3.o.size)
  exact(HS.o.below hb0).tile
 have H5:=za (HG.o _ HB5.o)
 have hgt:((w3.alloc (.cells qh zr)).setCells w3.heap.size 0 (fcs xs)).cell? ⟨6,0,none⟩=some (.iface 326 (.pointer (some (at_ 5)))):=H5.o.2.2.2.1
 have hsz5:w3.heap.size < ((w3.alloc (.cells qh zr)).setCells w3.heap.size 0 (fcs xs)).heap.size:=zb HF5.o
 have HSZ:Hid (w.heap.size≤((w3.alloc (.cells qh zr)).setCells w3.heap.size 0 (fcs xs)).heap.size):=by show _≤_;omega
 clear HG HB5 hsz5
 by_cases hgo:ok=true∧o.isSome=true
 ·obtain⟨rfl,ho⟩:=hgo
  obtain⟨f,rfl⟩:=Option.isSome_iff_exists.1 ho
  have hld:=vy (yv HF5.o) HXK.o.len
  have hst2:=qc (xg H5.o.2.2.1 Fx.no_ok) HXK.o.len (ji HXK.o.2)
  have HW6:=za (xt H5.o.2.2.1 Fx.no_ok HXK.o)
  have HT6:=za (H5.o.1.setCellsNew (Nat.le_succ w.heap.size) (fcs xs) 0)
  have HTN:=za ((zf.refl (fun b=>b=w.heap.size+1) [zr] _).setCells (.inl rfl) H5.o.2.2.1 (by simp) (fcs xs) 0)
  clear ho
  go_wp2_with fail
  refine bodyPost_ret (v:= .tuple #[.agg (fcs xs).toArray,.nilIface]) (zy Tryz.results188 _ _ (w.heap.size+1) zr _ (0,0) _ rfl HW6.o Tryz.underlying130 rfl (by rw [jk,List.size_toArray,HXK.o.len]) _ rfl) rfl ⟨HT6.o,?_,?_⟩
  ·rw [HPM.o];exact H5.o.2.1.turn HTN.o (by decide) (by decide) (by decide)
  ·rw [HPM.o,HPN.o]
   exact .inl ⟨xs,f,rfl,HXK.o,(H5.o.2.2.2.2 f rfl).turn HTN.o (by decide),rfl⟩
 ·have hno:(if ok then o else none)=none:=by
   cases ok with
   | false=>rfl
   | true=>cases o with
    | none=>rfl
    | some f=>exact absurd ⟨rfl,rfl⟩ hgo
  have hbf:=fun w0=>zjz w0
  rw [zpz] at hbf
  have HNO:=za hno
  rw [HNO.o] at HPM
  cases ok with
  | false =>
   go_wp2_with fail
   generalize (w3.alloc (.cells qh zr)).setCells w3.heap.size 0 (fcs xs)=W5 at *
   have hf5:zn W5 (w.heap.size+1) Fx.no:=H5.o.2.2.1
   have hs1:(zcd (.pointer (some ⟨w.heap.size+1,0,none⟩)) (.agg (fcs Fx.no).toArray)).run Tryz.prog W5.drew= .ok () (W5.drew.setCells (w.heap.size+1) 0 (fcs Fx.no)):=qc (w:=W5.drew) (xg hf5 Fx.no_ok) Fx.no_ok.len (ji Fx.no_ok.2)
   have hs2:∀ o,(zcd (.pointer (some ⟨w.heap.size+1,0,none⟩)) (.agg (fcs Fx.no).toArray)).run Tryz.prog (W5.alloc o).drew= .ok () ((W5.alloc o).drew.setCells (w.heap.size+1) 0 (fcs Fx.no)):=fun o=>qc (w:=(W5.alloc o).drew) (xg (w:=(W5.alloc o).drew) (xs:=Fx.no) (zc hf5) Fx.no_ok) Fx.no_ok.len (ji Fx.no_ok.2)
   have hgt2:(W5.drew.setCells (w.heap.size+1) 0 (fcs Fx.no)).cell? ⟨6,0,none⟩=some (.iface 326 (.pointer (some (at_ 5)))):=by
    have h1:(6:Nat) < W0.heap.size:=zj HS.o.tile
    have h2:=HW.o.size
    have h3:(6:Nat)≠w.heap.size+1:=by omega
    rw [World.cell?_of_block (w:=W5) (xy (w:=W5.drew) (fcs Fx.no) 0 h3)]
    exact hgt
   have HF6:=za hf5
   clear hf5
   go_region
   ·have HEN:=za (zo4 (P:=(.cells #[.string ⟨pn.toArray⟩,.iface 326 (.pointer (some (at_ 5)))] 115)) H5.o.1 H5.o.2.1 HF6.o)
    clear hs1 hs2 hgt2 hbf
    go_wp2_with fail
    refine bodyPost_ret (v:= .tuple #[.agg (fcs Fx.no).toArray,xm (W5.heap.size)]) (zy Tryz.results188 _ _ (w.heap.size+1) zr _ (0,0) _ rfl HEN.o.2.2.1 Tryz.underlying130 rfl (by rw [jk,List.size_toArray,Fx.no_ok.len]) _ rfl) rfl ⟨HEN.o.1,by rw [HPM.o];exact HEN.o.2.1,?_⟩
    rw [HPM.o,HPN.o]
    exact .inr ⟨rfl,_,HSZ.o,HEN.o.2.2.2,rfl⟩
   ·have HEN:=za (zpr (P:=(.cells #[.string ⟨pn.toArray⟩,.iface 326 (.pointer (some (at_ 5)))] 115)) H5.o.1 H5.o.2.1 HF6.o)
    clear hs1 hs2 hgt2 hbf
    go_wp2_with fail
    refine bodyPost_ret (v:= .tuple #[.agg (fcs Fx.no).toArray,xm ((W5.drew.setCells (w.heap.size+1) 0 (fcs Fx.no)).heap.size)]) (zy Tryz.results188 _ _ (w.heap.size+1) zr _ (0,0) _ rfl HEN.o.2.2.1 Tryz.underlying130 rfl (by rw [jk,List.size_toArray,Fx.no_ok.len]) _ rfl) rfl ⟨HEN.o.1,by rw [HPM.o];exact HEN.o.2.1,?_⟩
    rw [HPM.o,HPN.o]
    exact .inr ⟨rfl,_,by rw [j6];exact HSZ.o,HEN.o.2.2.2,rfl⟩
  | true =>
   cases o with
   | some f=>exact absurd ⟨rfl,rfl⟩ hgo
   | none =>
    go_wp2_with fail
    generalize (w3.alloc (.cells qh zr)).setCells w3.heap.size 0 (fcs xs)=W5 at *
    have hf5:zn W5 (w.heap.size+1) Fx.no:=H5.o.2.2.1
    have hs1:(zcd (.pointer (some ⟨w.heap.size+1,0,none⟩)) (.agg (fcs Fx.no).toArray)).run Tryz.prog W5.drew= .ok () (W5.drew.setCells (w.heap.size+1) 0 (fcs Fx.no)):=qc (w:=W5.drew) (xg hf5 Fx.no_ok) Fx.no_ok.len (ji Fx.no_ok.2)
    have hs2:∀ o,(zcd (.pointer (some ⟨w.heap.size+1,0,none⟩)) (.agg (fcs Fx.no).toArray)).run Tryz.prog (W5.alloc o).drew= .ok () ((W5.alloc o).drew.setCells (w.heap.size+1) 0 (fcs Fx.no)):=fun o=>qc (w:=(W5.alloc o).drew) (xg (w:=(W5.alloc o).drew) (xs:=Fx.no) (zc hf5) Fx.no_ok) Fx.no_ok.len (ji Fx.no_ok.2)
    have hgt2:(W5.drew.setCells (w.heap.size+1) 0 (fcs Fx.no)).cell? ⟨6,0,none⟩=some (.iface 326 (.pointer (some (at_ 5)))):=by
     have h1:(6:Nat) < W0.heap.size:=zj HS.o.tile
     have h2:=HW.o.size
     have h3:(6:Nat)≠w.heap.size+1:=by omega
     rw [World.cell?_of_block (w:=W5) (xy (w:=W5.drew) (fcs Fx.no) 0 h3)]
     exact hgt
    have HF6:=za hf5
    clear hf5
    go_region
    ·have HEN:=za (zo4 (P:=(.cells #[.string ⟨pn.toArray⟩,.iface 326 (.pointer (some (at_ 5)))] 115)) H5.o.1 H5.o.2.1 HF6.o)
     clear hs1 hs2 hgt2 hbf
     go_wp2_with fail
     refine bodyPost_ret (v:= .tuple #[.agg (fcs Fx.no).toArray,xm (W5.heap.size)]) (zy Tryz.results188 _ _ (w.heap.size+1) zr _ (0,0) _ rfl HEN.o.2.2.1 Tryz.underlying130 rfl (by rw [jk,List.size_toArray,Fx.no_ok.len]) _ rfl) rfl ⟨HEN.o.1,by rw [HPM.o];exact HEN.o.2.1,?_⟩
     rw [HPM.o,HPN.o]
     exact .inr ⟨rfl,_,HSZ.o,HEN.o.2.2.2,rfl⟩
    ·have HEN:=za (zpr (P:=(.cells #[.string ⟨pn.toArray⟩,.iface 326 (.pointer (some (at_ 5)))] 115)) H5.o.1 H5.o.2.1 HF6.o)
     clear hs1 hs2 hgt2 hbf
     go_wp2_with fail
     refine bodyPost_ret (v:= .tuple #[.agg (fcs Fx.no).toArray,xm ((W5.drew.setCells (w.heap.size+1) 0 (fcs Fx.no)).heap.size)]) (zy Tryz.results188 _ _ (w.heap.size+1) zr _ (0,0) _ rfl HEN.o.2.2.1 Tryz.underlying130 rfl (by rw [jk,List.size_toArray,Fx.no_ok.len]) _ rfl) rfl ⟨HEN.o.1,by rw [HPM.o];exact HEN.o.2.1,?_⟩
     rw [HPM.o,HPN.o]
     exact .inr ⟨rfl,_,by rw [j6];exact HSZ.o,HEN.o.2.2.2,rfl⟩
end
end Go.Proofs.YtinhekmmdlhfkaaGreatDoor
