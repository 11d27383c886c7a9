import Derived.Test.YtinhekmmdlhfkaaGreatDoorG17
import Derived.Deep.RegionHeld3
import Derived.Test.YtinhekmmdlhfkaaGreatDoorG16
namespace Go.Proofs.YtinhekmmdlhfkaaGreatDoor
section
set_option maxHeartbeats 2000000
open Go.RowKit
set_option maxRecDepth 100000
theorem ztt {w:World}{b:Nat}{t:TypeId}{a0 a1 a2 a3 a4 a5 a6 a7 a8:Value}(v0 v1 v2 v3 v4 v5 v6 v7 v8:Value)(h:w.heap[b]?=some (.cells #[a0,a1,a2,a3,a4,a5,a6,a7,a8] t (0,0))):(((((((((w.setCell ⟨b,0,none⟩ v0).setCell ⟨b,1,none⟩ v1).setCell ⟨b,2,none⟩ v2).setCell ⟨b,3,none⟩ v3).setCell ⟨b,4,none⟩ v4).setCell ⟨b,5,none⟩ v5).setCell ⟨b,6,none⟩ v6).setCell ⟨b,7,none⟩ v7).setCell ⟨b,8,none⟩ v8).heap[b]?=some (.cells #[v0,v1,v2,v3,v4,v5,v6,v7,v8] t (0,0)):=by
 have e0:(w.setCell ⟨b,0,none⟩ v0).heap[b]?=some (.cells #[v0,a1,a2,a3,a4,a5,a6,a7,a8] t (0,0)):=qj h 0 v0
 have e1:((w.setCell ⟨b,0,none⟩ v0).setCell ⟨b,1,none⟩ v1).heap[b]?=some (.cells #[v0,v1,a2,a3,a4,a5,a6,a7,a8] t (0,0)):=qj e0 1 v1
 have e2:(((w.setCell ⟨b,0,none⟩ v0).setCell ⟨b,1,none⟩ v1).setCell ⟨b,2,none⟩ v2).heap[b]?=some (.cells #[v0,v1,v2,a3,a4,a5,a6,a7,a8] t (0,0)):=qj e1 2 v2
 have e3:((((w.setCell ⟨b,0,none⟩ v0).setCell ⟨b,1,none⟩ v1).setCell ⟨b,2,none⟩ v2).setCell ⟨b,3,none⟩ v3).heap[b]?=some (.cells #[v0,v1,v2,v3,a4,a5,a6,a7,a8] t (0,0)):=qj e2 3 v3
 have e4:(((((w.setCell ⟨b,0,none⟩ v0).setCell ⟨b,1,none⟩ v1).setCell ⟨b,2,none⟩ v2).setCell ⟨b,3,none⟩ v3).setCell ⟨b,4,none⟩ v4).heap[b]?=some (.cells #[v0,v1,v2,v3,v4,a5,a6,a7,a8] t (0,0)):=qj e3 4 v4
 have e5:((((((w.setCell ⟨b,0,none⟩ v0).setCell ⟨b,1,none⟩ v1).setCell ⟨b,2,none⟩ v2).setCell ⟨b,3,none⟩ v3).setCell ⟨b,4,none⟩ v4).setCell ⟨b,5,none⟩ v5).heap[b]?=some (.cells #[v0,v1,v2,v3,v4,v5,a6,a7,a8] t (0,0)):=qj e4 5 v5
 have e6:(((((((w.setCell ⟨b,0,none⟩ v0).setCell ⟨b,1,none⟩ v1).setCell ⟨b,2,none⟩ v2).setCell ⟨b,3,none⟩ v3).setCell ⟨b,4,none⟩ v4).setCell ⟨b,5,none⟩ v5).setCell ⟨b,6,none⟩ v6).heap[b]?=some (.cells #[v0,v1,v2,v3,v4,v5,v6,a7,a8] t (0,0)):=qj e5 6 v6
 have e7:((((((((w.setCell ⟨b,0,none⟩ v0).setCell ⟨b,1,none⟩ v1).setCell ⟨b,2,none⟩ v2).setCell ⟨b,3,none⟩ v3).setCell ⟨b,4,none⟩ v4).setCell ⟨b,5,none⟩ v5).setCell ⟨b,6,none⟩ v6).setCell ⟨b,7,none⟩ v7).heap[b]?=some (.cells #[v0,v1,v2,v3,v4,v5,v6,v7,a8] t (0,0)):=qj e6 7 v7
 have e8:(((((((((w.setCell ⟨b,0,none⟩ v0).setCell ⟨b,1,none⟩ v1).setCell ⟨b,2,none⟩ v2).setCell ⟨b,3,none⟩ v3).setCell ⟨b,4,none⟩ v4).setCell ⟨b,5,none⟩ v5).setCell ⟨b,6,none⟩ v6).setCell ⟨b,7,none⟩ v7).setCell ⟨b,8,none⟩ v8).heap[b]?=some (.cells #[v0,v1,v2,v3,v4,v5,v6,v7,v8] t (0,0)):=qj e7 8 v8
 exact e8
theorem zmj {B b:Nat}{a w:World}(h:Below B a w)(hb:B≤b)(v0 v1 v2 v3 v4 v5 v6 v7 v8:Value):Below B a (((((((((w.setCell ⟨b,0,none⟩ v0).setCell ⟨b,1,none⟩ v1).setCell ⟨b,2,none⟩ v2).setCell ⟨b,3,none⟩ v3).setCell ⟨b,4,none⟩ v4).setCell ⟨b,5,none⟩ v5).setCell ⟨b,6,none⟩ v6).setCell ⟨b,7,none⟩ v7).setCell ⟨b,8,none⟩ v8) :=
 h|>.setCell (p:=⟨b,0,none⟩) hb v0|>.setCell (p:=⟨b,1,none⟩) hb v1|>.setCell (p:=⟨b,2,none⟩) hb v2|>.setCell (p:=⟨b,3,none⟩) hb v3|>.setCell (p:=⟨b,4,none⟩) hb v4|>.setCell (p:=⟨b,5,none⟩) hb v5|>.setCell (p:=⟨b,6,none⟩) hb v6|>.setCell (p:=⟨b,7,none⟩) hb v7|>.setCell (p:=⟨b,8,none⟩) hb v8
theorem zur {w:World}{b k:Nat}(v0 v1 v2 v3 v4 v5 v6 v7 v8:Value)(h:k≠b):(((((((((w.setCell ⟨b,0,none⟩ v0).setCell ⟨b,1,none⟩ v1).setCell ⟨b,2,none⟩ v2).setCell ⟨b,3,none⟩ v3).setCell ⟨b,4,none⟩ v4).setCell ⟨b,5,none⟩ v5).setCell ⟨b,6,none⟩ v6).setCell ⟨b,7,none⟩ v7).setCell ⟨b,8,none⟩ v8).heap[k]?=w.heap[k]?:=by
 repeat rw [heap_setCell_other _ _ _ _ h]
theorem zx0 (O OL:Nat→Prop)(db lb:Nat)(d:Dk)(l:Lg)(w:World)(E:Env w)(hn:d.fs.length≤1000000000)(he:l.es.length≤1000000)(h20:∀ e∈l.es,e.length≤20)(hk:l.key.length≤9223372036854775807)(hlv:l.live=true)(h:zm w O db d)(hL:xk w OL db lb l):
  Calls Tryz.prog 83 #[.pointer (some ⟨lb,0,none⟩)] w fun r w'=>∃ e,r= .returned e∧zbd (bad d) cpF w.heap.size e w'∧zf O dT w w'∧zm w' (Ext O w w') db (zbv d cpF (xn l.es.length (yb l.es) l.key)):=by
 have hmf:∀(fn:Fn) (first cap:Array Value) (w:World),(Instr.makeFunc fn first cap).run Tryz.prog w= .ok (.func fn first cap) w:=fun _ _ _ _=>rfl
 have eg:∀ args w,(callFunc 125 args).run Tryz.prog w= .ok (.enter 125 args) w:=enters_of Tryz.func125 (by kernel_rfl) rfl
 obtain⟨ev,hO,hb,hes,hg⟩:=hL
 obtain⟨⟨c0,f0⟩,⟨c1,f1⟩,⟨c2,f2⟩,-⟩:=zej hb
 rw [hlv] at c0
 have HC0:=za c0
 have hlt:=zb hb
 have HD:=za h
 have HE:=za E
 have HS:=za hes
 obtain⟨a,cap,hev⟩:∃ a cap,ev= .slice a l.es.length cap:=by
  obtain⟨a,cap,e,-⟩:=hes.bss'
  exact⟨a,cap,e⟩
 subst hev
 clear h hb hes hg E
 go_enter Tryz.func83,Tryz.ntmps83
 go_wp2_with fail
 obtain⟨b0,b1,b2,b3,b4,b5,b6,b7,hR⟩:=hv8 (qb l.es.length l.es) (jn _ _)
 have hR':hv (qb l.es.length l.es)=#[.int .u8 b0.toNat,.int .u8 b1.toNat,.int .u8 b2.toNat,.int .u8 b3.toNat,.int .u8 b4.toNat,.int .u8 b5.toNat,.int .u8 b6.toNat,.int .u8 b7.toNat]:=by rw [hR];rfl
 have HR:=za hR
 have HR':=za hR'
 have H20:=za h20
 have HBS:Hid (∀ w',Below w.heap.size w w'→Bss w' (.slice a l.es.length cap) l.es):=fun w' hb=>HS.o.bss'.below hb
 have HB0:Hid (Below w.heap.size w (w.alloc (.cells #[.pointer (some ⟨lb,0,none⟩)] 68)).drew):=(ze _ _).drew
 have HB1:Hid (∀ o,Below w.heap.size w ((w.alloc (.cells #[.pointer (some ⟨lb,0,none⟩)] 68)).alloc o).drew):=fun o=>((ze w _).alloc (by simp) o).drew
 have HC2:Hid (∀ W w',Below w.heap.size w W→Below W.heap.size W w'→w'.cell? ⟨lb,2,none⟩=some (.slice a l.es.length cap)):=fun W w' h1 h2=>by rw [h2.cell (p:=⟨lb,2,none⟩) (Nat.lt_of_lt_of_le hlt h1.size),h1.cell (p:=⟨lb,2,none⟩) hlt];exact c2
 have HX0:Hid (∀ w',Below (w.alloc (.cells #[.pointer (some ⟨lb,0,none⟩)] 68)).drew.heap.size (w.alloc (.cells #[.pointer (some ⟨lb,0,none⟩)] 68)).drew w'→w'.heap[w.heap.size]?=some (.cells #[.pointer (some ⟨lb,0,none⟩)] 68 (0,0))):=fun w' h=>by rw [h.block _ (by show w.heap.size < (w.heap.push _).size;simp)];exact heap_alloc_last w _
 have HX1:Hid (∀ o w',Below ((w.alloc (.cells #[.pointer (some ⟨lb,0,none⟩)] 68)).alloc o).drew.heap.size ((w.alloc (.cells #[.pointer (some ⟨lb,0,none⟩)] 68)).alloc o).drew w'→w'.heap[w.heap.size]?=some (.cells #[.pointer (some ⟨lb,0,none⟩)] 68 (0,0))):=fun o w' h=>by rw [h.block _ (by show w.heap.size < ((w.heap.push _).push _).size;simp;omega)];exact zc (heap_alloc_last w _)
 clear hR hR' h20
 go_cut [3] from 5 to 15 (fun s3 wx=>∃ B,s3= .pointer (some ⟨B,0,none⟩)∧wx.heap[B]?=some (.cells (tv l.es.length b0 b1 b2 b3 b4 b5 b6 b7) 93 (0,0))∧Below w.heap.size w wx∧wx.heap[w.heap.size]?=some (.cells #[.pointer (some ⟨lb,0,none⟩)] 68 (0,0)))
 case first =>
  clear hmf eg c0 f0 c1 f1 f2 hn hk hlv hO HD HE
  have hne1:¬ lb=w.heap.size+1:=by omega
  have hne2:¬ w.heap.size+1=lb:=by omega
  go_region_held3 (fun W=>W.cell? ⟨w.heap.size,0,none⟩=some (.pointer (some ⟨lb,0,none⟩))∧W.cell? ⟨lb,2,none⟩=some (.slice a l.es.length cap)) (go_keep) (first
   | (go_at_call 51;refine(zf1 l.es.length _ l.es (w.alloc (.cells #[.pointer (some ⟨lb,0,none⟩)] 68)).drew (Nat.le_refl _) he (by intro e he';have:=H20.o e he';unfold maxLen;omega) (by exact HBS.o _ HB0.o)).mono ?_;rintro r w1 ⟨rfl,hb1⟩;rw [HR'.o];have HBB:=za hb1;have m2:=HC2.o _ _ HB0.o hb1;have hx0:=HX0.o _ hb1;have m0:=(zg hx0 0 _ rfl).1;have m2':∀ o,(w1.alloc o).cell? ⟨lb,2,none⟩=some (.slice a l.es.length cap):=(fun o=>by rw [zk _ _ ⟨_,2,none⟩ (zj m2)];exact m2);have m0':∀ o,(w1.alloc o).cell? ⟨w.heap.size,0,none⟩=some (.pointer (some ⟨lb,0,none⟩)):=(fun o=>by rw [zk _ _ ⟨_,0,none⟩ (zj m0)];exact m0);have HXX:=za hx0;clear hb1 hx0)
   | (go_at_call 51;refine(zf1 l.es.length _ l.es ((w.alloc (.cells #[.pointer (some ⟨lb,0,none⟩)] 68)).alloc (.cells #[.int .i64 0,.int .u8 0,.int .u8 0,.int .u8 0,.int .u8 0,.int .u8 0,.int .u8 0,.int .u8 0,.int .u8 0] 93)).drew (Nat.le_refl _) he (by intro e he';have:=H20.o e he';unfold maxLen;omega) (by exact HBS.o _ (HB1.o _))).mono ?_;rintro r w1 ⟨rfl,hb1⟩;rw [HR'.o];have HBB:=za hb1;have hnew:=z72 w _ _ hb1;obtain⟨n0,n1,n2,n3,n4,n5,n6,n7,n8⟩:=zgo hnew;have nz:=zpv hnew;have HNW:=za hnew;have m2:=HC2.o _ _ (HB1.o _) hb1;have hx0:=HX1.o _ _ hb1;have m0:=(zg hx0 0 _ rfl).1;have m2':∀ o,(w1.alloc o).cell? ⟨lb,2,none⟩=some (.slice a l.es.length cap):=(fun o=>by rw [zk _ _ ⟨_,2,none⟩ (zj m2)];exact m2);have m0':∀ o,(w1.alloc o).cell? ⟨w.heap.size,0,none⟩=some (.pointer (some ⟨lb,0,none⟩)):=(fun o=>by rw [zk _ _ ⟨_,0,none⟩ (zj m0)];exact m0);have HXX:=za hx0;clear hb1 hnew hx0))
  ·go_wp2_with fail
   go_meet
   refine⟨w1.heap.size,rfl,heap_alloc_last _ _,?_,zc HXX.o⟩
   exact((HB0.o.trans (HBB.o.mono HB0.o.size)).alloc (Nat.le_trans HB0.o.size HBB.o.size) _)
  ·go_wp2_with fail
   go_meet
   have hbw:Below w.heap.size w w1:=(HB1.o _).trans (HBB.o.mono (HB1.o _).size)
   have hne:w.heap.size≠w.heap.size+1:=by omega
   have e8:=ztt (.int .i64 (l.es.length:Int)) (.int .u8 (b0.toNat:Int)) (.int .u8 (b1.toNat:Int)) (.int .u8 (b2.toNat:Int)) (.int .u8 (b3.toNat:Int)) (.int .u8 (b4.toNat:Int)) (.int .u8 (b5.toNat:Int)) (.int .u8 (b6.toNat:Int)) (.int .u8 (b7.toNat:Int)) HNW.o
   have e9:=zmj hbw (show w.heap.size≤w.heap.size+1 by omega) (.int .i64 (l.es.length:Int)) (.int .u8 (b0.toNat:Int)) (.int .u8 (b1.toNat:Int)) (.int .u8 (b2.toNat:Int)) (.int .u8 (b3.toNat:Int)) (.int .u8 (b4.toNat:Int)) (.int .u8 (b5.toNat:Int)) (.int .u8 (b6.toNat:Int)) (.int .u8 (b7.toNat:Int))
   have e10:=zur (w:=w1) (b:=w.heap.size+1) (.int .i64 (l.es.length:Int)) (.int .u8 (b0.toNat:Int)) (.int .u8 (b1.toNat:Int)) (.int .u8 (b2.toNat:Int)) (.int .u8 (b3.toNat:Int)) (.int .u8 (b4.toNat:Int)) (.int .u8 (b5.toNat:Int)) (.int .u8 (b6.toNat:Int)) (.int .u8 (b7.toNat:Int)) hne
   rw [HXX.o] at e10
   exact⟨w.heap.size+1,rfl,e8,e9,e10⟩
 case rest =>
  obtain⟨B,rfl,hB,hbw,hbx⟩:=hcut
  have HBw:=za hbw
  have HBx:=za hbx
  have HBB:=za hB
  have m0:=(zg hbx 0 _ rfl).1
  have m1:wc.cell? ⟨lb,1,none⟩=some (.string ⟨l.key.toArray⟩):=by rw [hbw.cell (p:=⟨lb,1,none⟩) hlt];exact c1
  obtain⟨n0,n1,n2,n3,n4,n5,n6,n7,n8⟩:=zgo hB
  have HEw:=za (HE.o.below hbw)
  have hbl:=zb hB
  clear hbw hbx hB c0 c1 c2 f0 f1 f2
  have hB0:Hid (∀ o,Below wc.heap.size wc (wc.alloc o).drew):=fun o=>(ze _ _).drew
  have hx0:¬ w.heap.size=wc.heap.size:=by have:=zj m0;simp only at this;omega
  have hx1:¬ lb=wc.heap.size:=by have:=zj m1;simp only at this;omega
  have hx2:¬ B=wc.heap.size:=by omega
  have hx3:¬ wc.heap.size=w.heap.size:=by omega
  have hx4:¬ wc.heap.size=lb:=by omega
  have hx5:¬ wc.heap.size=B:=by omega
  have HSB:Hid (∀ W',Below wc.heap.size wc W'→((fun W=>W.cell? ⟨w.heap.size,0,none⟩=some (.pointer (some ⟨lb,0,none⟩))∧W.cell? ⟨lb,1,none⟩=some (.string ⟨l.key.toArray⟩)∧W.cell? ⟨B,0,none⟩=some (.int .i64 (l.es.length:Int))∧W.cell? ⟨B,1,none⟩=some (.int .u8 (b0.toNat:Int))∧W.cell? ⟨B,2,none⟩=some (.int .u8 (b1.toNat:Int))∧W.cell? ⟨B,3,none⟩=some (.int .u8 (b2.toNat:Int))∧W.cell? ⟨B,4,none⟩=some (.int .u8 (b3.toNat:Int))∧W.cell? ⟨B,5,none⟩=some (.int .u8 (b4.toNat:Int))∧W.cell? ⟨B,6,none⟩=some (.int .u8 (b5.toNat:Int))∧W.cell? ⟨B,7,none⟩=some (.int .u8 (b6.toNat:Int))∧W.cell? ⟨B,8,none⟩=some (.int .u8 (b7.toNat:Int)))) W'):=fun W' hb=>by
   have cc:∀ {p:Addr} {v:Value},wc.cell? p=some v→W'.cell? p=some v:=fun {p v} h=>by rw [hb.cell (zj h)];exact h
   exact⟨cc m0,cc m1,cc n0,cc n1,cc n2,cc n3,cc n4,cc n5,cc n6,cc n7,cc n8⟩
  have hD0:Hid (Below wc.heap.size wc wc.drew):=(Below.refl _ _).drew
  have HSG:Hid (xn (l.es.length:Int).toNat [b0,b1,b2,b3,b4,b5,b6,b7] l.key=xn l.es.length (yb l.es) l.key):=by show _=_;unfold yb;rw [HR.o,Int.toNat_natCast]
  go_wp2_with fail
  go_cut [4] from 16 to 21 (fun s4 wx=>∃ B4,s4= .pointer (some ⟨B4,0,none⟩)∧wx.heap[B4]?=some (.cells #[txv (xn l.es.length (yb l.es) l.key)] 9 (0,0))∧Below w.heap.size w wx∧wx.heap[w.heap.size]?=some (.cells #[.pointer (some ⟨lb,0,none⟩)] 68 (0,0)))
  case first =>
   clear hmf eg hn hlv HD
   go_region_held3 (fun W=>W.cell? ⟨w.heap.size,0,none⟩=some (.pointer (some ⟨lb,0,none⟩))∧W.cell? ⟨lb,1,none⟩=some (.string ⟨l.key.toArray⟩)∧W.cell? ⟨B,0,none⟩=some (.int .i64 (l.es.length:Int))∧W.cell? ⟨B,1,none⟩=some (.int .u8 (b0.toNat:Int))∧W.cell? ⟨B,2,none⟩=some (.int .u8 (b1.toNat:Int))∧W.cell? ⟨B,3,none⟩=some (.int .u8 (b2.toNat:Int))∧W.cell? ⟨B,4,none⟩=some (.int .u8 (b3.toNat:Int))∧W.cell? ⟨B,5,none⟩=some (.int .u8 (b4.toNat:Int))∧W.cell? ⟨B,6,none⟩=some (.int .u8 (b5.toNat:Int))∧W.cell? ⟨B,7,none⟩=some (.int .u8 (b6.toNat:Int))∧W.cell? ⟨B,8,none⟩=some (.int .u8 (b7.toNat:Int))) (go_keep) (first
    | (go_at_call 96;refine(zna (l.es.length:Int) (by omega) (by omega) b0 b1 b2 b3 b4 b5 b6 b7 l.key hk wc.drew (by exact HEw.o.below hD0.out)).mono ?_;rintro r w2 ⟨rfl,hb2⟩;have hbb:Below wc.heap.size wc w2:=(hD0.out).trans (hb2.mono (hD0.out).size);obtain⟨q0,q1,q2,q3,q4,q5,q6,q7,q8,q9,q10⟩:=HSB.o w2 hbb;have HB2:=za hbb;clear hb2 hbb)
    | (go_at_call 96;refine(zna (l.es.length:Int) (by omega) (by omega) b0 b1 b2 b3 b4 b5 b6 b7 l.key hk (wc.alloc (.cells #[.string ⟨#[]⟩] 9)).drew (by exact HEw.o.below (hB0.out _))).mono ?_;rintro r w2 ⟨rfl,hb2⟩;have hbb:Below wc.heap.size wc w2:=((hB0.out _)).trans (hb2.mono ((hB0.out _)).size);obtain⟨q0,q1,q2,q3,q4,q5,q6,q7,q8,q9,q10⟩:=HSB.o w2 hbb;have HB2:=za hbb;have hnw:w2.heap[wc.heap.size]?=some (.cells #[.string ⟨#[]⟩] 9 (0,0)):=(by rw [hb2.block _ (by show wc.heap.size < (wc.heap.push _).size;simp)];exact heap_alloc_last wc _);obtain⟨x0,x1⟩:=zg hnw 0 _ rfl;have HNW:=za hnw;clear hnw;clear hb2 hbb))
   ·go_wp2_with fail
    go_meet
    have hsg:=HSG.o
    rw [Int.toNat_natCast] at hsg
    rw [hsg]
    exact⟨w2.heap.size,rfl,heap_alloc_last _ _,(HBw.o.trans (HB2.o.mono HBw.o.size)).alloc (Nat.le_trans HBw.o.size HB2.o.size) _,zc (by rw [HB2.o.block _ (zb HBx.o)];exact HBx.o)⟩
   ·go_wp2_with fail
    go_meet
    have hsg:=HSG.o
    rw [Int.toNat_natCast] at hsg
    rw [hsg]
    refine⟨wc.heap.size,rfl,qj HNW.o 0 _,(HBw.o.trans (HB2.o.mono HBw.o.size)).setCell (by show w.heap.size≤wc.heap.size;exact HBw.o.size) _,?_⟩
    rw [heap_setCell_other _ _ _ _ hx0,HB2.o.block _ (zb HBx.o)]
    exact HBx.o
  case rest =>
   clear hx0 hx1 hx2 hx3 hx4 hx5 m0 m1 n0 n1 n2 n3 n4 n5 n6 n7 n8 hbl HSB hB0 hD0 HEw HBw HBx HBB
   obtain⟨B4,rfl,h4,hbw,hbx⟩:=hcut
   go_wp2_with fail
   have hstw:wc.cell? ⟨lb,0,none⟩=some (stV db true):=by rw [hbw.cell (p:=⟨lb,0,none⟩) hlt];exact HC0.o
   have hcall:=zzb O db lb w.heap.size B4 d (xn l.es.length (yb l.es) l.key) (wc.alloc (.cells #[.nilIface] 70)) hn
    (HD.o.stay (O1:=fun _=>False) (T:=[]) ((zf.of_below hbw).alloc _) (by simp) (by simp))
    (zg (zc hbx) 0 _ rfl).1 (zg (zc h4) 0 _ rfl).1 (by rw [zk _ _ ⟨_,0,none⟩ (zj hstw)];exact hstw)
   have H0:Hid ((wc.alloc (.cells #[.nilIface] 70)).heap[wc.heap.size]?=some (.cells #[.nilIface] 70 (0,0))):=heap_alloc_last _ _
   have hbl:Hid (Below w.heap.size w (wc.alloc (.cells #[.nilIface] 70))):=hbw.alloc hbw.size _
   refine(zq1 cpF 125 _ wc (fun e w'=>zcc (bad d) (wc.alloc (.cells #[.nilIface] 70)).heap.size e w'∧zf O dT (wc.alloc (.cells #[.nilIface] 70)) w'∧zm w' (Ext O (wc.alloc (.cells #[.nilIface] 70)) w') db (zbv d cpF (xn l.es.length (yb l.es) l.key))) eg hcall ?_).mono ?_
   ·rintro e w' ⟨ho,ht,-⟩
    exact⟨zkl ho,ht.keep H0.o (by decide)⟩
   have h34:w.heap.size≤wc.heap.size:=hbw.size
   clear hcall h4 hbw hbx hstw
   generalize wc.alloc (.cells #[.nilIface] 70)=W4 at *
   rintro r w5 ⟨e,w',⟨ho,ht,hd⟩,h⟩
   have HEE:=za (zwl hbl.out h34 H0.o ho ht hd h)
   clear ho ht hd h
   obtain⟨e',he'⟩:=HEE.o
   obtain rfl:=he'.1
   have HX:=za he'.2
   clear he' HEE
   go_wp2_with fail
   go_ret
   exact⟨_,rfl,HX.o⟩
end
section
set_option maxHeartbeats 4000000
open Go.RowKit
set_option maxRecDepth 100000
theorem zaj {P:Program}{fn:Func}{p u:Tmp}{ty:TypeId}(h:fn.results=#[.cell p ty,.tmp u])(tmps:Array Value)(w:World)(g:Nat)(t:TypeId)(cs:Array Value)(fr:Nat×Nat)(d:TypeDesc)
  (hp:tmps.getD p undef= .pointer (some ⟨g,0,none⟩)) (hg:w.heap[g]?=some (.cells cs t fr))
  (hu:P.underlying ty=some d) (hd:(match d with | .struct _ | .array _ _=>true | _=>false)=true) (hi:(P.info? ty).map (·.size)=some cs.size) (x:Value) (hx:tmps.getD u undef=x) :
  (results fn tmps).run P w= .ok (.tuple #[.agg cs,x]) w:=by
 rw [_root_.Go.results_cell_tmp h,hp,hx]
 simp [asAddr,run_loadVar_row w g t ty cs fr d hg hu hd hi]
def z9:Array Value:=#[.int .i64 0,.int .u8 0,.int .u8 0,.int .u8 0,.int .u8 0,.int .u8 0,.int .u8 0,.int .u8 0,.int .u8 0]
theorem zqs:z9.all (·.oneCell') =true:=by simp [z9,Value.oneCell']
theorem zba:(Tryz.prog.info? 93).map (·.size)=some z9.size:=by kernel_rfl
theorem zp1 (n:Int)(b0 b1 b2 b3 b4 b5 b6 b7:UInt8):(tv n b0 b1 b2 b3 b4 b5 b6 b7).all (·.oneCell')=true:=by simp [tv,Value.oneCell']
theorem z6g (n:Int)(b0 b1 b2 b3 b4 b5 b6 b7:UInt8):(Tryz.prog.info? 93).map (·.size)=some (tv n b0 b1 b2 b3 b4 b5 b6 b7).size:=zba
theorem zm6:∀(k:Nat) (s:List UInt8) ,(Lib.splitK [10] 0 k s).length≤k+1
 | 0,_=>Nat.le_refl _
 | k+1,s=>by
  rw [Lib.splitK]
  split
  ·simp
  ·have:=zm6 k (s.drop ((Lib.index s [10]).toNat+[10].length))
   simp only [List.length_cons] at this ⊢
   omega
theorem ziq (c:List UInt8):∀(k:Nat) (s:List UInt8),∀ x∈Lib.splitK c 0 k s,x.length≤s.length
 | 0,s,x,hx=>by
  obtain rfl:x=s:=by simpa [Lib.splitK] using hx
  exact Nat.le_refl _
 | k+1,s,x,hx=>by
  rw [Lib.splitK] at hx
  split at hx
  ·obtain rfl:x=s:=by simpa using hx
   exact Nat.le_refl _
  ·rcases List.mem_cons.1 hx with rfl | h
   ·simp;omega
   ·have:=ziq c k _ x h
    simp at this
    omega
theorem zlu (l:List UInt8)(hl:l.length≤1000000000)(w:World)(E:Env w):
  Calls Tryz.prog 93 #[.string ⟨l.toArray⟩,.int .i64 16,.int .i64 64] w fun r w'=>∃ v e,r= .returned (.tuple #[.int .u64 v,e])∧0≤v∧v≤18446744073709551615∧(e= .nilIface∨∃ t p,e= .iface t p)∧(∀ root,root.length=8→l=vi root→e= .nilIface∧zn4 v=root)∧Below w.heap.size w w':=by
 by_cases hg:∃ root,root.length=8∧l=vi root
 ·obtain⟨root,hr,rfl⟩:=hg
  refine(zl0 root hr w).mono ?_
  rintro r w' ⟨rfl,hb⟩
  have hlt:=zwr (vi root) (znq root) 0 0 (by decide)
  rw [za1,hr] at hlt
  have hlt':zdz 0 (vi root) < 18446744073709551616:=hlt
  refine⟨_,_,rfl,by omega,by omega,.inl rfl,fun root' hr' e=>⟨rfl,?_⟩,hb⟩
  rw [zsq hr hr' e]
  exact zlv root' hr'
 ·refine(znz l hl w E).mono ?_
  rintro r w' ⟨v,e,rfl,v0,v1,he,hb⟩
  exact⟨v,e,rfl,v0,v1,he,fun root hr h=>absurd ⟨root,hr,h⟩ hg,hb⟩
theorem zl3 {t key:List UInt8}{n:Nat}{root:List UInt8}(h:jq t key n root):Lib.splitK [10] 0 (min 4 (t.length+1) - 1) t=[[116,105,108,101,115],dec n,vi root,zhx n root key++[10]]:=by
 obtain⟨_,_,rfl⟩:=h
 have:=zyb n root key
 rw [show min 4 ((xn n root key).length+1) - 1=3 by omega]
 exact zvd n root key
theorem zpq (t key:List UInt8)(ht:t.length≤1048576)(hk:key.length≤9223372036854775807)(w:World)(E:Env w):
  Calls Tryz.prog 57 #[.string ⟨t.toArray⟩,.string ⟨key.toArray⟩] w fun r w'=>Below w.heap.size w w' ∧
   ((∃ n b0 b1 b2 b3 b4 b5 b6 b7,jq t key n [b0,b1,b2,b3,b4,b5,b6,b7]∧r= .returned (.tuple #[.agg (tv n b0 b1 b2 b3 b4 b5 b6 b7),.bool true]))∨((∀ n root,¬ jq t key n root)∧r= .returned (.tuple #[.agg z9,.bool false]))):=by
 have HE:=za E
 clear E
 go_enter Tryz.func57,Tryz.ntmps57
 go_wp2_with fail
 have HB1:=za (ze w (.cells z9 93))
 have HG1:=za (heap_alloc_last w (.cells z9 93))
 unfold z9 at HB1 HG1
 generalize w.alloc (.cells #[.int .i64 0,.int .u8 0,.int .u8 0,.int .u8 0,.int .u8 0,.int .u8 0,.int .u8 0,.int .u8 0,.int .u8 0] 93)=W1 at *
 refine(zrp t (by omega) W1 (HE.o.below HB1.o)).mono ?_
 rintro r w2 ⟨ps,hps,rfl,rfl⟩
 have HPS:=za hps
 have HL2:=za (heap_alloc_last W1 (.cells (Lib.cellsOf ps (min 4 (t.length+1))) 9))
 have HB2:Hid (Below w.heap.size w (W1.alloc (.cells (Lib.cellsOf ps (min 4 (t.length+1))) 9))):=HB1.o.trans ((ze W1 _).mono HB1.o.size)
 have HG2:=za (zc (o:= .cells (Lib.cellsOf ps (min 4 (t.length+1))) 9) HG1.o)
 generalize W1.alloc (.cells (Lib.cellsOf ps (min 4 (t.length+1))) 9)=W2 at *
 generalize W1.heap.size=gl at *
 have HLB:Hid (∀ x∈ps.map (·.data.toList),x.length≤t.length):=fun x hx=>by rw [HPS.o] at hx;exact ziq _ _ _ x hx
 have HNE:Hid (ps.length≤min 4 (t.length+1)):=by
  show ps.length≤_
  have:=zm6 (min 4 (t.length+1) - 1) t
  rw [← HPS.o,List.length_map] at this
  omega
 have hg0:∃ g0,w.heap.size=g0:=⟨_,rfl⟩
 obtain⟨g0,hg0⟩:=hg0
 rw [hg0] at HG2 ⊢
 have HGE:=za hg0
 clear hps HG1 HB1 hg0
 by_cases h4:ps.length < 4
 ·have n4:(ps.length:Int) < 4:=by omega
  have HN:Hid (∀ n root,¬ jq t key n root):=fun n root h=>by
   have e:=HPS.o
   rw [zl3 h] at e
   have:=congrArg List.length e
   simp at this
   omega
  generalize min 4 (t.length+1)=N at *
  go_wp2_with (show wpList _ _ _ ({ dst:=none,op:=Op.store _ _ _,type:=_,pos:=_,after:=_,guard:=_ }::_) _ _;refine wpList_store_row rfl 93 _ _ rfl g0 z9 rfl rfl 93 _ HG2.o zba rfl zqs ?_)
  refine bodyPost_ret (v:= .tuple #[.agg z9,.bool false]) (zaj Tryz.results57 _ _ g0 93 _ (0,0) _ rfl (setRow_heap _ _ _ _ _ _ HG2.o) Tryz.underlying93 rfl zba _ rfl) rfl ⟨below_setRow HB2.o (Nat.le_of_eq HGE.o) _,.inr ⟨HN.o,rfl⟩⟩
 ·have hp4:ps.length=4:=by have:=HNE.o;omega
  have hN4:min 4 (t.length+1)=4:=by have:=HNE.o;omega
  rw [hN4] at HL2 ⊢
  obtain⟨p0,p1,p2,p3,rfl⟩:∃ p0 p1 p2 p3,ps=[p0,p1,p2,p3]:=by
   match ps,hp4 with
   | [p0,p1,p2,p3],_=>exact⟨p0,p1,p2,p3,rfl⟩
  obtain⟨l1,rfl⟩:∃ l:List UInt8,p1=⟨l.toArray⟩:=⟨p1.data.toList,by simp⟩
  obtain⟨l2,rfl⟩:∃ l:List UInt8,p2=⟨l.toArray⟩:=⟨p2.data.toList,by simp⟩
  have b1:l1.length≤1048576:=Nat.le_trans (HLB.o l1 (by simp)) ht
  have b2:l2.length≤1048576:=Nat.le_trans (HLB.o l2 (by simp)) ht
  have HSG:Hid (∀ n root,jq t key n root→l1=dec n∧l2=vi root):=fun n root h=>by
   have e:=HPS.o
   rw [zl3 h] at e
   simp only [List.map_cons,List.map_nil,List.cons.injEq] at e
   exact⟨e.2.1,e.2.2.1⟩
  have c1:W2.cell? ⟨gl,1,none⟩=some (.string ⟨l1.toArray⟩):=by rw [cell_of_row _ _ _ _ _ _ HL2.o];rfl
  have c2:W2.cell? ⟨gl,2,none⟩=some (.string ⟨l2.toArray⟩):=by rw [cell_of_row _ _ _ _ _ _ HL2.o];rfl
  have hl4:([p0,⟨l1.toArray⟩,⟨l2.toArray⟩,p3]:List ByteArray).length=4:=rfl
  clear h4 hp4 HNE HLB HPS hN4
  rw [hl4]
  clear hl4
  go_wp2_with fail
  refine(zlu l2 (by omega) W2 (HE.o.below HB2.o)).mono ?_
  rintro r w3 ⟨v,e,rfl,v0,v1,he,hF,hb3⟩
  have HB3:Hid (Below w.heap.size w w3):=HB2.o.trans (hb3.mono HB2.o.size)
  have HG3:=za ((hb3.block g0 (zkm HG2.o)).trans HG2.o)
  rw [← hb3.cell (p:=⟨gl,1,none⟩) (zj (p:=⟨gl,1,none⟩) c1)] at c1
  have HF:=za hF
  have HV:=za (And.intro v0 v1)
  have HEE:=za he
  clear hb3 hF v0 v1 he c2 HB2 HG2 HL2
  go_wp2_with fail
  refine(ztr l1 (by omega) w3 (HE.o.below HB3.o)).mono ?_
  rintro r w4 ⟨rfl,hb4⟩
  have HB4:Hid (Below w.heap.size w w4):=HB3.o.trans (hb4.mono HB3.o.size)
  have HG4:=za ((hb4.block g0 (zkm HG3.o)).trans HG3.o)
  have hnb:=zsl l1
  have HNP:Hid (∀ n,l1=dec n→n≤9223372036854775807→zeu l1=(n:Int)):=fun n e h=>by rw [e];exact zgx n h
  generalize zeu l1=nn at *
  clear hb4 HB3 HG3 c1
  go_wp2_with fail
  refine(z3y v w4 HV.o.1 HV.o.2).mono ?_
  rintro r w5 ⟨rfl,hb5⟩
  have HB5:Hid (Below w.heap.size w w5):=HB4.o.trans (hb5.mono HB4.o.size)
  have HG5:=za ((hb5.block g0 (zkm HG4.o)).trans HG4.o)
  clear hb5 HB4 HG4
  obtain⟨b0,b1,b2,b3,b4,b5,b6,b7,hx⟩:=hv8 (zn4 v) rfl
  have HX:=za hx
  rw [hx,show hv [b0,b1,b2,b3,b4,b5,b6,b7]=#[.int .u8 b0.toNat,.int .u8 b1.toNat,.int .u8 b2.toNat,.int .u8 b3.toNat,.int .u8 b4.toNat,.int .u8 b5.toNat,.int .u8 b6.toNat,.int .u8 b7.toNat] from rfl]
  clear hx
  have HB6:Hid (Below w.heap.size w (w5.alloc (.cells (tv nn b0 b1 b2 b3 b4 b5 b6 b7) 93))):=HB5.o.trans ((ze w5 _).mono HB5.o.size)
  have HG6:=za (zc (o:= .cells (tv nn b0 b1 b2 b3 b4 b5 b6 b7) 93) HG5.o)
  have HT6:=za (heap_alloc_last w5 (.cells (tv nn b0 b1 b2 b3 b4 b5 b6 b7) 93))
  obtain⟨d0,d1,d2,d3,d4,d5,d6,d7,d8⟩:=zgo HT6.o
  rcases HEE.o with rfl | ⟨te,pe,rfl⟩
  ·by_cases hneg:nn < 0
   ·have HN:Hid (∀ n root,¬ jq t key n root):=fun n root h=>by
     have:=HNP.o n (HSG.o n root h).1 h.1
     omega
    go_wp2_with (first | (show wpList _ _ _ ({ dst:=none,op:=Op.store _ _ _,type:=_,pos:=_,after:=_,guard:=_ }::_) _ _;refine wpList_store_row rfl 93 _ _ rfl w5.heap.size (tv nn b0 b1 b2 b3 b4 b5 b6 b7) rfl rfl 93 _ (heap_alloc_last _ _) zba rfl (zp1 _ _ _ _ _ _ _ _ _) ?_;rw [World.setRow_alloc_new];generalize w5.alloc (.cells (tv nn b0 b1 b2 b3 b4 b5 b6 b7) 93)=W6 at *;generalize w5.heap.size=g9 at *) | (show wpList _ _ _ ({ dst:=none,op:=Op.store _ _ _,type:=_,pos:=_,after:=_,guard:=_ }::_) _ _;refine wpList_store_row rfl 93 _ _ rfl g0 z9 rfl rfl 93 _ HG6.o zba rfl zqs ?_))
    refine bodyPost_ret (v:= .tuple #[.agg z9,.bool false]) (zaj Tryz.results57 _ _ g0 93 _ (0,0) _ rfl (setRow_heap _ _ _ _ _ _ HG6.o) Tryz.underlying93 rfl zba _ rfl) rfl ⟨below_setRow HB6.o (Nat.le_of_eq HGE.o) _,.inr ⟨HN.o,rfl⟩⟩
   ·have n0:¬ nn < 0:=hneg
    go_wp2_with (show wpList _ _ _ ({ dst:=none,op:=Op.store _ _ _,type:=_,pos:=_,after:=_,guard:=_ }::_) _ _;refine wpList_store_row rfl 93 _ _ rfl w5.heap.size (tv nn b0 b1 b2 b3 b4 b5 b6 b7) rfl rfl 93 _ (heap_alloc_last _ _) zba rfl (zp1 _ _ _ _ _ _ _ _ _) ?_;rw [World.setRow_alloc_new];generalize w5.alloc (.cells (tv nn b0 b1 b2 b3 b4 b5 b6 b7) 93)=W6 at *;generalize w5.heap.size=g9 at *)
    refine(zna nn (by omega) (by omega) b0 b1 b2 b3 b4 b5 b6 b7 key hk W6 (HE.o.below HB6.o)).mono ?_
    rintro r w7 ⟨rfl,hb7⟩
    have HB7:Hid (Below w.heap.size w w7):=HB6.o.trans (hb7.mono HB6.o.size)
    have HG7:=za ((hb7.block g0 (zkm HG6.o)).trans HG6.o)
    obtain⟨f0,f1,f2,f3,f4,f5,f6,f7,f8⟩:=zgo ((hb7.block g9 (zkm HT6.o)).trans HT6.o)
    clear hb7 d0 d1 d2 d3 d4 d5 d6 d7 d8
    have HSN:Hid (xn nn.toNat [b0,b1,b2,b3,b4,b5,b6,b7] key=xn nn.toNat [b0,b1,b2,b3,b4,b5,b6,b7] key):=rfl
    generalize hS:xn nn.toNat [b0,b1,b2,b3,b4,b5,b6,b7] key=S at *
    have HSS:=za hS
    clear hS HSN
    by_cases heq:S=t
    ·have hq1:(S==t)=true:=by rw [beq_iff_eq];exact heq
     have HQ:=za heq
     clear heq
     have HIS:Hid (jq t key nn.toNat [b0,b1,b2,b3,b4,b5,b6,b7]):=⟨by omega,rfl,by rw [← HQ.o,← HSS.o]⟩
     have HNN:Hid (((nn.toNat:Nat):Int)=nn):=by show _=_;omega
     go_wp2_with (show wpList _ _ _ ({ dst:=none,op:=Op.store _ _ _,type:=_,pos:=_,after:=_,guard:=_ }::_) _ _;refine wpList_store_row rfl 93 _ _ rfl g0 (tv nn b0 b1 b2 b3 b4 b5 b6 b7) rfl rfl 93 _ HG7.o zba rfl (zp1 _ _ _ _ _ _ _ _ _) ?_)
     refine bodyPost_ret (v:= .tuple #[.agg (tv nn b0 b1 b2 b3 b4 b5 b6 b7),.bool true]) (zaj Tryz.results57 _ _ g0 93 _ (0,0) _ rfl (setRow_heap _ _ _ _ _ _ HG7.o) Tryz.underlying93 rfl (z6g _ _ _ _ _ _ _ _ _) _ rfl) rfl ⟨below_setRow HB7.o (Nat.le_of_eq HGE.o) _,.inl ⟨nn.toNat,b0,b1,b2,b3,b4,b5,b6,b7,HIS.o,by rw [HNN.o]⟩⟩
    ·have hq1:(S==t)=false:=by rw [beq_eq_false_iff_ne];exact heq
     have HQ:=za heq
     clear heq
     have HN:Hid (∀ n root,¬ jq t key n root):=fun n root h=>by
      have e1:=HNP.o n (HSG.o n root h).1 h.1
      have e2:=(HF.o root h.2.1 (HSG.o n root h).2).2
      refine HQ.o ?_
      rw [← HSS.o,← HX.o,e2,e1,Int.toNat_natCast]
      exact h.2.2.symm
     go_wp2_with (show wpList _ _ _ ({ dst:=none,op:=Op.store _ _ _,type:=_,pos:=_,after:=_,guard:=_ }::_) _ _;refine wpList_store_row rfl 93 _ _ rfl g0 z9 rfl rfl 93 _ HG7.o zba rfl zqs ?_)
     refine bodyPost_ret (v:= .tuple #[.agg z9,.bool false]) (zaj Tryz.results57 _ _ g0 93 _ (0,0) _ rfl (setRow_heap _ _ _ _ _ _ HG7.o) Tryz.underlying93 rfl zba _ rfl) rfl ⟨below_setRow HB7.o (Nat.le_of_eq HGE.o) _,.inr ⟨HN.o,rfl⟩⟩
  ·have HN:Hid (∀ n root,¬ jq t key n root):=fun n root h=>by
    have:=(HF.o root h.2.1 (HSG.o n root h).2).1
    simp at this
   go_wp2_with (first | (show wpList _ _ _ ({ dst:=none,op:=Op.store _ _ _,type:=_,pos:=_,after:=_,guard:=_ }::_) _ _;refine wpList_store_row rfl 93 _ _ rfl w5.heap.size (tv nn b0 b1 b2 b3 b4 b5 b6 b7) rfl rfl 93 _ (heap_alloc_last _ _) zba rfl (zp1 _ _ _ _ _ _ _ _ _) ?_;rw [World.setRow_alloc_new];generalize w5.alloc (.cells (tv nn b0 b1 b2 b3 b4 b5 b6 b7) 93)=W6 at *;generalize w5.heap.size=g9 at *) | (show wpList _ _ _ ({ dst:=none,op:=Op.store _ _ _,type:=_,pos:=_,after:=_,guard:=_ }::_) _ _;refine wpList_store_row rfl 93 _ _ rfl g0 z9 rfl rfl 93 _ HG6.o zba rfl zqs ?_))
   refine bodyPost_ret (v:= .tuple #[.agg z9,.bool false]) (zaj Tryz.results57 _ _ g0 93 _ (0,0) _ rfl (setRow_heap _ _ _ _ _ _ HG6.o) Tryz.underlying93 rfl zba _ rfl) rfl ⟨below_setRow HB6.o (Nat.le_of_eq HGE.o) _,.inr ⟨HN.o,rfl⟩⟩
end
end Go.Proofs.YtinhekmmdlhfkaaGreatDoor
