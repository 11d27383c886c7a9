import Derived.Test.YtndkblnpbjffhaaGreatDoorG19
set_option maxHeartbeats 4000000
set_option maxRecDepth 100000
open Go.RowKit
namespace Go.Proofs.YtndkblnpbjffhaaGreatDoor
theorem z4m {w:World}{b:Nat}{t:TypeId}{Z Y X W U S Q L J:Value}(r A D E H I K R V:Value)(h:w.heap[b]?=some (.cells #[Z,Y,X,W,U,S,Q,L,J] t (0,0))):(((((((((w.setCell ⟨b,0,none⟩ r).setCell ⟨b,1,none⟩ A).setCell ⟨b,2,none⟩ D).setCell ⟨b,3,none⟩ E).setCell ⟨b,4,none⟩ H).setCell ⟨b,5,none⟩ I).setCell ⟨b,6,none⟩ K).setCell ⟨b,7,none⟩ R).setCell ⟨b,8,none⟩ V).heap[b]?=some (.cells #[r,A,D,E,H,I,K,R,V] t (0,0)):=by
 have e0:(w.setCell ⟨b,0,none⟩ r).heap[b]?=some (.cells #[r,Y,X,W,U,S,Q,L,J] t (0,0)):=qo h 0 r;have e1:((w.setCell ⟨b,0,none⟩ r).setCell ⟨b,1,none⟩ A).heap[b]?=some (.cells #[r,A,X,W,U,S,Q,L,J] t (0,0)):=qo e0 1 A;have e2:(((w.setCell ⟨b,0,none⟩ r).setCell ⟨b,1,none⟩ A).setCell ⟨b,2,none⟩ D).heap[b]?=some (.cells #[r,A,D,W,U,S,Q,L,J] t (0,0)):=qo e1 2 D;have e3:((((w.setCell ⟨b,0,none⟩ r).setCell ⟨b,1,none⟩ A).setCell ⟨b,2,none⟩ D).setCell ⟨b,3,none⟩ E).heap[b]?=some (.cells #[r,A,D,E,U,S,Q,L,J] t (0,0)):=qo e2 3 E;have e4:(((((w.setCell ⟨b,0,none⟩ r).setCell ⟨b,1,none⟩ A).setCell ⟨b,2,none⟩ D).setCell ⟨b,3,none⟩ E).setCell ⟨b,4,none⟩ H).heap[b]?=some (.cells #[r,A,D,E,H,S,Q,L,J] t (0,0)):=qo e3 4 H;have e5:((((((w.setCell ⟨b,0,none⟩ r).setCell ⟨b,1,none⟩ A).setCell ⟨b,2,none⟩ D).setCell ⟨b,3,none⟩ E).setCell ⟨b,4,none⟩ H).setCell ⟨b,5,none⟩ I).heap[b]?=some (.cells #[r,A,D,E,H,I,Q,L,J] t (0,0)):=qo e4 5 I;have e6:(((((((w.setCell ⟨b,0,none⟩ r).setCell ⟨b,1,none⟩ A).setCell ⟨b,2,none⟩ D).setCell ⟨b,3,none⟩ E).setCell ⟨b,4,none⟩ H).setCell ⟨b,5,none⟩ I).setCell ⟨b,6,none⟩ K).heap[b]?=some (.cells #[r,A,D,E,H,I,K,L,J] t (0,0)):=qo e5 6 K;have e7:((((((((w.setCell ⟨b,0,none⟩ r).setCell ⟨b,1,none⟩ A).setCell ⟨b,2,none⟩ D).setCell ⟨b,3,none⟩ E).setCell ⟨b,4,none⟩ H).setCell ⟨b,5,none⟩ I).setCell ⟨b,6,none⟩ K).setCell ⟨b,7,none⟩ R).heap[b]?=some (.cells #[r,A,D,E,H,I,K,R,J] t (0,0)):=qo e6 7 R;have e8:(((((((((w.setCell ⟨b,0,none⟩ r).setCell ⟨b,1,none⟩ A).setCell ⟨b,2,none⟩ D).setCell ⟨b,3,none⟩ E).setCell ⟨b,4,none⟩ H).setCell ⟨b,5,none⟩ I).setCell ⟨b,6,none⟩ K).setCell ⟨b,7,none⟩ R).setCell ⟨b,8,none⟩ V).heap[b]?=some (.cells #[r,A,D,E,H,I,K,R,V] t (0,0)):=qo e7 8 V;exact e8
theorem zvc {B b:Nat}{a w:World}(h:Below B a w)(r:B≤b)(A D E H I J K L Q:Value):Below B a (((((((((w.setCell ⟨b,0,none⟩ A).setCell ⟨b,1,none⟩ D).setCell ⟨b,2,none⟩ E).setCell ⟨b,3,none⟩ H).setCell ⟨b,4,none⟩ I).setCell ⟨b,5,none⟩ J).setCell ⟨b,6,none⟩ K).setCell ⟨b,7,none⟩ L).setCell ⟨b,8,none⟩ Q) :=
 h|>.setCell (p:=⟨b,0,none⟩) r A|>.setCell (p:=⟨b,1,none⟩) r D|>.setCell (p:=⟨b,2,none⟩) r E|>.setCell (p:=⟨b,3,none⟩) r H|>.setCell (p:=⟨b,4,none⟩) r I|>.setCell (p:=⟨b,5,none⟩) r J|>.setCell (p:=⟨b,6,none⟩) r K|>.setCell (p:=⟨b,7,none⟩) r L|>.setCell (p:=⟨b,8,none⟩) r Q
theorem zxt {w:World}{b k:Nat}(r A D E H I J K L:Value)(h:k≠b):(((((((((w.setCell ⟨b,0,none⟩ r).setCell ⟨b,1,none⟩ A).setCell ⟨b,2,none⟩ D).setCell ⟨b,3,none⟩ E).setCell ⟨b,4,none⟩ H).setCell ⟨b,5,none⟩ I).setCell ⟨b,6,none⟩ J).setCell ⟨b,7,none⟩ K).setCell ⟨b,8,none⟩ L).heap[k]?=w.heap[k]?:=by
 repeat rw [heap_setCell_other _ _ _ _ h]
theorem z18 (O OL:Nat→Prop)(db lb:Nat)(d:Dk)(l:Lg)(w:World)(E:Env w)(hn:d.fs.length≤1000000000)(he:l.es.length≤1000000)(h20:∀ e∈l.es,e.length≤20)(hk:l.key.length≤2097152)(am:l.live=true)(h:zq w O db d)(hL:qz w OL db lb l):
  Calls Tryz.prog 195 #[.pointer (some ⟨lb,0,none⟩)] w fun r w'=>∃ e,r= .returned e∧zc1 (bad d) cpF w.heap.size e w'∧zg O dT w w'∧zq w' (Ext O w w') db (zdl d cpF (jr l.es.length (ye l.es) l.key)):=by
 have a0:∀(fn:Fn) (first D:Array Value) (w:World),(Instr.makeFunc fn first D).run Tryz.prog w= .ok (.func fn first D) w:=fun _ _ _ _=>rfl;have eg:∀ args w,(callFunc 217 args).run Tryz.prog w= .ok (.enter 217 args) w:=enters_of Tryz.func217 (by kernel_rfl) rfl;obtain⟨ev,hO,hb,al,hg⟩:=hL;obtain⟨⟨c0,f0⟩,⟨c1,f1⟩,⟨c2,f2⟩,-⟩:=zmq hb;rw [am] at c0;have a1:=za c0;have ae:=zb hb;have HD:=za h;have HE:=za E;have HS:=za al;obtain⟨a,D,a5⟩:∃ a D,ev= .slice a l.es.length D:=by
  obtain⟨a,D,e,-⟩:=al.bss';exact⟨a,D,e⟩
 subst a5;clear h hb al hg E;go_enter Tryz.func195,Tryz.ntmps195;go_wp2_with fail;obtain⟨b0,b1,b2,b3,b4,b5,b6,b7,hR⟩:=hv8 (xe l.es.length l.es) (qk _ _);have ay:hv (xe l.es.length l.es)=#[.int .u8 b0.toNat,.int .u8 b1.toNat,.int .u8 b2.toNat,.int .u8 b3.toNat,.int .u8 b4.toNat,.int .u8 b5.toNat,.int .u8 b6.toNat,.int .u8 b7.toNat]:=by rw [hR];rfl
 have HR:=za hR;have av:=za ay;have ap:=za h20;have aq:Hid (∀ w',Below w.heap.size w w'→Bss w' (.slice a l.es.length D) l.es):=fun w' hb=>HS.o.bss'.below hb;have V:Hid (Below w.heap.size w (w.alloc (.cells #[.pointer (some ⟨lb,0,none⟩)] 127)).drew):=(ze _ _).drew;have aa:Hid (∀ o,Below w.heap.size w ((w.alloc (.cells #[.pointer (some ⟨lb,0,none⟩)] 127)).alloc o).drew):=fun o=>((ze w _).alloc (by simp) o).drew;have ar:Hid (∀ W w',Below w.heap.size w W→Below W.heap.size W w'→w'.cell? ⟨lb,2,none⟩=some (.slice a l.es.length D)):=fun W w' h1 h2=>by rw [h2.cell (p:=⟨lb,2,none⟩) (Nat.lt_of_lt_of_le ae h1.size),h1.cell (p:=⟨lb,2,none⟩) ae];exact c2
 have a2:Hid (∀ w',Below (w.alloc (.cells #[.pointer (some ⟨lb,0,none⟩)] 127)).drew.heap.size (w.alloc (.cells #[.pointer (some ⟨lb,0,none⟩)] 127)).drew w'→w'.heap[w.heap.size]?=some (.cells #[.pointer (some ⟨lb,0,none⟩)] 127 (0,0))):=fun w' h=>by rw [h.block _ (by show w.heap.size < (w.heap.push _).size;simp)];exact heap_alloc_last w _
 have a3:Hid (∀ o w',Below ((w.alloc (.cells #[.pointer (some ⟨lb,0,none⟩)] 127)).alloc o).drew.heap.size ((w.alloc (.cells #[.pointer (some ⟨lb,0,none⟩)] 127)).alloc o).drew w'→w'.heap[w.heap.size]?=some (.cells #[.pointer (some ⟨lb,0,none⟩)] 127 (0,0))):=fun o w' h=>by rw [h.block _ (by show w.heap.size < ((w.heap.push _).push _).size;simp;omega)];exact zc (heap_alloc_last w _)
 clear hR ay h20;go_cut [3] from 5 to 15 (fun s3 wx=>∃ B,s3= .pointer (some ⟨B,0,none⟩)∧wx.heap[B]?=some (.cells (tv l.es.length b0 b1 b2 b3 b4 b5 b6 b7) 95 (0,0))∧Below w.heap.size w wx∧wx.heap[w.heap.size]?=some (.cells #[.pointer (some ⟨lb,0,none⟩)] 127 (0,0)))
 case first =>
  clear a0 eg c0 f0 c1 f1 f2 hn hk am hO HD HE;have aF:¬ lb=w.heap.size+1:=by omega
  have aG:¬ w.heap.size+1=lb:=by omega
  go_region_held3 (fun W=>W.cell? ⟨w.heap.size,0,none⟩=some (.pointer (some ⟨lb,0,none⟩))∧W.cell? ⟨lb,2,none⟩=some (.slice a l.es.length D)) (go_keep) (first
   | (go_at_call 36;refine(zji l.es.length _ l.es (w.alloc (.cells #[.pointer (some ⟨lb,0,none⟩)] 127)).drew (Nat.le_refl _) he (by intro e L;have:=ap.o e L;unfold maxLen;omega) (by exact aq.o _ V.o)).mono ?_;rintro r w1 ⟨rfl,H⟩;rw [av.o];have R:=za H;have m2:=ar.o _ _ V.o H;have I:=a2.o _ H;have m0:=(zf I 0 _ rfl).1;have aD:∀ o,(w1.alloc o).cell? ⟨lb,2,none⟩=some (.slice a l.es.length D):=(fun o=>by rw [zl _ _ ⟨_,2,none⟩ (zk m2)];exact m2);have aC:∀ o,(w1.alloc o).cell? ⟨w.heap.size,0,none⟩=some (.pointer (some ⟨lb,0,none⟩)):=(fun o=>by rw [zl _ _ ⟨_,0,none⟩ (zk m0)];exact m0);have aj:=za I;clear H I)
   | (go_at_call 36;refine(zji l.es.length _ l.es ((w.alloc (.cells #[.pointer (some ⟨lb,0,none⟩)] 127)).alloc (.cells #[.int .i64 0,.int .u8 0,.int .u8 0,.int .u8 0,.int .u8 0,.int .u8 0,.int .u8 0,.int .u8 0,.int .u8 0] 95)).drew (Nat.le_refl _) he (by intro e L;have:=ap.o e L;unfold maxLen;omega) (by exact aq.o _ (aa.o _))).mono ?_;rintro r w1 ⟨rfl,H⟩;rw [av.o];have R:=za H;have af:=z9d w _ _ H;obtain⟨n0,n1,n2,n3,n4,n5,n6,n7,n8⟩:=znf af;have nz:=zyx af;have ah:=za af;have m2:=ar.o _ _ (aa.o _) H;have I:=a3.o _ _ H;have m0:=(zf I 0 _ rfl).1;have aD:∀ o,(w1.alloc o).cell? ⟨lb,2,none⟩=some (.slice a l.es.length D):=(fun o=>by rw [zl _ _ ⟨_,2,none⟩ (zk m2)];exact m2);have aC:∀ o,(w1.alloc o).cell? ⟨w.heap.size,0,none⟩=some (.pointer (some ⟨lb,0,none⟩)):=(fun o=>by rw [zl _ _ ⟨_,0,none⟩ (zk m0)];exact m0);have aj:=za I;clear H af I))
  ·go_wp2_with fail;go_meet;refine⟨w1.heap.size,rfl,heap_alloc_last _ _,?_,zc aj.o⟩;exact((V.o.trans (R.o.mono V.o.size)).alloc (Nat.le_trans V.o.size R.o.size) _)
  ·go_wp2_with fail;go_meet;have A:Below w.heap.size w w1:=(aa.o _).trans (R.o.mono (aa.o _).size);have a6:w.heap.size≠w.heap.size+1:=by omega
   have e8:=z4m (.int .i64 (l.es.length:Int)) (.int .u8 (b0.toNat:Int)) (.int .u8 (b1.toNat:Int)) (.int .u8 (b2.toNat:Int)) (.int .u8 (b3.toNat:Int)) (.int .u8 (b4.toNat:Int)) (.int .u8 (b5.toNat:Int)) (.int .u8 (b6.toNat:Int)) (.int .u8 (b7.toNat:Int)) ah.o;have e9:=zvc A (show w.heap.size≤w.heap.size+1 by omega) (.int .i64 (l.es.length:Int)) (.int .u8 (b0.toNat:Int)) (.int .u8 (b1.toNat:Int)) (.int .u8 (b2.toNat:Int)) (.int .u8 (b3.toNat:Int)) (.int .u8 (b4.toNat:Int)) (.int .u8 (b5.toNat:Int)) (.int .u8 (b6.toNat:Int)) (.int .u8 (b7.toNat:Int));have ax:=zxt (w:=w1) (b:=w.heap.size+1) (.int .i64 (l.es.length:Int)) (.int .u8 (b0.toNat:Int)) (.int .u8 (b1.toNat:Int)) (.int .u8 (b2.toNat:Int)) (.int .u8 (b3.toNat:Int)) (.int .u8 (b4.toNat:Int)) (.int .u8 (b5.toNat:Int)) (.int .u8 (b6.toNat:Int)) (.int .u8 (b7.toNat:Int)) a6;rw [aj.o] at ax;exact⟨w.heap.size+1,rfl,e8,e9,ax⟩
 case rest =>
  obtain⟨B,rfl,hB,A,U⟩:=hcut;have J:=za A;have X:=za U;have R:=za hB;have m0:=(zf U 0 _ rfl).1;have m1:wc.cell? ⟨lb,1,none⟩=some (.string ⟨l.key.toArray⟩):=by rw [A.cell (p:=⟨lb,1,none⟩) ae];exact c1
  obtain⟨n0,n1,n2,n3,n4,n5,n6,n7,n8⟩:=znf hB;have ag:=za (HE.o.below A);have ak:=zb hB;clear A U hB c0 c1 c2 f0 f1 f2;have ac:Hid (∀ o,Below wc.heap.size wc (wc.alloc o).drew):=fun o=>(ze _ _).drew;have I:¬ w.heap.size=wc.heap.size:=by have:=zk m0;simp only at this;omega
  have a7:¬ lb=wc.heap.size:=by have:=zk m1;simp only at this;omega
  have a8:¬ B=wc.heap.size:=by omega
  have a9:¬ wc.heap.size=w.heap.size:=by omega
  have aA:¬ wc.heap.size=lb:=by omega
  have aB:¬ wc.heap.size=B:=by omega
  have ai:Hid (∀ W',Below wc.heap.size wc W'→((fun W=>W.cell? ⟨w.heap.size,0,none⟩=some (.pointer (some ⟨lb,0,none⟩))∧W.cell? ⟨lb,1,none⟩=some (.string ⟨l.key.toArray⟩)∧W.cell? ⟨B,0,none⟩=some (.int .i64 (l.es.length:Int))∧W.cell? ⟨B,1,none⟩=some (.int .u8 (b0.toNat:Int))∧W.cell? ⟨B,2,none⟩=some (.int .u8 (b1.toNat:Int))∧W.cell? ⟨B,3,none⟩=some (.int .u8 (b2.toNat:Int))∧W.cell? ⟨B,4,none⟩=some (.int .u8 (b3.toNat:Int))∧W.cell? ⟨B,5,none⟩=some (.int .u8 (b4.toNat:Int))∧W.cell? ⟨B,6,none⟩=some (.int .u8 (b5.toNat:Int))∧W.cell? ⟨B,7,none⟩=some (.int .u8 (b6.toNat:Int))∧W.cell? ⟨B,8,none⟩=some (.int .u8 (b7.toNat:Int)))) W'):=fun W' hb=>by
   have Y:∀ {p:Addr} {v:Value},wc.cell? p=some v→W'.cell? p=some v:=fun {p v} h=>by rw [hb.cell (zk h)];exact h
   exact⟨Y m0,Y m1,Y n0,Y n1,Y n2,Y n3,Y n4,Y n5,Y n6,Y n7,Y n8⟩
  have ad:Hid (Below wc.heap.size wc wc.drew):=(Below.refl _ _).drew;have aw:Hid (jr (l.es.length:Int).toNat [b0,b1,b2,b3,b4,b5,b6,b7] l.key=jr l.es.length (ye l.es) l.key):=by show _=_;unfold ye;rw [HR.o,Int.toNat_natCast]
  go_wp2_with fail;go_cut [4] from 16 to 21 (fun s4 wx=>∃ B4,s4= .pointer (some ⟨B4,0,none⟩)∧wx.heap[B4]?=some (.cells #[txv (jr l.es.length (ye l.es) l.key)] 9 (0,0))∧Below w.heap.size w wx∧wx.heap[w.heap.size]?=some (.cells #[.pointer (some ⟨lb,0,none⟩)] 127 (0,0)))
  case first =>
   clear a0 eg hn am HD;go_region_held3 (fun W=>W.cell? ⟨w.heap.size,0,none⟩=some (.pointer (some ⟨lb,0,none⟩))∧W.cell? ⟨lb,1,none⟩=some (.string ⟨l.key.toArray⟩)∧W.cell? ⟨B,0,none⟩=some (.int .i64 (l.es.length:Int))∧W.cell? ⟨B,1,none⟩=some (.int .u8 (b0.toNat:Int))∧W.cell? ⟨B,2,none⟩=some (.int .u8 (b1.toNat:Int))∧W.cell? ⟨B,3,none⟩=some (.int .u8 (b2.toNat:Int))∧W.cell? ⟨B,4,none⟩=some (.int .u8 (b3.toNat:Int))∧W.cell? ⟨B,5,none⟩=some (.int .u8 (b4.toNat:Int))∧W.cell? ⟨B,6,none⟩=some (.int .u8 (b5.toNat:Int))∧W.cell? ⟨B,7,none⟩=some (.int .u8 (b6.toNat:Int))∧W.cell? ⟨B,8,none⟩=some (.int .u8 (b7.toNat:Int))) (go_keep) (first
    | (go_at_call 93;refine(zmy (l.es.length:Int) (by omega) (by omega) b0 b1 b2 b3 b4 b5 b6 b7 l.key hk wc.drew (by exact ag.o.below ad.out)).mono ?_;rintro r w2 ⟨rfl,S⟩;have K:Below wc.heap.size wc w2:=(ad.out).trans (S.mono (ad.out).size);obtain⟨q0,q1,q2,q3,q4,q5,q6,q7,q8,q9,aE⟩:=ai.o w2 K;have Q:=za K;clear S K)
    | (go_at_call 93;refine(zmy (l.es.length:Int) (by omega) (by omega) b0 b1 b2 b3 b4 b5 b6 b7 l.key hk (wc.alloc (.cells #[.string ⟨#[]⟩] 9)).drew (by exact ag.o.below (ac.out _))).mono ?_;rintro r w2 ⟨rfl,S⟩;have K:Below wc.heap.size wc w2:=((ac.out _)).trans (S.mono ((ac.out _)).size);obtain⟨q0,q1,q2,q3,q4,q5,q6,q7,q8,q9,aE⟩:=ai.o w2 K;have Q:=za K;have an:w2.heap[wc.heap.size]?=some (.cells #[.string ⟨#[]⟩] 9 (0,0)):=(by rw [S.block _ (by show wc.heap.size < (wc.heap.push _).size;simp)];exact heap_alloc_last wc _);obtain⟨x0,x1⟩:=zf an 0 _ rfl;have ah:=za an;clear an;clear S K))
   ·go_wp2_with fail;go_meet;have Z:=aw.o;rw [Int.toNat_natCast] at Z;rw [Z];exact⟨w2.heap.size,rfl,heap_alloc_last _ _,(J.o.trans (Q.o.mono J.o.size)).alloc (Nat.le_trans J.o.size Q.o.size) _,zc (by rw [Q.o.block _ (zb X.o)];exact X.o)⟩
   ·go_wp2_with fail;go_meet;have Z:=aw.o;rw [Int.toNat_natCast] at Z;rw [Z];refine⟨wc.heap.size,rfl,qo ah.o 0 _,(J.o.trans (Q.o.mono J.o.size)).setCell (by show w.heap.size≤wc.heap.size;exact J.o.size) _,?_⟩;rw [heap_setCell_other _ _ _ _ I,Q.o.block _ (zb X.o)];exact X.o
  case rest =>
   clear I a7 a8 a9 aA aB m0 m1 n0 n1 n2 n3 n4 n5 n6 n7 n8 ak ai ac ad ag J X R;obtain⟨B4,rfl,h4,A,U⟩:=hcut;go_wp2_with fail;have ao:wc.cell? ⟨lb,0,none⟩=some (stV db true):=by rw [A.cell (p:=⟨lb,0,none⟩) ae];exact a1.o
   have az:=z1m O db lb w.heap.size B4 d (jr l.es.length (ye l.es) l.key) (wc.alloc (.cells #[.nilIface] 68)) hn
    (HD.o.stay (O1:=fun _=>False) (T:=[]) ((zg.of_below A).alloc _) (by simp) (by simp))
    (zf (zc U) 0 _ rfl).1 (zf (zc h4) 0 _ rfl).1 (by rw [zl _ _ ⟨_,0,none⟩ (zk ao)];exact ao)
   have H0:Hid ((wc.alloc (.cells #[.nilIface] 68)).heap[wc.heap.size]?=some (.cells #[.nilIface] 68 (0,0))):=heap_alloc_last _ _;have ak:Hid (Below w.heap.size w (wc.alloc (.cells #[.nilIface] 68))):=A.alloc A.size _;refine(zqu cpF 217 _ wc (fun e w'=>zcn (bad d) (wc.alloc (.cells #[.nilIface] 68)).heap.size e w'∧zg O dT (wc.alloc (.cells #[.nilIface] 68)) w'∧zq w' (Ext O (wc.alloc (.cells #[.nilIface] 68)) w') db (zdl d cpF (jr l.es.length (ye l.es) l.key))) eg az ?_).mono ?_
   ·rintro e w' ⟨ho,ht,-⟩;exact⟨zj6 ho,ht.keep H0.o (by decide)⟩
   have a4:w.heap.size≤wc.heap.size:=A.size;clear az h4 A U ao;generalize wc.alloc (.cells #[.nilIface] 68)=W4 at *
   rintro r w5 ⟨e,w',⟨ho,ht,hd⟩,h⟩;have au:=za (zy1 ak.out a4 H0.o ho ht hd h);clear ho ht hd h;obtain⟨e',L⟩:=au.o;obtain rfl:=L.1;have HX:=za L.2;clear L au;go_wp2_with fail;go_ret;exact⟨_,rfl,HX.o⟩
theorem zam {P:Program}{A:Func}{p u:Tmp}{r:TypeId}(h:A.results=#[.cell p r,.tmp u])(tmps:Array Value)(w:World)(g:Nat)(t:TypeId)(cs:Array Value)(D:Nat×Nat)(d:TypeDesc)
  (J:tmps.getD p undef= .pointer (some ⟨g,0,none⟩)) (H:w.heap[g]?=some (.cells cs t D))
  (hu:P.underlying r=some d) (E:(match d with | .struct _ | .array _ _=>true | _=>false)=true) (I:(P.info? r).map (·.size)=some cs.size) (x:Value) (K:tmps.getD u undef=x) :
  (results A tmps).run P w= .ok (.tuple #[.agg cs,x]) w:=by
 rw [results_cell_tmp h,J,K];simp [asAddr,run_loadVar_row w g t r cs D d H hu E I]
def z9:Array Value:=#[.int .i64 0,.int .u8 0,.int .u8 0,.int .u8 0,.int .u8 0,.int .u8 0,.int .u8 0,.int .u8 0,.int .u8 0]
theorem zrh:z9.all (·.oneCell') =true:=by simp [z9,Value.oneCell']
theorem zba:(Tryz.prog.info? 95).map (·.size)=some z9.size:=by kernel_rfl
theorem zqq (n:Int)(h r A D E H I J:UInt8):(tv n h r A D E H I J).all (·.oneCell')=true:=by simp [tv,Value.oneCell']
theorem z73 (n:Int)(h r A D E H I J:UInt8):(Tryz.prog.info? 95).map (·.size)=some (tv n h r A D E H I J).size:=zba
theorem zm0:∀(k:Nat) (s:List UInt8) ,(Lib.splitK [10] 0 k s).length≤k+1
 | 0,_=>Nat.le_refl _
 | k+1,s=>by
  rw [Lib.splitK]
  split
  ·simp
  ·have:=zm0 k (s.drop ((Lib.index s [10]).toNat+[10].length));simp only [List.length_cons] at this ⊢;omega
theorem zi7 (c:List UInt8):∀(k:Nat) (s:List UInt8),∀ x∈Lib.splitK c 0 k s,x.length≤s.length
 | 0,s,x,hx=>by
  obtain rfl:x=s:=by simpa [Lib.splitK] using hx
  exact Nat.le_refl _
 | k+1,s,x,hx=>by
  rw [Lib.splitK] at hx
  split at hx
  ·obtain rfl:x=s:=by simpa using hx
   exact Nat.le_refl _
  ·rcases List.mem_cons.1 hx with rfl | h
   ·simp;omega
   ·have:=zi7 c k _ x h;simp at this;omega
theorem zmj (l:List UInt8)(L:l.length≤1000000000)(w:World)(E:Env w):
  Calls Tryz.prog 90 #[.string ⟨l.toArray⟩,.int .i64 16,.int .i64 64] w fun r w'=>∃ v e,r= .returned (.tuple #[.int .u64 v,e])∧0≤v∧v≤18446744073709551615∧(e= .nilIface∨∃ t p,e= .iface t p)∧(∀ root,root.length=8→l=j2 root→e= .nilIface∧zj8 v=root)∧Below w.heap.size w w':=by
 by_cases J:∃ root,root.length=8∧l=j2 root
 ·obtain⟨root,hr,rfl⟩:=J;refine(zm7 root hr w).mono ?_;rintro r w' ⟨rfl,H⟩;have A:=zyr (j2 root) (zn2 root) 0 0 (by decide);rw [vw,hr] at A;have Q:zer 0 (j2 root) < 18446744073709551616:=A;refine⟨_,_,rfl,by omega,by omega,.inl rfl,fun I D e=>⟨rfl,?_⟩,H⟩;rw [zuv hr D e];exact zno I D
 ·refine(zoa l L w E).mono ?_;rintro r w' ⟨v,e,rfl,R,S,K,H⟩;exact⟨v,e,rfl,R,S,K,fun root hr h=>absurd ⟨root,hr,h⟩ J,H⟩
theorem zl3 {t key:List UInt8}{n:Nat}{root:List UInt8}(h:vp t key n root):Lib.splitK [10] 0 (min 4 (t.length+1) - 1) t=[[116,105,108,101,115],dec n,j2 root,zid n root key++[10]]:=by
 obtain⟨_,_,rfl⟩:=h;have:=zzt n root key;rw [show min 4 ((jr n root key).length+1) - 1=3 by omega];exact zwu n root key
theorem z0q (t key:List UInt8)(ht:t.length≤1048576)(hk:key.length≤2097152)(w:World)(E:Env w):
  Calls Tryz.prog 51 #[.string ⟨t.toArray⟩,.string ⟨key.toArray⟩] w fun r w'=>Below w.heap.size w w' ∧
   ((∃ n H A D I J K L Q,vp t key n [H,A,D,I,J,K,L,Q]∧r= .returned (.tuple #[.agg (tv n H A D I J K L Q),.bool true]))∨((∀ n root,¬ vp t key n root)∧r= .returned (.tuple #[.agg z9,.bool false]))):=by
 have HE:=za E;clear E;go_enter Tryz.func51,Tryz.ntmps51;go_wp2_with fail;have aa:=za (ze w (.cells z9 95));have ao:=za (heap_alloc_last w (.cells z9 95));unfold z9 at aa ao;generalize w.alloc (.cells #[.int .i64 0,.int .u8 0,.int .u8 0,.int .u8 0,.int .u8 0,.int .u8 0,.int .u8 0,.int .u8 0,.int .u8 0] 95)=W1 at *
 refine(zut t (by omega) W1 (HE.o.below aa.o)).mono ?_;rintro r w2 ⟨Z,a5,rfl,rfl⟩;have af:=za a5;have aj:=za (heap_alloc_last W1 (.cells (Lib.cellsOf Z (min 4 (t.length+1))) 9));have ac:Hid (Below w.heap.size w (W1.alloc (.cells (Lib.cellsOf Z (min 4 (t.length+1))) 9))):=aa.o.trans ((ze W1 _).mono aa.o.size);have V:=za (zc (o:= .cells (Lib.cellsOf Z (min 4 (t.length+1))) 9) ao.o);generalize W1.alloc (.cells (Lib.cellsOf Z (min 4 (t.length+1))) 9)=W2 at *
 generalize W1.heap.size=gl at *
 have ar:Hid (∀ x∈Z.map (·.data.toList),x.length≤t.length):=fun x hx=>by rw [af.o] at hx;exact zi7 _ _ _ x hx
 have au:Hid (Z.length≤min 4 (t.length+1)):=by
  show Z.length≤_;have:=zm0 (min 4 (t.length+1) - 1) t;rw [← af.o,List.length_map] at this;omega
 have ag:∃ U,w.heap.size=U:=⟨_,rfl⟩
 obtain⟨U,ag⟩:=ag;rw [ag] at V ⊢;have ae:=za ag;clear a5 ao aa ag;by_cases h4:Z.length < 4
 ·have n4:(Z.length:Int) < 4:=by omega
  have HN:Hid (∀ n root,¬ vp t key n root):=fun n root h=>by
   have e:=af.o;rw [zl3 h] at e;have:=congrArg List.length e;simp at this;omega
  generalize min 4 (t.length+1)=N at *
  go_wp2_with (show wpList _ _ _ ({ dst:=none,op:=Op.store _ _ _,type:=_,pos:=_,after:=_,guard:=_ }::_) _ _;refine wpList_store_row rfl 95 _ _ rfl U z9 rfl rfl 95 _ V.o zba rfl zrh ?_);refine bodyPost_ret (v:= .tuple #[.agg z9,.bool false]) (zam Tryz.results51 _ _ U 95 _ (0,0) _ rfl (setRow_heap _ _ _ _ _ _ V.o) Tryz.underlying95 rfl zba _ rfl) rfl ⟨below_setRow ac.o (Nat.le_of_eq ae.o) _,.inr ⟨HN.o,rfl⟩⟩
 ·have a4:Z.length=4:=by have:=au.o;omega
  have a2:min 4 (t.length+1)=4:=by have:=au.o;omega
  rw [a2] at aj ⊢;obtain⟨p0,p1,p2,p3,rfl⟩:∃ p0 p1 p2 p3,Z=[p0,p1,p2,p3]:=by
   match Z,a4 with
   | [p0,p1,p2,p3],_=>exact⟨p0,p1,p2,p3,rfl⟩
  obtain⟨l1,rfl⟩:∃ l:List UInt8,p1=⟨l.toArray⟩:=⟨p1.data.toList,by simp⟩
  obtain⟨l2,rfl⟩:∃ l:List UInt8,p2=⟨l.toArray⟩:=⟨p2.data.toList,by simp⟩
  have A:l1.length≤1048576:=Nat.le_trans (ar.o l1 (by simp)) ht;have D:l2.length≤1048576:=Nat.le_trans (ar.o l2 (by simp)) ht;have ak:Hid (∀ n root,vp t key n root→l1=dec n∧l2=j2 root):=fun n root h=>by
   have e:=af.o;rw [zl3 h] at e;simp only [List.map_cons,List.map_nil,List.cons.injEq] at e;exact⟨e.2.1,e.2.2.1⟩
  have c1:W2.cell? ⟨gl,1,none⟩=some (.string ⟨l1.toArray⟩):=by rw [cell_of_row _ _ _ _ _ _ aj.o];rfl
  have c2:W2.cell? ⟨gl,2,none⟩=some (.string ⟨l2.toArray⟩):=by rw [cell_of_row _ _ _ _ _ _ aj.o];rfl
  have a3:([p0,⟨l1.toArray⟩,⟨l2.toArray⟩,p3]:List ByteArray).length=4:=rfl;clear h4 a4 au ar af a2;rw [a3];clear a3;go_wp2_with fail;refine(zmj l2 (by omega) W2 (HE.o.below ac.o)).mono ?_;rintro r w3 ⟨v,e,rfl,v0,v1,he,hF,al⟩;have ah:Hid (Below w.heap.size w w3):=ac.o.trans (al.mono ac.o.size);have ap:=za ((al.block U (zj5 V.o)).trans V.o);rw [← al.cell (p:=⟨gl,1,none⟩) (zk (p:=⟨gl,1,none⟩) c1)] at c1;have HF:=za hF;have HV:=za (And.intro v0 v1);have a6:=za he;clear al hF v0 v1 he c2 ac V aj;go_wp2_with fail;refine(zt6 l1 (by omega) w3 (HE.o.below ah.o)).mono ?_;rintro r w4 ⟨rfl,aw⟩;have an:Hid (Below w.heap.size w w4):=ah.o.trans (aw.mono ah.o.size);have aq:=za ((aw.block U (zj5 ap.o)).trans ap.o);have aD:=ztk l1;have a0:Hid (∀ n,l1=dec n→n≤9223372036854775807→zfc l1=(n:Int)):=fun n e h=>by rw [e];exact zg2 n h
  generalize zfc l1=R at *
  clear aw ah ap c1;go_wp2_with fail;refine(z28 v w4 HV.o.1 HV.o.2).mono ?_;rintro r Y ⟨rfl,ax⟩;have ay:Hid (Below w.heap.size w Y):=an.o.trans (ax.mono an.o.size);have a7:=za ((ax.block U (zj5 aq.o)).trans aq.o);clear ax an aq;obtain⟨H,A,D,I,J,K,L,Q,hx⟩:=hv8 (zj8 v) rfl;have HX:=za hx;rw [hx,show hv [H,A,D,I,J,K,L,Q]=#[.int .u8 H.toNat,.int .u8 A.toNat,.int .u8 D.toNat,.int .u8 I.toNat,.int .u8 J.toNat,.int .u8 K.toNat,.int .u8 L.toNat,.int .u8 Q.toNat] from rfl];clear hx;have ad:Hid (Below w.heap.size w (Y.alloc (.cells (tv R H A D I J K L Q) 95))):=ay.o.trans ((ze Y _).mono ay.o.size);have W:=za (zc (o:= .cells (tv R H A D I J K L Q) 95) a7.o);have av:=za (heap_alloc_last Y (.cells (tv R H A D I J K L Q) 95));obtain⟨d0,d1,d2,d3,d4,d5,d6,d7,d8⟩:=znf av.o;rcases a6.o with rfl | ⟨te,pe,rfl⟩
  ·by_cases aB:R < 0
   ·have HN:Hid (∀ n root,¬ vp t key n root):=fun n root h=>by
     have:=a0.o n (ak.o n root h).1 h.1;omega
    go_wp2_with (first | (show wpList _ _ _ ({ dst:=none,op:=Op.store _ _ _,type:=_,pos:=_,after:=_,guard:=_ }::_) _ _;refine wpList_store_row rfl 95 _ _ rfl Y.heap.size (tv R H A D I J K L Q) rfl rfl 95 _ (heap_alloc_last _ _) zba rfl (zqq _ _ _ _ _ _ _ _ _) ?_;rw [World.setRow_alloc_new];generalize Y.alloc (.cells (tv R H A D I J K L Q) 95)=W6 at *;generalize Y.heap.size=g9 at *) | (show wpList _ _ _ ({ dst:=none,op:=Op.store _ _ _,type:=_,pos:=_,after:=_,guard:=_ }::_) _ _;refine wpList_store_row rfl 95 _ _ rfl U z9 rfl rfl 95 _ W.o zba rfl zrh ?_));refine bodyPost_ret (v:= .tuple #[.agg z9,.bool false]) (zam Tryz.results51 _ _ U 95 _ (0,0) _ rfl (setRow_heap _ _ _ _ _ _ W.o) Tryz.underlying95 rfl zba _ rfl) rfl ⟨below_setRow ad.o (Nat.le_of_eq ae.o) _,.inr ⟨HN.o,rfl⟩⟩
   ·have n0:¬ R < 0:=aB;go_wp2_with (show wpList _ _ _ ({ dst:=none,op:=Op.store _ _ _,type:=_,pos:=_,after:=_,guard:=_ }::_) _ _;refine wpList_store_row rfl 95 _ _ rfl Y.heap.size (tv R H A D I J K L Q) rfl rfl 95 _ (heap_alloc_last _ _) zba rfl (zqq _ _ _ _ _ _ _ _ _) ?_;rw [World.setRow_alloc_new];generalize Y.alloc (.cells (tv R H A D I J K L Q) 95)=W6 at *;generalize Y.heap.size=g9 at *);refine(zmy R (by omega) (by omega) H A D I J K L Q key hk W6 (HE.o.below ad.o)).mono ?_;rintro r w7 ⟨rfl,am⟩;have az:Hid (Below w.heap.size w w7):=ad.o.trans (am.mono ad.o.size);have ai:=za ((am.block U (zj5 W.o)).trans W.o);obtain⟨f0,f1,f2,f3,f4,f5,f6,f7,f8⟩:=znf ((am.block g9 (zj5 av.o)).trans av.o);clear am d0 d1 d2 d3 d4 d5 d6 d7 d8;have aA:Hid (jr R.toNat [H,A,D,I,J,K,L,Q] key=jr R.toNat [H,A,D,I,J,K,L,Q] key):=rfl;generalize hS:jr R.toNat [H,A,D,I,J,K,L,Q] key=S at *
    have a1:=za hS;clear hS aA;by_cases X:S=t
    ·have aC:(S==t)=true:=by rw [beq_iff_eq];exact X
     have HQ:=za X;clear X;have a8:Hid (vp t key R.toNat [H,A,D,I,J,K,L,Q]):=⟨by omega,rfl,by rw [← HQ.o,← a1.o]⟩
     have a9:Hid (((R.toNat:Nat):Int)=R):=by show _=_;omega
     go_wp2_with (show wpList _ _ _ ({ dst:=none,op:=Op.store _ _ _,type:=_,pos:=_,after:=_,guard:=_ }::_) _ _;refine wpList_store_row rfl 95 _ _ rfl U (tv R H A D I J K L Q) rfl rfl 95 _ ai.o zba rfl (zqq _ _ _ _ _ _ _ _ _) ?_);refine bodyPost_ret (v:= .tuple #[.agg (tv R H A D I J K L Q),.bool true]) (zam Tryz.results51 _ _ U 95 _ (0,0) _ rfl (setRow_heap _ _ _ _ _ _ ai.o) Tryz.underlying95 rfl (z73 _ _ _ _ _ _ _ _ _) _ rfl) rfl ⟨below_setRow az.o (Nat.le_of_eq ae.o) _,.inl ⟨R.toNat,H,A,D,I,J,K,L,Q,a8.o,by rw [a9.o]⟩⟩
    ·have aC:(S==t)=false:=by rw [beq_eq_false_iff_ne];exact X
     have HQ:=za X;clear X;have HN:Hid (∀ n root,¬ vp t key n root):=fun n root h=>by
      have e1:=a0.o n (ak.o n root h).1 h.1;have e2:=(HF.o root h.2.1 (ak.o n root h).2).2;refine HQ.o ?_;rw [← a1.o,← HX.o,e2,e1,Int.toNat_natCast];exact h.2.2.symm
     go_wp2_with (show wpList _ _ _ ({ dst:=none,op:=Op.store _ _ _,type:=_,pos:=_,after:=_,guard:=_ }::_) _ _;refine wpList_store_row rfl 95 _ _ rfl U z9 rfl rfl 95 _ ai.o zba rfl zrh ?_);refine bodyPost_ret (v:= .tuple #[.agg z9,.bool false]) (zam Tryz.results51 _ _ U 95 _ (0,0) _ rfl (setRow_heap _ _ _ _ _ _ ai.o) Tryz.underlying95 rfl zba _ rfl) rfl ⟨below_setRow az.o (Nat.le_of_eq ae.o) _,.inr ⟨HN.o,rfl⟩⟩
  ·have HN:Hid (∀ n root,¬ vp t key n root):=fun n root h=>by
    have:=(HF.o root h.2.1 (ak.o n root h).2).1;simp at this
   go_wp2_with (first | (show wpList _ _ _ ({ dst:=none,op:=Op.store _ _ _,type:=_,pos:=_,after:=_,guard:=_ }::_) _ _;refine wpList_store_row rfl 95 _ _ rfl Y.heap.size (tv R H A D I J K L Q) rfl rfl 95 _ (heap_alloc_last _ _) zba rfl (zqq _ _ _ _ _ _ _ _ _) ?_;rw [World.setRow_alloc_new];generalize Y.alloc (.cells (tv R H A D I J K L Q) 95)=W6 at *;generalize Y.heap.size=g9 at *) | (show wpList _ _ _ ({ dst:=none,op:=Op.store _ _ _,type:=_,pos:=_,after:=_,guard:=_ }::_) _ _;refine wpList_store_row rfl 95 _ _ rfl U z9 rfl rfl 95 _ W.o zba rfl zrh ?_));refine bodyPost_ret (v:= .tuple #[.agg z9,.bool false]) (zam Tryz.results51 _ _ U 95 _ (0,0) _ rfl (setRow_heap _ _ _ _ _ _ W.o) Tryz.underlying95 rfl zba _ rfl) rfl ⟨below_setRow ad.o (Nat.le_of_eq ae.o) _,.inr ⟨HN.o,rfl⟩⟩
end Go.Proofs.YtndkblnpbjffhaaGreatDoor
