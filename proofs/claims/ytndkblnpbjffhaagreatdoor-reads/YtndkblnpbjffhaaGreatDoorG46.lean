import Derived.Test.YtndkblnpbjffhaaGreatDoorG45
set_option maxHeartbeats 4000000
set_option maxRecDepth 100000
open Go.RowKit
namespace Go.Proofs.YtndkblnpbjffhaaGreatDoor
section
attribute [local go_sem ↓] yv yl yy yo yj ym yx yk za2 zah
theorem zxh (cb:Nat)(p:List UInt8)(w:World)(A:w.cell? ⟨cb,2,none⟩=some .nilIface):
  Calls Tryz.prog 50 #[zo cb,txv p] w fun r w'=>r= .returned (.tuple #[.slice none 0 0,.bool false])∧Below w.heap.size w w':=by
 have h:=zk A;have I:∀ o D,((w.alloc o).alloc D).cell? ⟨cb,2,none⟩=some .nilIface:=fun o D=>by
  rw [zl _ _ ⟨cb,2,none⟩ (by simp;exact Nat.lt_succ_of_lt h),zl _ _ ⟨cb,2,none⟩ h];exact A
 unfold zo txv;go_enter_defers Tryz.func50,Tryz.ntmps50;go_wp2_with fail;refine⟨.tuple #[.slice none 0 0,.bool false],?_,rfl,zz w _ _⟩;have E:((w.alloc (.cells #[.slice none 0 0] 100)).alloc (.cells #[.bool false] 4)).cell? ⟨w.heap.size,0,none⟩=some (.slice none 0 0):=(zf (zc (heap_alloc_last w _)) 0 _ rfl).1;have H:((w.alloc (.cells #[.slice none 0 0] 100)).alloc (.cells #[.bool false] 4)).cell? ⟨w.heap.size+1,0,none⟩=some (.bool false):=by
  have:=heap_alloc_last (w.alloc (.cells #[.slice none 0 0] 100)) (.cells #[.bool false] 4);rw [show(w.alloc (.cells #[.slice none 0 0] 100)).heap.size=w.heap.size+1 by simp] at this;exact(zf this 0 _ rfl).1
 simp [results,Tryz.results50,go_sem,E,H]
theorem zuc (w:World):(convert 100 9 (.slice none 0 0)).run Tryz.prog w= .ok (.string ⟨#[]⟩) w:=by kernel_rfl
theorem zw1 (W0:World)(K:Nat→Addr)(cb:Nat)(C:Array Value)(key:List UInt8)(w:World)(hE:Env W0)(hS:ja W0 K)(hb:Below W0.heap.size W0 w)(aj:W0.heap.size≤cb)(ag:key.length≤2097152)(hC:w.heap[cb]?=some (.cells C qh (0,0)))(h0:C[0]?=some (.int .i32 0))(h2:C[2]?=some .nilIface)(h3:C[3]?=some (txv key)):
  Calls Tryz.prog 21 #[zo cb] w fun r w'=>zg (fun b=>b=cb) [qh] w w'∧r= .returned (.tuple #[.slice none 0 0,j4 K 2]):=by
 have HL:=za (zg9 ⟨cb,0,none⟩ w (zf hC 0 _ h0).1 (zf hC 0 _ h0).2);have HT:Hid (zg (fun b=>b=cb) [qh] w (w.setCell ⟨cb,0,none⟩ (.int .i32 1))):=zg.set (O:=fun b=>b=cb) (T:=[qh]) (zg.refl _ _ w) (.inl rfl) hC (by simp) _;have HC:=za (qo hC 0 (.int .i32 1));have HB:Hid (Below W0.heap.size W0 (w.setCell ⟨cb,0,none⟩ (.int .i32 1))):=hb.trans (HT.o.below (fun b e=>by rw [e];exact aj) hb.size);have S:Hid ((C.setIfInBounds 0 (.int .i32 1))[0]?=some (.int .i32 1)∧(C.setIfInBounds 0 (.int .i32 1))[2]?=some .nilIface∧(C.setIfInBounds 0 (.int .i32 1))[3]?=some (txv key)) :=
  ⟨Array.getElem?_setIfInBounds_self_of_lt (Array.getElem?_eq_some_iff.1 h0).1,by rw [Array.getElem?_setIfInBounds_ne (by omega)];exact h2,by rw [Array.getElem?_setIfInBounds_ne (by omega)];exact h3⟩
 have HE:=za hE;have HS:=za hS;have ah:=za ag;clear hE hS hb hC h0 h2 h3 ag;unfold zo;go_enter_defers Tryz.func21,Tryz.ntmps21;go_wp2_with fail;refine HL.o.mono ?_;rintro r w2 ⟨rfl,rfl⟩;clear HL;generalize w.setCell ⟨cb,0,none⟩ (.int .i32 1)=W2 at *
 have Y:=za (zxh cb cpP W2 (zf HC.o 2 _ S.o.2.1).1);unfold zo at Y;go_wp2_with fail;refine Y.o.mono ?_;rintro r A ⟨rfl,U⟩;have Q:=za (HB.o.trans (U.mono HB.o.size));have ai:=za (HT.o.then_below U);have R:=za ((U.block _ (zb HC.o)).trans HC.o);clear U Y HC HT HB;have ak:=zuc;have Z:Hid (∀ X,Below A.heap.size A X→X.cell? ⟨cb,3,none⟩=some (.string ⟨key.toArray⟩)):=fun X hX=>(zf ((hX.block _ (zb R.o)).trans R.o) 3 _ S.o.2.2).1;have ad:Hid (∀ X,Below A.heap.size A X→Calls Tryz.prog 51 #[.string ⟨#[]⟩,.string ⟨key.toArray⟩] X fun r w'=>∃ H E b,r= .returned (.tuple #[.agg (trC H E).toArray,.bool b])∧Below X.heap.size X w'∧E.length=8):=by
  intro X hX;refine(zsk [] key (by simp) ah.o X (HE.o.below (Q.o.trans (hX.mono Q.o.size)))).mono ?_;rintro r w' ⟨hb,H,E,b,L,hn,rfl,al⟩;exact⟨H,E,b,rfl,hb,L⟩
 have ae:Hid (∀(D:World) (H:Nat) (E:List UInt8),Below (A.alloc (.cells #[.int .i64 0,.int .u8 0,.int .u8 0,.int .u8 0,.int .u8 0,.int .u8 0,.int .u8 0,.int .u8 0,.int .u8 0] 95)).drew.heap.size (A.alloc (.cells #[.int .i64 0,.int .u8 0,.int .u8 0,.int .u8 0,.int .u8 0,.int .u8 0,.int .u8 0,.int .u8 0,.int .u8 0] 95)).drew D→E.length=8→(zeg (.pointer (some ⟨A.heap.size,0,none⟩)) (.agg (trC H E).toArray)).run Tryz.prog D= .ok () (D.setCells A.heap.size 0 (trC H E))):=by
  intro D H E hb L;have hz:D.heap[A.heap.size]?=some (.cells (trC 0 xf).toArray 95 (0,0)):=by
   rw [hb.block _ (by show _ < (A.alloc _).heap.size;simp)];exact heap_alloc_last A _
  exact zbz (qw hz) L
 have af:Hid (∀(D:World) (H:Nat) (E:List UInt8),E.length=8→(zeg (.pointer (some ⟨D.heap.size,0,none⟩)) (.agg (trC H E).toArray)).run Tryz.prog (D.alloc (.cells #[.int .i64 0,.int .u8 0,.int .u8 0,.int .u8 0,.int .u8 0,.int .u8 0,.int .u8 0,.int .u8 0,.int .u8 0] 95))= .ok () ((D.alloc (.cells #[.int .i64 0,.int .u8 0,.int .u8 0,.int .u8 0,.int .u8 0,.int .u8 0,.int .u8 0,.int .u8 0,.int .u8 0] 95)).setCells D.heap.size 0 (trC H E))):=by
  intro D H E L;have hz:(D.alloc (.cells #[.int .i64 0,.int .u8 0,.int .u8 0,.int .u8 0,.int .u8 0,.int .u8 0,.int .u8 0,.int .u8 0,.int .u8 0] 95)).heap[D.heap.size]?=some (.cells (trC 0 xf).toArray 95 (0,0)):=heap_alloc_last D _;exact zbz (qw hz) L
 have I:Hid (Below A.heap.size A A.drew):=(Below.refl _ A).drew;have J:Hid (∀ o,Below A.heap.size A (A.alloc o).drew):=fun o=>(ze A o).drew;go_wp2_with fail;go_cut [6,7] from 26 to 34 (fun _ _ wx=>Below A.heap.size A wx)
 case first =>
  go_region_held3 (fun X=>X.cell? ⟨cb,3,none⟩=some (.string ⟨key.toArray⟩)) (first | exact Z.o _ I.o | exact Z.o _ (J.o _) | exact Z.o _ h.o | exact Z.o _ (h.o.alloc h.o.size _) | exact Z.o _ (zr h.o (Nat.le_refl _) _ _) | exact Z.o _ (zr (h.o.alloc h.o.size _) h.o.size _ _)) (first
   | (go_at_call 51;refine(ad.o _ (by first | exact I.o | exact J.o _)).mono ?_;rintro r D ⟨H,E,b,rfl,V,L⟩;have h:Hid (Below A.heap.size A D):=(by first | exact I.o.trans (V.mono I.o.size) | exact(J.o _).trans (V.mono (J.o _).size));(first | (have HQ:=za (ae.o D H E V L)) | (have HQ:=za (af.o D H E L)));have am:=HQ.o;clear V L))
  all_goals (rename_i aa;clear aa)
  all_goals go_wp2_with fail
  all_goals go_meet
  all_goals first
   | exact zr h.o (Nat.le_refl _) _ _
   | exact zr (h.o.alloc h.o.size _) h.o.size _ _
 case rest =>
  obtain⟨X,hX⟩:∃ X,X=wc:=⟨_,rfl⟩
  subst hX;have ac:=za hcut;have W:=za ((hcut.block _ (zb R.o)).trans R.o);clear hcut Z ad ae af I J ak;have HU:=za (za0 ⟨cb,0,none⟩ .returning X.drew (zf W.o 0 _ S.o.1).1 (zf W.o 0 _ S.o.1).2);have qe:X.cell? ⟨0,0,none⟩=some (.iface 344 (.pointer (some (K 2)))):=zb4 (Q.o.trans (ac.o.mono Q.o.size)) HS.o.check;go_wp2_with fail;go_region_held3 (fun w'=>w'.cell? ⟨0,0,none⟩=some (.iface 344 (.pointer (some (K 2))))) (go_keep) (fail);rename_i aa;clear aa;go_wp2_with fail;refine leaves_cons (f:=49) (args:=#[.pointer (some ⟨cb,0,none⟩)]) (by simp) (by simp [go_sem]) ?_;refine HU.o.mono ?_;rintro e u' w9 ⟨rfl,rfl,rfl⟩;simp only [Leaves,settle];refine⟨.tuple #[.slice none 0 0,j4 K 2],by simp [results,Tryz.results21,go_sem,j4],?_,rfl⟩;have L:X.drew.heap[cb]?=some (.cells (C.setIfInBounds 0 (.int .i32 1)) qh (0,0)):=W.o;exact((ai.o.then_below ac.o).then_below (Below.refl _ X).drew).set (.inl rfl) L (by simp) _
end
theorem zm2 (w:World)(g o:Nat)(h n:Nat)(l:List UInt8)(D:l.length=n)(r:w.rangeAt g o (hv l).toList):
  (convert 100 9 (.slice (some ⟨g,o,none⟩) n h)).run Tryz.prog w= .ok (txt l) w:=by
 subst D;refine run_convert_bytes_back w _ _ 5 ⟨g,o,none⟩ h l Tryz.underlying100 Tryz.underlying5 Tryz.underlying9 (fun j A=>?_);rw [Addr.add_mid];exact r j _ (by simp [hv,bv,A])
def zrk (w:World)(g:Nat)(r:List (List UInt8))(k:Nat):Prop:=w.there g 0 (r.length*8)∧∀ j (h:j < r.length),k≤j→w.rangeAt g (j*8) (hv r[j]).toList
theorem zrk.below {w w':World}{g:Nat}{E:List (List UInt8)}{k H:Nat}(h:zrk w g E k)(A:g < H)(r:Below H w w'):zrk w' g E k :=
 ⟨fun j D=>by rw [r.cell (p:=⟨g,0+j,none⟩) A,r.frozen (p:=⟨g,0+j,none⟩) A];exact h.1 j D,fun j D I i v hv=>by rw [r.cell (p:=⟨g,j*8+i,none⟩) A];exact h.2 j D I i v hv⟩
theorem zrk.next {w:World}{g:Nat}{r:List (List UInt8)}{k:Nat}(h:zrk w g r k)(A:List Value)(hv8:A.length=8):zrk (w.setCells g (k*8) A) g r (k+1) :=
 ⟨World.there_setCells h.1 _ _ _,fun j D E=>World.rangeAt_setCells_apart (h.2 j D (by omega)) _ _ _ (.inr (.inr (by rw [hv8];omega)))⟩
theorem zn8 {w:World}{B:Nat}{e:TypeId}{s:Nat}{v:Value}{n:Nat}{xs:List Value}(h:w.ownsRow B e s v n xs)(g:Nat)(L:g < B)(o:Nat)(K:List Value):(w.setCells g o K).ownsRow B e s v n xs:=by
 refine⟨h.1,?_⟩;rcases h.2 with h | ⟨J,A,D,E,H,I,r⟩
 ·exact .inl h
 ·exact .inr ⟨J,A,D,E,H,by rw [vk _ _ _ _ _ (by omega)];exact I,r⟩
theorem zqm {w:World}{B:Nat}{v:Value}{A:List (List UInt8)}(H:∀ p∈A,p.length=8)(h:w.ownsRow B 92 8 v A.length (zlm A)):
  (v= .slice none 0 0∧A.length=0)∨∃ g r,v= .slice (some ⟨g,0,none⟩) A.length r∧B≤g∧g < w.heap.size∧zrk w g A 0:=by
 rcases h.2 with h0 | ⟨g,r,E,rfl,K,D,R,hm,L,Q⟩
 ·exact .inl h0
 ·refine .inr ⟨g,r,rfl,K,xk D,fun j J=>?_,fun i I _ j v hv=>?_⟩
  ·rw [Nat.zero_add];refine⟨?_,by simp [World.frozen?,D]⟩;rw [cell_of_row _ _ _ _ _ _ D];have:j < E.size:=by rw [L];omega
   simp [this]
  ·have J:j < 8:=by
    have:=(List.getElem?_eq_some_iff.1 hv).1;rw [Array.length_toList,qm,H _ (List.getElem_mem I)] at this;exact this
   rw [cell_of_row _ _ _ _ _ _ D];have e:=zy4 A H i j I J;rw [hv,← Q,List.getElem?_take,if_pos (by omega)] at e;simpa using e
def z71:Array Value:=#[.int .u8 1,.int .u8 0,.int .u8 0,.int .u8 0,.int .u8 0,.int .u8 0,.int .u8 0,.int .u8 0]
theorem z01:(Tryz.prog.info? 92).map (·.size)=some z71.size:=by kernel_rfl
theorem z44:z71.all (·.oneCell') =true:=by simp [z71,Value.oneCell']
theorem zg.cells_old {O:Nat→Prop}{T:List Nat}{a w:World}(h:zg O T a w){b:Nat}(D:O b)(E:Tob T a.heap[b]?)(o:Nat)(A:List Value):zg O T a (w.setCells b o A):=by
 obtain⟨I,J,K,L⟩:=zbk b A o w;refine⟨I.trans h.os,J.trans h.tape,K.trans h.output,by rw [L];exact h.size,fun k H=>?_⟩;by_cases r:k=b
 ·subst r;exact .inr ⟨D,E⟩
 ·rw [vk _ _ _ _ _ r];exact h.block k H
theorem zg.more {O:Nat→Prop}{T:List Nat}{a b c:World}(h:zg O T a b)(r:Below a.heap.size b c):zg O T a c :=
 ⟨r.os.trans h.os,r.tape.trans h.tape,r.output.trans h.output,Nat.le_trans h.size r.size,fun k A=>by rw [r.block k A];exact h.block k A⟩
theorem zor {w:World}{B:Nat}{e:TypeId}{s:Nat}{v:Value}{n:Nat}{xs:List Value}(h:w.ownsRow B e s v n xs){k:Nat}(A:v.ownBlock=some k):∃ c x,w.heap[k]?=some (.cells c e x):=by
 rcases h.2 with ⟨rfl,_⟩ | ⟨g,D,r,rfl,-,E,-⟩
 ·simp [Value.ownBlock] at A
 ·simp only [Value.ownBlock,Option.some.injEq] at A;subst A;exact⟨r,_,E⟩
theorem zfw (B:Nat)(v:Value)(A:List (List UInt8))(w:World)(hn:A.length≤1000000)(h8:∀ p∈A,p.length=8)(h:w.ownsRow B 92 8 v A.length (zlm A)):
  Calls Tryz.prog 22 #[v] w fun r w'=>∃ x,r= .returned x∧zg (fun k=>v.ownBlock=some k) [92] w w'∧w'.ownsRow w.heap.size 9 1 x A.length (A.map txt):=by
 obtain⟨i,hi,Y⟩:=Option.map_eq_some_iff.1 zf6;obtain⟨Z,aa,ac⟩:i.zero=some (.string ⟨#[]⟩)∧i.size=1∧i.bytes=16:=by simpa using Y
 clear Y;have HI:=za hi;have HZ:=za (And.intro Z (And.intro aa ac));clear hi Z aa ac;have Hc:=za (zqm h8 h);have H8:=za h8;have ag:Hid (∀ k,v.ownBlock=some k→Tob [92] w.heap[k]?):=fun k hk=>by
  obtain⟨c,x,e⟩:=zor h hk;exact .inl ⟨c,_,x,e,by simp⟩
 obtain⟨a,I,rfl⟩:∃ a I,v= .slice a A.length I:=by
  rcases Hc.o with ⟨rfl,h0⟩ | ⟨g,I,rfl,-⟩
  ·exact⟨_,_,by rw [h0]⟩
  ·exact⟨_,_,rfl⟩
 clear h h8;go_enter Tryz.func22,Tryz.ntmps22;go_wp2_with fail;go_loopw [3,7] (fun t i wr=>∃ k:Nat,k≤A.length∧i= .int .i64 k∧zg (fun k=>Value.ownBlock (.slice a A.length I)=some k) [92] w wr∧wr.ownsRow w.heap.size 9 1 t k ((A.take k).map txt)∧(∀ g J,a=some ⟨g,J,none⟩→J=0∧B≤g∧g < w.heap.size∧zrk wr g A k)) (fun _ i _=>A.length - (intOf i).toNat)
 case atStart =>
  refine⟨0,Nat.zero_le _,rfl,zg.refl _ _ _,⟨rfl,.inl ⟨rfl,rfl⟩⟩,fun g J e=>?_⟩;rcases Hc.o with ⟨K,h0⟩ | ⟨g',V,K,r⟩
  ·simp [e] at K
  ·simp [e] at K;obtain⟨⟨rfl,rfl⟩,_⟩:=K;exact⟨rfl,r⟩
 case round =>
  obtain⟨k,hk,rfl,W,E,D⟩:=hrel;have HB:=za W;have HO:=za E;have HL:=za D;clear W E D;by_cases L:k < A.length
  ·obtain⟨g,rfl⟩:∃ g,a=some ⟨g,0,none⟩:=by
    rcases Hc.o with ⟨_,h0⟩ | ⟨g',V,K,r⟩
    ·omega
    ·simp at K;exact⟨g',K.1⟩
   obtain⟨-,gB,gH,D⟩:=HL.o g 0 rfl;have HG:=za (And.intro gB gH);have S:=za D;clear D gB gH HL;have hs:(A.take (k+1)).map txt=(A.take k).map txt++[txt A[k]]:=by rw [List.take_succ_eq_append_getElem L,List.map_append];rfl
   have Hs:=za hs;clear hs;have ai:=zm2 wr g (k*8) 8 8 A[k] (H8.o _ (List.getElem_mem L)) (S.o.2 k L (Nat.le_refl _));generalize A[k]=p at *
   unfold txt at ai;have Q:Hid (w.heap.size≤wr.heap.size):=HB.o.size;have ae:Hid (∀ o,(wr.alloc o).ownsRow w.heap.size 9 1 u3 k ((A.take k).map txt)):=fun o=>zy HO.o (ze wr o);go_wp2_with (first
    | (at_builtin;refine wpList_append_lies _ rfl _ _ _ rfl w.heap.size 9 i (.string ⟨#[]⟩) 1 16 Tryz.underlying29 HI.o HZ.o.1 HZ.o.2.1 HZ.o.2.2 rfl (by omega) u3 k _ rfl (ae.o _) ⟨wr.heap.size,0,none⟩ 1 1 [.string ⟨p.toArray⟩] rfl rfl (World.news_of_block (heap_alloc_last _ _)) (by simp [Value.oneCell']) (by omega) (by unfold maxLen;omega) (by omega) (by have:=Q.out;simp;omega) (wr.heap.size+1) (by simp) ?_;intro g' V w2 E X ah aj;have R:Hid (Below w.heap.size wr w2):=((ze wr _).mono Q.out).grown X (by have:=Q.out;simp;omega) (qf HO.o);have af:=za E;have U:Hid (zrk w2 g A k):=S.o.below HG.o.2 R.o;clear X ah aj E)
    | (show wpList _ _ _ ({ dst:=none,op:=Op.store _ _ _,type:=_,pos:=_,after:=_,guard:=_ }::_) _ _;refine wpList_store_mid rfl 92 _ _ rfl g (k*8) z71 rfl rfl (by intro j hj;have ak:j < 8:=hj;have:=U.o.1 (k*8+j) (by omega);rw [Nat.zero_add] at this;exact this) z01 z44 ?_))
   have ad:=za (HB.o.more R.o);go_roundw
   case rel =>
    refine⟨k+1,by omega,by go_num,ad.o.cells_old rfl (ag.o g rfl) _ _,by rw [Hs.o];exact zn8 af.o g HG.o.2 _ _,fun g' J e=>?_⟩;simp only [Option.some.injEq,Addr.mk.injEq] at e;obtain⟨rfl,rfl,-⟩:=e;exact⟨rfl,HG.o.1,HG.o.2,U.o.next _ rfl⟩
   case measure=>simp [intOf];omega
  ·go_wp2_with fail;go_ret;refine⟨_,rfl,HB.o,?_⟩;have:=HO.o;rw [List.take_of_length_le (by omega)] at this;rw [show A.length=k by omega];exact this
def zej (G:Nat→Prop)(T:List Nat)(w:World):Prop:=∀ k,G k→∃ c t x,w.heap[k]?=some (.cells c t x)∧t∈T
theorem zg.same {G:Nat→Prop}{T T':List Nat}{w w':World}(H:zg G T w w')(r:zej G T' w){k:Nat}{o:Obj}(h:w.heap[k]?=some o)(E:∀ c t x,o= .cells c t x→t∉T'):w'.heap[k]?=some o:=by
 rcases H.block k (zb h) with e | ⟨D,-⟩
 ·rw [e];exact h
 ·obtain⟨c,t,x,e,A⟩:=r k D;rw [h] at e;simp only [Option.some.injEq] at e;exact absurd A (E c t x e)
theorem zbd {T:List Nat}{cs:Array Value}{e:TypeId}{y:Nat×Nat}(h:e∉T):∀ c t x,Obj.cells cs e y= .cells c t x→t∉T:=by
 intro c t x r;simp only [Obj.cells.injEq] at r;rw [← r.2.1];exact h
theorem jq.past {G:Nat→Prop}{T T':List Nat}{w w':World}{r:Nat}{l:Ks}(h:jq w r l)(E:zg G T w w')(D:zej G T' w):jq w' r l:=by
 obtain⟨es,c,e⟩:=h.isMap;exact h.same ((E.same D e (fun c t x A=>by simp at A)).trans e.symm)
theorem zab.past {G O:Nat→Prop}{T T':List Nat}{w w':World}{D:Nat}{room:Int}{L:LsN}(h:zab w O D room L)(A:zg G T w w')(r:zej G T' w)(h1:MeN∉T')(h2:LkN∉T'):zab w' O D room L:=by
 obtain⟨H,E,nx,pv,h⟩:=h;exact⟨H,E,nx,pv,h.own,A.same r h.mem (zbd h1),⟨A.same r h.ring.ends (zbd h2),fun x I=>A.same r (h.ring.link x I) (zbd h2),h.ring.circ⟩,h.map.past A r,h.ok⟩
theorem zdh.past {G O:Nat→Prop}{T T':List Nat}{w w':World}{D:Nat}{room:Int}{L:LsP}(h:zdh w O D room L)(A:zg G T w w')(r:zej G T' w)(h1:MeP∉T')(h2:LkP∉T'):zdh w' O D room L:=by
 obtain⟨H,E,nx,pv,h⟩:=h;exact⟨H,E,nx,pv,h.own,A.same r h.mem (zbd h1),⟨A.same r h.ring.ends (zbd h2),fun x I=>A.same r (h.ring.link x I) (zbd h2),h.ring.circ,h.ring.len⟩,h.map.past A r,h.ok⟩
theorem zhk.past {G r:Nat→Prop}{T T':List Nat}{w w':World}{D:Nat}{room:Int}{E:Mm}(h:zhk w r D room E)(A:zg G T w w')(L:zej G T' w)(h1:MeP∉T')(h2:LkP∉T')(K:5∉T):zhk w' r D room E:=by
 obtain⟨H,I,J⟩:=h;exact⟨H,I.past A L h1 h2,J.mono fun a _ b hr=>hr.turn A K⟩
theorem Pv.past {I w w':World}{O A r G:Nat→Prop}{T T':List Nat}{cb K H nm:Nat}{c:Cl}(h:Pv I w O A r cb K H nm c)(E:zg G T w w')(J:zej G T' w)(h1:MeN∉T')(h2:LkN∉T')(L:qh∉T')(S:zhk w' r H c.room c.proved):Pv I w' O A r cb K H nm c:=by
 obtain⟨C,R,Q⟩:=h.cli;exact⟨fun b D=>⟨(h.own b D).1,Nat.lt_of_lt_of_le (h.own b D).2.1 E.size,(h.own b D).2.2⟩,h.sep,h.cbA,h.cbP,⟨C,E.same J R (zbd L),Q⟩,S,h.nee.past E J h1 h2⟩
theorem Pv.other {I w w':World}{O A E N:Nat→Prop}{T:List Nat}{cb J K nm:Nat}{c:Cl}(h:Pv I w O A E cb J K nm c)(D:zg N T w w')(H:∀ b,A b∨E b∨b=cb→¬ N b)(hu:5∉T):Pv I w' O A E cb J K nm c:=by
 obtain⟨C,Q,L⟩:=h.cli;exact⟨fun b r=>⟨(h.own b r).1,Nat.lt_of_lt_of_le (h.own b r).2.1 D.size,(h.own b r).2.2⟩,h.sep,h.cbA,h.cbP,⟨C,D.stay Q (H cb (.inr (.inr rfl))),L⟩,h.prv.stay D (fun b r=>H b (.inr (.inl r))) hu (fun _ h=>h),h.nee.stay D (fun b r=>H b (.inl r)) (fun _ h=>h)⟩
theorem Pv.grow {E w:World}{O O' A r:Nat→Prop}{cb H I nm:Nat}{c:Cl}(h:Pv E w O A r cb H I nm c)(J:∀ b,A b∨r b∨b=cb→¬ O' b):Pv E w O' A r cb H I nm c :=
 ⟨fun b D=>⟨(h.own b D).1,(h.own b D).2.1,J b D⟩,h.sep,h.cbA,h.cbP,h.cli,h.prv,h.nee⟩
theorem Sh.past {A w w':World}{O G:Nat→Prop}{T:List Nat}{H D:Nat}{d:Dk}{n:Nt}(h:Sh A w O H D d n)(r:zg G T w w')(K:∀ k,G k→A.heap.size≤k)(h1:64∉T)(h2:51∉T)(I:76∉T)(J:378∉T)(h5:3∉T):Sh A w' O H D d n :=
 ⟨h.base.trans (r.below K h.base.size),fun b E=>⟨(h.own b E).1,Nat.lt_of_lt_of_le (h.own b E).2 r.size⟩,h.disk.stay r h1 h2,h.net.turn r I J h5,h.st⟩
theorem zki {w:World}{B:Nat}{e:TypeId}{s:Nat}{v:Value}{n:Nat}{xs:List Value}(h:w.ownsRow B e s v n xs):zej (fun k=>v.ownBlock=some k) [e] w:=by
 intro k r;obtain⟨c,x,e⟩:=zor h r;exact⟨c,_,x,e,by simp⟩
theorem ziw {w:World}{B:Nat}{e:TypeId}{s:Nat}{v:Value}{n:Nat}{xs:List Value}(h:w.ownsRow B e s v n xs):∀ k,v.ownBlock=some k→B≤k:=by
 intro k r;rcases h.2 with ⟨rfl,_⟩ | ⟨g,A,D,rfl,E,-⟩
 ·simp [Value.ownBlock] at r
 ·simp only [Value.ownBlock,Option.some.injEq] at r;omega
theorem ve.more {A r:Nat→Prop}{w D E:World}(h:ve A r w D)(I:D.heap.size≤E.heap.size):ve A r w E:=⟨h.1,fun b H=>(h.2 b H).imp id (fun h=>⟨h.1,by omega⟩)⟩
theorem CR.past {H w J K:World}{O A L G:Nat→Prop}{T T':List Nat}{cb W Q I nm:Nat}{d:Dk}{c':Cl}{V:Nt}{P:(Nat→Prop)→Prop}(h:CR H w J O A L cb W Q I nm d c' V P)(D:zg G T J K)(R:zej G T' J)(S:∀ k,G k→w.heap.size≤k)(hW:H.heap.size≤w.heap.size)(h1:MeN∉T')(h2:LkN∉T')(Y:qh∉T')(Z:MeP∉T')(h5:LkP∉T')
  (q1:64∉T) (q2:51∉T) (q3:76∉T) (q4:378∉T) (q5:3∉T) (hu:5∉T∨∀ r,P r→zhk K r I c'.room c'.proved) {P':(Nat→Prop)→Prop} (hP:∀ r,P r→P' r):CR H w K O A L cb W Q I nm d c' V P':=by
 obtain⟨X,r,hA,hO,E,U⟩:=h.rest;refine⟨h.turn.apart D S,⟨X,r,hA.more D.size,hO.more D.size,E.past D R h1 h2 Y ?_,hP _ U⟩,h.sh.past D (fun k hk=>by have:=S k hk;omega) q1 q2 q3 q4 q5⟩;rcases hu with hu | hu
 ·exact E.prv.past D R Z h5 hu
 ·exact hu r U
theorem CR.weak {H w Q:World}{O A E:Nat→Prop}{cb K I L nm:Nat}{d:Dk}{c':Cl}{J:Nt}{P P':(Nat→Prop)→Prop}(h:CR H w Q O A E cb K I L nm d c' J P)(V:∀ r,P r→P' r):CR H w Q O A E cb K I L nm d c' J P':=by
 obtain⟨R,r,S,U,D,W⟩:=h.rest;exact⟨h.turn,⟨R,r,S,U,D,V _ W⟩,h.sh⟩
theorem CR.below {r w D L:World}{O A E:Nat→Prop}{cb J H K nm:Nat}{d:Dk}{c':Cl}{I:Nt}{P:(Nat→Prop)→Prop}(h:CR r w D O A E cb J H K nm d c' I P)(Q:r.heap.size≤w.heap.size)(R:Below D.heap.size D L):CR r w L O A E cb J H K nm d c' I P :=
 h.past (G:=fun _=>False) (T:=[]) (T':=[]) (.of_below R) (fun _ h=>h.elim) (fun _ h=>h.elim) Q (by simp) (by simp) (by simp) (by simp) (by simp) (by simp) (by simp) (by simp) (by simp) (by simp) (.inl (by simp)) (fun _ h=>h)
end Go.Proofs.YtndkblnpbjffhaaGreatDoor
