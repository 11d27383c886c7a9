import Derived.Test.YtndkblnpbjffhaaGreatDoorG21
set_option maxHeartbeats 2000000
set_option maxRecDepth 100000
open Go.RowKit
namespace Go.Proofs.YtndkblnpbjffhaaGreatDoor
def zyh (w:World)(v:Value)(r:List (List UInt8)):Prop:=∃ a A,v= .slice a r.length A∧∀ j (h:j < r.length),∃ b D,a=some ⟨b,D,none⟩∧r.length≤A∧∃ g c,w.cell? ⟨b,D+j,none⟩=some (.slice (some ⟨g,0,none⟩) r[j].length c)∧∀ i (E:i < r[j].length),w.cell? ⟨g,i,none⟩=some (bv r[j][i])
theorem zod (v:Value)(A:List (List UInt8))(w:World)(hn:A.length≤1000000)(hl:∀ l∈A,l.length≤maxLen)(h:zyh w v A):
  Calls Tryz.prog 231 #[v] w fun r w'=>∃ x,r= .returned x∧Below w.heap.size w w'∧(okB A=true→OB w' w.heap.size x (za3 A))∧(okB A=false→x= .slice none 0 0):=by
 obtain⟨i,hi,ad⟩:=Option.map_eq_some_iff.1 zmd;obtain⟨ai,aj,ak⟩:i.zero=some (.int .u8 0)∧i.size=1∧i.bytes=1:=by simpa using ad
 clear ad;have HI:=za hi;have U:=za (And.intro ai (And.intro aj ak));clear hi ai aj ak;obtain⟨a,az,rfl,hc⟩:=h;have Hc:=za hc;have Hl:=za hl;clear hc hl;by_cases au:4 < A.length
 ·have HR:=za (zx5 au);go_enter Tryz.func231,Tryz.ntmps231;go_wp2;go_ret;exact⟨_,rfl,Below.refl _ _,fun h=>by rw [HR.o] at h;simp at h,fun _=>rfl⟩
 ·go_enter Tryz.func231,Tryz.ntmps231;go_wp2_with fail;go_loopw [3,11] (fun t i wr=>∃ k:Nat,k≤A.length∧i= .int .i64 k∧Below w.heap.size w wr∧wr.ownsRow w.heap.size 5 1 t (za3 (A.take k)).length ((za3 (A.take k)).map bv)∧(k=0→t= .slice none 0 0)∧(0 < k→t≠ .slice none 0 0)∧∀ j (K:j < A.length),j < k→A[j].length≤20) (fun _ i _=>A.length - (intOf i).toNat)
  case atStart=>exact⟨0,Nat.zero_le _,rfl,Below.refl _ _,⟨rfl,.inl ⟨rfl,rfl⟩⟩,fun _=>rfl,fun h=>absurd h (Nat.lt_irrefl _),fun j _ K=>absurd K (Nat.not_lt_zero _)⟩
  case round =>
   obtain⟨k,hk,rfl,aa,D,H,ag,Z⟩:=hrel;have V:=za aa;have HO:=za D;have HN:=za (And.intro H ag);have HA:=za Z;clear aa D H ag Z;by_cases L:k < A.length
   ·obtain⟨b,ay,rfl,a0,g,c,hx,R⟩:=Hc.o k L;have ac:0 < A[k].length→g < w.heap.size:=fun h0=>zk (p:=⟨g,0,none⟩) (R 0 h0);rw [← V.o.cell (zk (p:=⟨b,ay+k,none⟩) hx)] at hx;have HS:=za R;have HG:=za ac;have hm:=Hl.o A[k] (List.getElem_mem L);unfold maxLen at hm;clear R ac;by_cases h20:20 < A[k].length
    ·have HR:=za (zr8 k L h20);generalize A[k]=l at *
     go_wp2;go_ret;exact⟨_,rfl,V.o,fun h=>by rw [HR.o] at h;simp at h,fun _=>rfl⟩
    ·have ah:=z3c A k L (by omega);have Y:=za ah;have W:=za (zs7 (A.take k) (fun l hl=>by
      obtain⟨j,K,rfl⟩:=List.getElem_of_mem hl;have av:j < k:=by simp at K;omega
      rw [List.getElem_take];exact HA.o j (by omega) av))
     have ae:(A.take k).length=k:=by rw [List.length_take];omega
     have al:Hid (∀ j (K:j < A.length),j < k+1→A[j].length≤20):=fun j aw a1=>by
      rcases Nat.lt_or_ge j k with h | h
      ·exact HA.o j aw h
      ·obtain rfl:j=k:=by omega
       omega
     clear ah HA;have a4:IntKind.u8.wrap (A[k].length:Int)=(A[k].length:Int):=by
      rw [IntKind.wrap_u8];omega
     generalize A[k]=l at *
     generalize za3 (A.take k)=m at *
     have af:m.length≤84:=by have:=W.o;rw [ae] at this;omega
     have J:=za af;have a3:l.length≤20:=by omega
     clear ae W af hm;have S:Hid (w.heap.size≤wr.heap.size):=V.o.size;have ao:Hid (∀ o,(wr.alloc o).ownsRow w.heap.size 5 1 u3 m.length (m.map bv)):=fun o=>zy HO.o (ze wr o);go_wp2_with (first
      | (at_builtin;refine wpList_append_lies _ rfl _ _ _ rfl w.heap.size 5 i (.int .u8 0) 1 1 Tryz.underlying100 HI.o U.o.1 U.o.2.1 U.o.2.2 rfl (by omega) u3 m.length _ rfl (ao.o _) ⟨wr.heap.size,0,none⟩ 1 1 [.int .u8 (l.length:Int)] rfl rfl (World.news_of_block (heap_alloc_last _ _)) (by simp [Value.oneCell']) (by omega) (by have:=J.o;unfold maxLen;omega) (by have:=J.o;omega) (by have:=S.out;simp;omega) (wr.heap.size+1) (by simp) ?_;intro g' aq w2 D E ar ax;have I:Hid (Below w.heap.size w w2):=(V.o.trans ((ze wr _).mono S.out)).grown E (by have:=S.out;simp;omega) (qf HO.o);have X:=za D;clear E ar ax D)
      | (at_builtin;(refine wpList_append_own _ rfl _ _ _ rfl w.heap.size 5 i (.int .u8 0) 1 1 Tryz.underlying100 HI.o U.o.1 U.o.2.1 U.o.2.2 rfl (by omega) (.slice (some ⟨g',0,none⟩) (m.length+1) aq) (m.length+1) (m.map bv++[.int .u8 (l.length:Int)]) rfl X.o ⟨g,0,none⟩ l.length c (l.map bv) rfl (by simp) (fun j u K=>z0a HS.o HG.o I.o j u K) (z6k l) (by have:=J.o;unfold maxLen;omega) (by have:=J.o;omega) I.o.size ?_;intro v3 w3 D E H;have am:Hid (Below w.heap.size w w3):=I.o.grown E (by have:=I.o.size;omega) (qf X.o);have ap:=za D;have an:Hid (v3≠ .slice none 0 0):=(fun e=>absurd (H.1 e).1 (by simp));clear E H D)))
     go_roundw
     case rel=>exact⟨k+1,by omega,by go_num,am.o,by rw [Y.o.1,Y.o.2];exact ap.o,fun h=>by omega,fun _=>an.o,al.o⟩
     case measure=>simp [intOf];omega
   ·go_wp2_with fail;go_ret;have a2:A.length=k:=by omega
    refine⟨_,rfl,V.o,fun ho=>?_,fun ho=>?_⟩
    ·have:=HO.o;rw [List.take_of_length_le (by omega)] at this;refine⟨this,HN.o.2 ?_⟩;rcases Nat.eq_zero_or_pos k with h | h
     ·rw [zm4 (by omega)] at ho;simp at ho
     ·exact h
    ·refine HN.o.1 ?_;rcases Nat.eq_zero_or_pos k with h | h
     ·exact h
     ·rw [zqi (by omega) (by omega) (fun j K=>HA.o j K (by omega))] at ho;simp at ho
theorem zse {w:World}{B g A:Nat}{es:List (List UInt8)}(h:OBs w B (.slice (some ⟨g,0,none⟩) es.length A) es)(i n:Nat)(V:i+n≤es.length)(a:Option Addr)(c:Nat)(L:0 < n→a=some ⟨g,i,none⟩)(Q:n≤c):zyh w (.slice a n c) ((es.drop i).take n):=by
 obtain⟨xs,S,U⟩:=h;have E:((es.drop i).take n).length=n:=by simp;omega
 refine⟨a,c,by rw [E],fun j R=>?_⟩;rw [E] at R;obtain⟨x,e,H⟩:=U (i+j) (by omega);obtain⟨K,J,rfl,-,-,D⟩:=H.form;have r:=S.cells rfl _ _ e;rw [Addr.add_mid,Nat.zero_add] at r;refine⟨g,i,L (by omega),by rw [E];exact Q,K,J,?_,?_⟩
 ·rw [List.getElem_take,List.getElem_drop];exact r
 ·intro q I;simp only [List.getElem_take,List.getElem_drop] at I ⊢;exact D q I
theorem OB.bq {w:World}{B:Nat}{x:Value}{l:List UInt8}(h:OB w B x l):Bq w x l:=by
 rcases h.1.2 with h0 | ⟨g,r,A,rfl,J,D,H,hm,K,I⟩
 ·exact absurd h0.1 h.2
 ·refine⟨g,r,A,(0,0),rfl,H,D,fun i E=>?_⟩;have e:(l.map bv)[i]?=some (bv l[i]):=by simp [E]
  rw [← I,List.getElem?_take,if_pos (by omega)] at e;simpa using e
theorem z4a (es:List (List UInt8))(i n:Nat)(h:i+n≤es.length):((List.range' i n).map (xo es (-1))).flatten=za3 ((es.drop i).take n):=by
 induction n with
 | zero=>simp [za3]
 | succ n ih =>
  have r:=ih (by omega);rw [List.range'_1_concat,List.map_append,List.flatten_append,r];have e:(es.drop i).take (n+1)=(es.drop i).take n++[es[i+n]]:=by
   rw [List.take_add_one,List.getElem?_drop,List.getElem?_eq_getElem (by omega)];rfl
  rw [e,zdb,zho];congr 1;simp [xo,List.getElem?_eq_getElem (show i+n < es.length by omega)]
theorem z2h (es:List (List UInt8))(i n:Nat)(h:i+n≤es.length)(h1:1≤n)(r:n≤4)(h20:∀ e∈es,e.length≤20):okB ((es.drop i).take n)=true:=by
 refine zqi (by simp;omega) (by simp;omega) (fun j A=>?_);rw [List.getElem_take,List.getElem_drop];exact h20 _ (List.getElem_mem _)
theorem z1i (O:Nat→Prop)(W lb:Nat)(l:Lg)(w:World)(he:l.es.length≤1000000)(h20:∀ e∈l.es,e.length≤20)(h:qz w O W lb l)(i n:Nat)(E:i+n≤l.es.length)(h1:1≤n)(Y:n≤4):
  Calls Tryz.prog 216 #[.pointer (some ⟨lb,0,none⟩),.int .i64 (-1),.int .i64 i,.int .i64 ((i+n:Nat):Int)] w fun r w'=>∃ v,r= .returned v∧Below w.heap.size w w'∧Bq w' v (((List.range' i n).map (xo l.es (-1))).flatten):=by
 obtain⟨a,D,V,A,-⟩:=lok h;obtain⟨-,-,⟨c2,X⟩,-⟩:=zmq V;obtain⟨g,rfl,-⟩:=zpu A (by omega);have Z:=zx4 A;have Q:=za A;have K:=za h20;have R:=za (z4a l.es i n E);have I:=za (z2h l.es i n E h1 Y h20);clear h V A h20 X;have aa:¬ D=i:=by omega
 have ac:(i:Int)≤((i+n:Nat):Int):=by omega
 have ad:((i+n:Nat):Int)≤(D:Int):=by omega
 go_enter Tryz.func216,Tryz.ntmps216;go_wp2_with fail;refine(zod (.slice (some ⟨g,i,none⟩) n (D - i)) ((l.es.drop i).take n) w (by simp;omega) (fun e U=>Nat.le_trans (K.o e (List.mem_of_mem_drop (List.mem_of_mem_take U))) (by unfold maxLen;omega)) (zse Q.o i n E _ _ (fun _=>rfl) (by omega))).mono ?_;rintro r w1 ⟨x,rfl,J,H,-⟩;have L:=za J;have S:=za (H I.o);obtain⟨gx,cx,nx,rfl⟩:=zhg (H I.o);clear J H;go_wp2_with fail;go_ret;exact⟨_,rfl,L.o,by rw [R.o];exact S.o.bq⟩
theorem z9b {w:World}{g:Nat}{r A D E H I J K:Value}{t:TypeId}{L:Nat×Nat}(h:w.heap[g]?=some (.cells #[r,A,D,E,H,I,J,K] t L)):
  w.cell? ⟨g,0,none⟩=some r∧w.cell? ⟨g,1,none⟩=some A∧w.cell? ⟨g,2,none⟩=some D∧w.cell? ⟨g,3,none⟩=some E∧w.cell? ⟨g,4,none⟩=some H∧w.cell? ⟨g,5,none⟩=some I∧w.cell? ⟨g,6,none⟩=some J∧w.cell? ⟨g,7,none⟩=some K:=by
 refine⟨?_,?_,?_,?_,?_,?_,?_,?_⟩<;>rw [cell_of_row _ _ _ _ _ _ h]<;>rfl
theorem z14 {w:World}{b:Nat}{t:TypeId}{X W V U R Q K J:Value}(r A D E H I L S:Value)(h:w.heap[b]?=some (.cells #[X,W,V,U,R,Q,K,J] t (0,0))):((((((((w.setCell ⟨b,0,none⟩ r).setCell ⟨b,1,none⟩ A).setCell ⟨b,2,none⟩ D).setCell ⟨b,3,none⟩ E).setCell ⟨b,4,none⟩ H).setCell ⟨b,5,none⟩ I).setCell ⟨b,6,none⟩ L).setCell ⟨b,7,none⟩ S).heap[b]?=some (.cells #[r,A,D,E,H,I,L,S] t (0,0)):=by
 have Y:(w.setCell ⟨b,0,none⟩ r).heap[b]?=some (.cells #[r,W,V,U,R,Q,K,J] t (0,0)):=qo h 0 r;have Z:((w.setCell ⟨b,0,none⟩ r).setCell ⟨b,1,none⟩ A).heap[b]?=some (.cells #[r,A,V,U,R,Q,K,J] t (0,0)):=qo Y 1 A;have e2:(((w.setCell ⟨b,0,none⟩ r).setCell ⟨b,1,none⟩ A).setCell ⟨b,2,none⟩ D).heap[b]?=some (.cells #[r,A,D,U,R,Q,K,J] t (0,0)):=qo Z 2 D;have e3:((((w.setCell ⟨b,0,none⟩ r).setCell ⟨b,1,none⟩ A).setCell ⟨b,2,none⟩ D).setCell ⟨b,3,none⟩ E).heap[b]?=some (.cells #[r,A,D,E,R,Q,K,J] t (0,0)):=qo e2 3 E;have e4:(((((w.setCell ⟨b,0,none⟩ r).setCell ⟨b,1,none⟩ A).setCell ⟨b,2,none⟩ D).setCell ⟨b,3,none⟩ E).setCell ⟨b,4,none⟩ H).heap[b]?=some (.cells #[r,A,D,E,H,Q,K,J] t (0,0)):=qo e3 4 H;have e5:((((((w.setCell ⟨b,0,none⟩ r).setCell ⟨b,1,none⟩ A).setCell ⟨b,2,none⟩ D).setCell ⟨b,3,none⟩ E).setCell ⟨b,4,none⟩ H).setCell ⟨b,5,none⟩ I).heap[b]?=some (.cells #[r,A,D,E,H,I,K,J] t (0,0)):=qo e4 5 I;have e6:(((((((w.setCell ⟨b,0,none⟩ r).setCell ⟨b,1,none⟩ A).setCell ⟨b,2,none⟩ D).setCell ⟨b,3,none⟩ E).setCell ⟨b,4,none⟩ H).setCell ⟨b,5,none⟩ I).setCell ⟨b,6,none⟩ L).heap[b]?=some (.cells #[r,A,D,E,H,I,L,J] t (0,0)):=qo e5 6 L;have e7:((((((((w.setCell ⟨b,0,none⟩ r).setCell ⟨b,1,none⟩ A).setCell ⟨b,2,none⟩ D).setCell ⟨b,3,none⟩ E).setCell ⟨b,4,none⟩ H).setCell ⟨b,5,none⟩ I).setCell ⟨b,6,none⟩ L).setCell ⟨b,7,none⟩ S).heap[b]?=some (.cells #[r,A,D,E,H,I,L,S] t (0,0)):=qo e6 7 S;exact e7
theorem zr5 {B b:Nat}{a w:World}(h:Below B a w)(r:B≤b)(A D E H I J K L:Value):Below B a ((((((((w.setCell ⟨b,0,none⟩ A).setCell ⟨b,1,none⟩ D).setCell ⟨b,2,none⟩ E).setCell ⟨b,3,none⟩ H).setCell ⟨b,4,none⟩ I).setCell ⟨b,5,none⟩ J).setCell ⟨b,6,none⟩ K).setCell ⟨b,7,none⟩ L) :=
 h|>.setCell (p:=⟨b,0,none⟩) r A|>.setCell (p:=⟨b,1,none⟩) r D|>.setCell (p:=⟨b,2,none⟩) r E|>.setCell (p:=⟨b,3,none⟩) r H|>.setCell (p:=⟨b,4,none⟩) r I|>.setCell (p:=⟨b,5,none⟩) r J|>.setCell (p:=⟨b,6,none⟩) r K|>.setCell (p:=⟨b,7,none⟩) r L
theorem zk5 (l:Int)(h1:0≤l)(h2:l≤20)(x:Int)(D:0≤x)(P:Nat)(h:P=4 ^ l.toNat)(A:x.toNat*P≤1000000)(w:World):
  Calls Tryz.prog 232 #[.int .i64 l,.int .i64 x] w fun r w'=>r= .returned (.int .i64 ((x.toNat*P:Nat):Int))∧w'=w:=by
 subst h;have:=zs6 l h1 h2 x.toNat A w;rw [Int.toNat_of_nonneg D] at this;exact this
theorem z0m (O:Nat→Prop)(db lb:Nat)(l:Lg)(w:World)(he:l.es.length≤1000000)(h20:∀ e∈l.es,e.length≤20)(h:qz w O db lb l)(L:Nat)(hL:L≤20)(i n:Nat)(aH:(i+n)*4 ^ L≤l.es.length)(h1:1≤n)(h4:n≤4):
  Calls Tryz.prog 216 #[.pointer (some ⟨lb,0,none⟩),.int .i64 L,.int .i64 i,.int .i64 ((i+n:Nat):Int)] w fun r w'=>∃ v,r= .returned v∧Below w.heap.size w w'∧Bq w' v (((List.range' i n).map (xo l.es L)).flatten):=by
 obtain⟨a,E,hb,U,-⟩:=lok h;obtain⟨-,-,⟨c2,f2⟩,-⟩:=zmq hb;have aI:=zb hb;obtain⟨P,hP⟩:∃ P,P=4 ^ L:=⟨_,rfl⟩
 have aB:1≤P:=by rw [hP];exact Nat.pow_pos (by omega)
 rw [← hP] at aH;have aR:1*P≤(i+n)*P:=Nat.mul_le_mul_right _ (by omega);obtain⟨g,rfl,-⟩:=zpu U (by omega);have aS:=zx4 U;have a3:=za U;have az:=za h20;have HP:=za hP;obtain⟨ti,au,av⟩:=Option.map_eq_some_iff.1 zmd;obtain⟨aw,ax,ay⟩:ti.zero=some (.int .u8 0)∧ti.size=1∧ti.bytes=1:=by simpa using av
 have HI:=za au;have HZ:=za (And.intro aw (And.intro ax ay));clear h hb U h20 f2 hP au av aw ax ay;have aZ:((L:Int)==-1)=false:=by rw [beq_eq_false_iff_ne];omega
 go_enter Tryz.func216,Tryz.ntmps216;go_wp2_with fail
 go_loopg [9,10,11] (n+1) (fun gg t j _ wr=>∃ k:Nat,k≤n∧n+1 - k≤gg∧j= .int .i64 ((i+k:Nat):Int)∧Below w.heap.size w wr∧wr.ownsRow w.heap.size 5 1 t (((List.range' i k).map (xo l.es L)).flatten).length ((((List.range' i k).map (xo l.es L)).flatten).map bv)∧(((List.range' i k).map (xo l.es L)).flatten).length=8*k∧(0 < k→t≠ .slice none 0 0))
 case atStart=>exact⟨0,Nat.zero_le _,by omega,by simp,Below.refl _ _,⟨rfl,.inl ⟨rfl,rfl⟩⟩,by simp,fun h=>absurd h (Nat.lt_irrefl _)⟩
 case round =>
  obtain⟨k,hk,aV,rfl,aj,R,ao,aq⟩:=hrel;have HB:=za aj;have HO:=za R;have ad:=za ao;have a7:=za aq;clear aj R ao aq;by_cases aW:k < n
  ·have aY:((i+k:Nat):Int) < ((i+n:Nat):Int):=by omega
   have aK:(i+k+1)*P≤(i+n)*P:=Nat.mul_le_mul_right _ (by omega);have ap:(i+k+1)*P=(i+k)*P+P:=by rw [Nat.add_mul,Nat.one_mul]
   obtain⟨V,W,Y,Z,r4,r5,r6,r7,hR⟩:=hv8 (xe P ((l.es.drop ((i+k)*P)).take P)) (qk _ _);have ai:hv (xe P ((l.es.drop ((i+k)*P)).take P))=#[.int .u8 V.toNat,.int .u8 W.toNat,.int .u8 Y.toNat,.int .u8 Z.toNat,.int .u8 r4.toNat,.int .u8 r5.toNat,.int .u8 r6.toNat,.int .u8 r7.toNat]:=by rw [hR];rfl
   have HR:=za hR;have aA:=za ai;have a2:Hid (xo l.es L (i+k)=[V,W,Y,Z,r4,r5,r6,r7]):=by
    show xo l.es L (i+k)=_;unfold xo;rw [if_neg (by omega),Int.toNat_natCast,← HP.o];unfold ye;rw [show(List.take P (List.drop ((i+k)*P) l.es)).length=P by simp;omega];exact hR
   have m2:wr.cell? ⟨lb,2,none⟩=some (.slice (some ⟨g,0,none⟩) l.es.length E):=by rw [HB.o.cell (p:=⟨lb,2,none⟩) aI];exact c2
   have ae:=za ap;have aU:¬ E=(i+k)*P:=by omega
   have ba:(i+k)*P≤(i+k+1)*P:=by omega
   have bb:(i+k+1)*P≤E:=by omega
   have aL:(i+k+1)*P≤1000000:=by omega
   have aM:(i+k)*P≤1000000:=by omega
   have bc:(i+k+1)*P≤l.es.length:=by omega
   clear hR ai aK ap;have ak:∀ X,Calls Tryz.prog 232 #[.int .i64 (L:Int),.int .i64 ((i+k:Nat):Int)] X fun r w'=>r= .returned (.int .i64 (((i+k)*P:Nat):Int))∧w'=X:=fun X=>by
    have:=zk5 L (by omega) (by omega) ((i+k:Nat):Int) (by omega) P (by rw [HP.o];simp) (by rw [Int.toNat_natCast];exact aM) X;rw [Int.toNat_natCast] at this;exact this
   have al:∀ X,Calls Tryz.prog 232 #[.int .i64 (L:Int),.int .i64 (((i+k:Nat):Int)+1)] X fun r w'=>r= .returned (.int .i64 (((i+k+1)*P:Nat):Int))∧w'=X:=fun X=>by
    have:=zk5 L (by omega) (by omega) (((i+k:Nat):Int)+1) (by omega) P (by rw [HP.o];simp) (by rw [show(((i+k:Nat):Int)+1).toNat=i+k+1 by omega];exact aL) X;rw [show(((i+k:Nat):Int)+1).toNat=i+k+1 by omega] at this;exact this
   generalize hA:(i+k)*P=A at *
   generalize ah:(i+k+1)*P=A' at *
   generalize hJ:i+k=J at *
   have HA:=za (And.intro hA ah);have HJ:=za hJ;have a4:=za ak;have a5:=za al;clear hA ah hJ ak al;have aQ:J≤2000000:=by
    have:=HJ.o;have hh:(i+n)*1≤(i+n)*P:=Nat.mul_le_mul_left _ aB;omega
   have aa:Hid (Below wr.heap.size wr wr.drew):=(Below.refl _ _).drew;have ac:Hid (∀ o,Below wr.heap.size wr (wr.alloc o).drew):=fun o=>(ze _ _).drew;have ag:Hid (∀ X,Below wr.heap.size wr X→Calls Tryz.prog 36 #[.slice (some ⟨g,A,none⟩) (A' - A) (E - A)] X fun r w'=>r= .returned (.agg #[.int .u8 (V.toNat:Int),.int .u8 (W.toNat:Int),.int .u8 (Y.toNat:Int),.int .u8 (Z.toNat:Int),.int .u8 (r4.toNat:Int),.int .u8 (r5.toNat:Int),.int .u8 (r6.toNat:Int),.int .u8 (r7.toNat:Int)])∧Below X.heap.size X w'):=fun X hX=>by
    have hp:=zji P (.slice (some ⟨g,A,none⟩) (A' - A) (E - A)) ((l.es.drop A).take P) X (by simp;omega) (by have:=ae.o;simp;omega) (fun e aE=>Nat.le_trans (az.o e (List.mem_of_mem_drop (List.mem_of_mem_take aE))) (by unfold maxLen;omega)) (by
     have aD:=((a3.o.bss'.below HB.o).below hX).drop A (by omega);have h2:=aD.take (A' - A) (by rw [List.length_drop];omega);rw [show A' - A=P by have:=ae.o;omega] at h2 ⊢;rw [Nat.zero_add] at h2;exact h2)
    rw [aA.o] at hp;exact hp
   go_wp2_with fail;go_cut [11] from 23 to 43 (fun aN wx=>∃ Bh,aN= .pointer (some ⟨Bh,0,none⟩)∧wx.heap[Bh]?=some (.cells #[.int .u8 (V.toNat:Int),.int .u8 (W.toNat:Int),.int .u8 (Y.toNat:Int),.int .u8 (Z.toNat:Int),.int .u8 (r4.toNat:Int),.int .u8 (r5.toNat:Int),.int .u8 (r6.toNat:Int),.int .u8 (r7.toNat:Int)] 92 (0,0))∧wr.heap.size≤Bh∧Below wr.heap.size wr wx)
   case first =>
    have bd:¬ lb=wr.heap.size:=by have:=zk m2;simp only at this;omega
    have be:¬ wr.heap.size=lb:=by omega
    have c6:IntKind.i64.wrap ((J:Int)+1)=(J:Int)+1:=by rw [IntKind.wrap_i64];omega
    go_region_held3 (fun X=>X.cell? ⟨lb,2,none⟩=some (.slice (some ⟨g,0,none⟩) l.es.length E)) (go_keep) (first
     | (go_at_call_of 232 (Value.int .i64 (J:Int));refine(a4.o _).mono ?_;rintro r w' ⟨rfl,rfl⟩)
     | (go_at_call 232;refine(a5.o _).mono ?_;rintro r w' ⟨rfl,rfl⟩)
     | (go_at_call 36;refine(ag.o wr.drew aa.out).mono ?_;rintro r w2 ⟨rfl,I⟩;have H:Below wr.heap.size wr w2:=aa.out.trans (I.mono aa.out.size);have q2:w2.cell? ⟨lb,2,none⟩=some (.slice (some ⟨g,0,none⟩) l.es.length E):=(by rw [H.cell (p:=⟨lb,2,none⟩) (zk m2)];exact m2);have Q:=za H;clear I H)
     | (go_at_call 36;refine(ag.o (wr.alloc (.cells #[.int .u8 0,.int .u8 0,.int .u8 0,.int .u8 0,.int .u8 0,.int .u8 0,.int .u8 0,.int .u8 0] 92)).drew (ac.out _)).mono ?_;rintro r w2 ⟨rfl,I⟩;have H:Below wr.heap.size wr w2:=(ac.out _).trans (I.mono (ac.out _).size);have q2:w2.cell? ⟨lb,2,none⟩=some (.slice (some ⟨g,0,none⟩) l.es.length E):=(by rw [H.cell (p:=⟨lb,2,none⟩) (zk m2)];exact m2);have K:w2.heap[wr.heap.size]?=some (.cells #[.int .u8 0,.int .u8 0,.int .u8 0,.int .u8 0,.int .u8 0,.int .u8 0,.int .u8 0,.int .u8 0] 92 (0,0)):=(by rw [I.block _ (by show wr.heap.size < (wr.heap.push _).size;simp)];exact heap_alloc_last wr _);obtain⟨x0,x1,x2,x3,x4,x5,x6,x7⟩:=z9b K;have xz:=zyx K;have a8:=za K;have Q:=za H;clear I H K))
    all_goals go_wp2_with fail
    all_goals go_meet
    all_goals first
     | (have hN:=a8.o;exact⟨wr.heap.size,rfl,z14 (.int .u8 (V.toNat:Int)) (.int .u8 (W.toNat:Int)) (.int .u8 (Y.toNat:Int)) (.int .u8 (Z.toNat:Int)) (.int .u8 (r4.toNat:Int)) (.int .u8 (r5.toNat:Int)) (.int .u8 (r6.toNat:Int)) (.int .u8 (r7.toNat:Int)) hN,Nat.le_refl _,zr5 Q.o (Nat.le_refl _) (.int .u8 (V.toNat:Int)) (.int .u8 (W.toNat:Int)) (.int .u8 (Y.toNat:Int)) (.int .u8 (Z.toNat:Int)) (.int .u8 (r4.toNat:Int)) (.int .u8 (r5.toNat:Int)) (.int .u8 (r6.toNat:Int)) (.int .u8 (r7.toNat:Int))⟩)
     | exact⟨w2.heap.size,rfl,heap_alloc_last _ _,Q.o.size,Q.o.alloc Q.o.size _⟩
   case rest =>
    obtain⟨Bh,rfl,hB,aP,S⟩:=hcut;have a1:=za S;have a0:=za hB;have af:Hid (wc.ownsRow w.heap.size 5 1 u9 (((List.range' i k).map (xo l.es L)).flatten).length ((((List.range' i k).map (xo l.es L)).flatten).map bv)):=zy HO.o S;have aG:Hid (((List.range' i (k+1)).map (xo l.es L)).flatten=((List.range' i k).map (xo l.es L)).flatten++[V,W,Y,Z,r4,r5,r6,r7]):=by
     show _=_;rw [List.range'_1_concat,List.map_append,List.flatten_append,List.map_singleton,HJ.o,a2.o];simp
    have K:Hid (∀ j u,([.int .u8 (V.toNat:Int),.int .u8 (W.toNat:Int),.int .u8 (Y.toNat:Int),.int .u8 (Z.toNat:Int),.int .u8 (r4.toNat:Int),.int .u8 (r5.toNat:Int),.int .u8 (r6.toNat:Int),.int .u8 (r7.toNat:Int)]:List Value)[j]?=some u→wc.cell? ((⟨Bh,0,none⟩:Addr).add j)=some u):=fun j u hj=>by
     rw [Addr.add_mid,Nat.zero_add,cell_of_row _ _ _ _ _ _ a0.o];simpa using hj
    have aX:(((List.range' i k).map (xo l.es L)).flatten).length≤32:=by have:=ad.o;omega
    have ar:Hid (w.heap.size≤wc.heap.size):=Nat.le_trans HB.o.size S.size;clear S hB m2;generalize aF:((List.range' i k).map (xo l.es L)).flatten=ff at *
    clear aF;go_wp2_with (at_builtin;refine wpList_append_lies _ rfl _ _ _ rfl w.heap.size 5 ti (.int .u8 0) 1 1 Tryz.underlying100 HI.o HZ.o.1 HZ.o.2.1 HZ.o.2.2 rfl (by omega) u9 ff.length (ff.map bv) rfl af.o ⟨Bh,0,none⟩ 8 8 [.int .u8 (V.toNat:Int),.int .u8 (W.toNat:Int),.int .u8 (Y.toNat:Int),.int .u8 (Z.toNat:Int),.int .u8 (r4.toNat:Int),.int .u8 (r5.toNat:Int),.int .u8 (r6.toNat:Int),.int .u8 (r7.toNat:Int)] rfl rfl K.out (by simp [Value.oneCell']) (by omega) (by unfold maxLen;omega) (by omega) (ar.out) wc.heap.size rfl ?_;intro g5 aO w5 R an aC aJ;have a9:=za R;have a6:=za an;clear R an aC aJ)
    go_roundg (gk - 1)
    case rel =>
     have am:=aG.out;refine⟨k+1,by omega,by omega,by congr 1;have:=HJ.o;omega,((HB.o.trans (a1.o.mono HB.o.size)).grown a6.o ar.out (qf af.o)),?_,?_,fun _ h=>by simp at h⟩
     ·rw [am,List.length_append,List.map_append];exact a9.o
     ·rw [am,List.length_append,ad.o];simp;omega
    case measure=>omega
  ·obtain rfl:k=n:=by omega
   go_wp2_with fail;go_ret;exact⟨_,rfl,HB.o,(show OB wr w.heap.size _ _ from ⟨HO.o,a7.o (by omega)⟩).bq⟩
section
attribute [local go_sem ↓] yv yl yy yo yj ym yx yk
def zsz (w:World)(v:Value)(l:List UInt8):Prop:=(v=zdv∧l=[])∨Bq w v l
structure zdd (w:World)(x:Px)(p:Pc):Prop where
 there:x.there=p.there
 fits:x.fits=p.fits
 hash:x.hash=p.hash
 ent:zsz w x.ent p.entry
def j9 (w:World)(xs:List Px)(f:Fl):Prop:=xs.length=4∧f.length=4∧∀ k,k < 4→zdd w (xs.getD k .no) (f.getD k .no)
theorem zsz.turn {w w':World}{O:Nat→Prop}{T:List Nat}{v:Value}{l:List UInt8}(h:zsz w v l)(A:zg O T w w')(r:5∉T):zsz w' v l:=by
 rcases h with h | h
 ·exact .inl h
 ·exact .inr (h.turn A r)
theorem zdd.turn {w w':World}{O:Nat→Prop}{T:List Nat}{x:Px}{p:Pc}(h:zdd w x p)(A:zg O T w w')(r:5∉T):zdd w' x p:=⟨h.there,h.fits,h.hash,h.ent.turn A r⟩
theorem j9.turn {w w':World}{O:Nat→Prop}{T:List Nat}{xs:List Px}{f:Fl}(h:j9 w xs f)(D:zg O T w w')(r:5∉T):j9 w' xs f:=⟨h.1,h.2.1,fun k A=>(h.2.2 k A).turn D r⟩
theorem j9.below {w w':World}{xs:List Px}{f:Fl}(h:j9 w xs f)(r:Below w.heap.size w w'):j9 w' xs f:=h.turn (O:=fun _=>False) (T:=[]) (.of_below r) (by simp)
theorem zdd.none (w:World):zdd w .no .no:=⟨rfl,rfl,rfl,.inl ⟨rfl,rfl⟩⟩
theorem j9.none (w:World):j9 w Fx.no Fl.no:=⟨rfl,rfl,fun k h=>by
 match k,h with
 | 0,_=>exact zdd.none w
 | 1,_=>exact zdd.none w
 | 2,_=>exact zdd.none w
 | 3,_=>exact zdd.none w⟩
theorem zhy {α:Type}(f:Nat→α)(z:α){k:Nat}(h:k < 4):((List.range 4).map f).getD k z=f k:=by
 match k,h with
 | 0,_=>rfl
 | 1,_=>rfl
 | 2,_=>rfl
 | 3,_=>rfl
theorem z78 (w:World)(n:Nat)(d:List UInt8):j9 w (zfp n d) (zf9 n d):=by
 refine⟨by simp [zfp],by simp [zf9],fun k r=>?_⟩;unfold zfp zf9;rw [zhy _ _ r,zhy _ _ r];by_cases h:k < n
 ·rw [if_pos h,if_pos h];exact⟨rfl,rfl,rfl,.inl ⟨rfl,rfl⟩⟩
 ·rw [if_neg h,if_neg h];exact zdd.none w
theorem z7u {w:World}{B:Nat}{es:List (List UInt8)}{D:List Value}(h:∀ j (E:j < es.length),OB w B (D.getD j zdv) es[j]):j9 w (zg4 es.length es D) (zie es):=by
 refine⟨by simp [zg4],by simp [zie],fun k A=>?_⟩;unfold zg4 zie;rw [zhy _ _ A,zhy _ _ A];by_cases r:k < es.length
 ·rw [if_pos r,if_pos r];refine⟨rfl,rfl,rfl,.inr ?_⟩;have:es.getD k []=es[k]:=by rw [List.getD_eq_getElem?_getD,List.getElem?_eq_getElem r];rfl
  show Bq w _ (es.getD k []);rw [this];exact(h k r).bq
 ·rw [if_neg r,if_neg r];exact zdd.none w
theorem zo5 (x:Option (List UInt8))(n:Nat):zck (-1) n (x.getD [])=(zgn x n).map zie:=by
 unfold zck zgn;rw [if_pos rfl];cases x with
 | none=>rfl
 | some d =>
  simp only [Option.getD_some];cases zfb d with
  | none=>rfl
  | some es =>
   simp only;by_cases h:es.length=n
   ·rw [if_pos h,if_pos (by rw [h])];rfl
   ·rw [if_neg h,if_neg (by omega)];rfl
theorem zk4 (n:Nat)(L:n≤4)(a:Option Addr)(len A:Nat)(K:len≠8*n)(w:World):
  Calls Tryz.prog 240 #[.int .i64 n,.slice a len A] w fun r w'=>r= .returned (.tuple #[.agg (fcs Fx.no).toArray,.bool false])∧Below w.heap.size w w':=by
 have I:((len:Int) != (n:Int)*8)=true:=by simp;omega
 have D:=zkj (w.alloc (.cells qt zt));have h:Hid (Below w.heap.size w (w.alloc (.cells qt zt))∧zn (w.alloc (.cells qt zt)) w.heap.size Fx.no):=⟨ze _ _,heap_alloc_last _ _⟩
 rw [zrg] at D;go_enter Tryz.func240,Tryz.ntmps240;have J:=qj (xj h.o.2 Fx.no_ok) Fx.no_ok.len (jp Fx.no_ok.2);have H:=za (qb h.o.2 Fx.no_ok Fx.no_ok);have E:=za (zr h.o.1 (Nat.le_refl w.heap.size) (fcs Fx.no) 0);go_wp2_with fail;exact bodyPost_ret (v:= .tuple #[.agg (fcs Fx.no).toArray,.bool false]) (zv Tryz.results240 _ _ w.heap.size zt _ (0,0) _ rfl H.o Tryz.underlying104 rfl (by rw [jt,List.size_toArray,Fx.no_ok.len]) _ rfl) rfl ⟨rfl,E.o⟩
def zjp (w':World)(o:Option Fl)(r:Ending):Prop :=
 (∃ xs f,o=some f∧FOk xs∧j9 w' xs f∧r= .returned (.tuple #[.agg (fcs xs).toArray,.bool true]))∨(o=none∧∃ xs,FOk xs∧r= .returned (.tuple #[.agg (fcs xs).toArray,.bool false]))
theorem zrd (n:Nat)(H:0 < n)(E:n≤4)(l:Int)(D:l≠-1)(v:Value)(x:Option (List UInt8))(w:World)(h:zgo w v x):
  Calls Tryz.prog 240 #[.int .i64 n,v] w fun r w'=>Below w.heap.size w w'∧zjp w' (zck l n (x.getD [])) r:=by
 rcases h with ⟨d,rfl,J⟩ | ⟨rfl,rfl⟩
 ·by_cases I:d.length=8*n
  ·refine(zqe n E H v d I w J).mono ?_;rintro r w' ⟨rfl,A⟩;refine⟨A,.inl ⟨_,zf9 n d,?_,zre d (by omega),z78 _ _ _,rfl⟩⟩;unfold zck;rw [if_neg D,Option.getD_some,if_pos (by omega)];rfl
  ·obtain⟨g,K,C,L,rfl,-⟩:=J;refine(zk4 n E _ _ _ I w).mono ?_;rintro r w' ⟨rfl,A⟩;refine⟨A,.inr ⟨?_,_,Fx.no_ok,rfl⟩⟩;unfold zck;rw [if_neg D,Option.getD_some,if_neg (by omega)]
 ·refine(zk4 n E _ _ _ (by omega) w).mono ?_;rintro r w' ⟨rfl,A⟩;refine⟨A,.inr ⟨?_,_,Fx.no_ok,rfl⟩⟩;unfold zck;rw [if_neg D,Option.getD_none,if_neg (by simp;omega)]
theorem zt4 (n:Nat)(v:Value)(x:Option (List UInt8))(w:World)(h:zgo w v x):
  Calls Tryz.prog 239 #[.int .i64 n,v] w fun r w'=>Below w.heap.size w w'∧zjp w' (zck (-1) n (x.getD [])) r:=by
 refine(znl n v x w h).mono ?_;rintro r w' ⟨D,⟨es,I,A,rfl,E⟩ | ⟨A,rfl⟩⟩
 ·refine⟨D,.inl ⟨_,zie es,by rw [zo5,A];rfl,zyq es I (fun j H=>?_),z7u E,rfl⟩⟩;obtain⟨g,c,e,-⟩:=(E j H).form;exact⟨_,_,_,e⟩
 ·exact⟨D,.inr ⟨by rw [zo5,A];rfl,_,Fx.no_ok,rfl⟩⟩
end
end Go.Proofs.YtndkblnpbjffhaaGreatDoor
