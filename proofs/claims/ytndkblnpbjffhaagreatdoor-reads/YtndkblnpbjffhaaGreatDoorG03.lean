import Derived.Test.YtndkblnpbjffhaaGreatDoorG02
import Derived.Lib.Strings
import Derived.Lib.Slices
import Derived.Lib.Small
import Derived.Lib.Walk
import Derived.Lib.BitFns
set_option maxHeartbeats 4000000
set_option maxRecDepth 100000
open Go.RowKit
namespace Go.Proofs.YtndkblnpbjffhaaGreatDoor
theorem zvj (w:World)(O:Obj)(a b:List UInt8)(r:a.length=8)(A:b.length=8):
  Bss (((((w.alloc (.cells (hv a) 92)).alloc (.cells (hv b) 92)).alloc O).alloc (.cells #[.int .u8 1] 5)).alloc
   (.cells #[.slice (some ⟨w.heap.size+1+1+1,0,none⟩) 1 1,.slice (some ⟨w.heap.size,0,none⟩) 8 8,.slice (some ⟨w.heap.size+1,0,none⟩) 8 8] 100)) (.slice (some ⟨w.heap.size+1+1+1+1,0,none⟩) 3 3) [[1],a,b]:=by
 refine⟨_,_,rfl,Nat.le_refl _,.inr ⟨_,_,rfl,fun i D=>?_⟩⟩
 match i,D with
 | 0,_ =>
  refine⟨.slice (some ⟨w.heap.size+1+1+1,0,none⟩) 1 1,by rw [zce _ _ _ _ _ (by simp)];rfl,?_⟩;exact(Bs.fresh _ [1] _ _ (by simp) 1).below (ze _ _)
 | 1,_ =>
  refine⟨.slice (some ⟨w.heap.size,0,none⟩) 8 8,by rw [zce _ _ _ _ _ (by simp)];rfl,?_⟩;have h:=(Bs.fresh w a 92 _ rfl 8)
  rw [r] at h;exact(h.below (jn _ _ _ _)).below (ze _ _)
 | 2,_ =>
  refine⟨.slice (some ⟨w.heap.size+1,0,none⟩) 8 8,by rw [zce _ _ _ _ _ (by simp)];rfl,?_⟩;have h:=(Bs.fresh (w.alloc (.cells (hv a) 92)) b 92 (w.heap.size+1) (by simp) 8)
  rw [A] at h;exact h.below (jn _ _ _ _)
theorem zj0 (l:List UInt8)(h:l.length=8):∃ r A D E H I J K:Int,hv l=#[.int .u8 r,.int .u8 A,.int .u8 D,.int .u8 E,.int .u8 H,.int .u8 I,.int .u8 J,.int .u8 K]:=by
 obtain⟨L,Q,R,S,U,V,W,X,rfl⟩:=hv8 l h;exact⟨_,_,_,_,_,_,_,_,rfl⟩
theorem zmg {B g:Nat}{a w:World}(h:Below B a w)(r:B≤g)(A D E H I J K L:Value):
  Below B a ((((((((w.setCell ⟨g,0,none⟩ A).setCell ⟨g,1,none⟩ D).setCell ⟨g,2,none⟩ E).setCell ⟨g,3,none⟩ H).setCell ⟨g,4,none⟩ I).setCell ⟨g,5,none⟩ J).setCell ⟨g,6,none⟩ K).setCell ⟨g,7,none⟩ L) :=
 (((((((h.setCell r _).setCell r _).setCell r _).setCell r _).setCell r _).setCell r _).setCell r _).setCell r _
theorem z5a {w:World}{g:Nat}{t:TypeId}(h:w.heap[g]?=some (.cells #[Value.int IntKind.u8 0,Value.int IntKind.u8 0,Value.int IntKind.u8 0,Value.int IntKind.u8 0,Value.int IntKind.u8 0,Value.int IntKind.u8 0,Value.int IntKind.u8 0,Value.int IntKind.u8 0] t (0,0))):
  (w.cell? ⟨g,0,none⟩=some (.int .u8 0)∧w.cell? ⟨g,1,none⟩=some (.int .u8 0)∧w.cell? ⟨g,2,none⟩=some (.int .u8 0)∧w.cell? ⟨g,3,none⟩=some (.int .u8 0)∧w.cell? ⟨g,4,none⟩=some (.int .u8 0)∧w.cell? ⟨g,5,none⟩=some (.int .u8 0)∧w.cell? ⟨g,6,none⟩=some (.int .u8 0)∧w.cell? ⟨g,7,none⟩=some (.int .u8 0))∧∀ j,w.frozen? ⟨g,j,none⟩=false:=by
 refine⟨⟨?_,?_,?_,?_,?_,?_,?_,?_⟩,fun j=>frozen_of_row _ _ _ _ _ h⟩<;>(rw [cell_of_row _ _ _ _ _ _ h];rfl)
theorem z1a (a b:List UInt8)(w:World)(D:a.length=8)(E:b.length=8){xs:Array Value}(H:hv (yz a b)=xs):
  Calls Tryz.prog 68 #[.slice (some ⟨w.heap.size+1+1+1+1,0,none⟩) 3 3] (((((w.alloc (.cells (hv a) 92)).alloc (.cells (hv b) 92)).alloc (.cells #[Value.int IntKind.u8 0,Value.int IntKind.u8 0,Value.int IntKind.u8 0,Value.int IntKind.u8 0,Value.int IntKind.u8 0,Value.int IntKind.u8 0,Value.int IntKind.u8 0,Value.int IntKind.u8 0] 92)).alloc (.cells #[.int .u8 1] 5)).alloc
   (.cells #[.slice (some ⟨w.heap.size+1+1+1,0,none⟩) 1 1,.slice (some ⟨w.heap.size,0,none⟩) 8 8,.slice (some ⟨w.heap.size+1,0,none⟩) 8 8] 100)).drew
   fun e w'=>e= .returned (.agg xs)∧((w'.cell? ⟨w.heap.size+1+1,0,none⟩=some (.int .u8 0)∧w'.cell? ⟨w.heap.size+1+1,1,none⟩=some (.int .u8 0)∧w'.cell? ⟨w.heap.size+1+1,2,none⟩=some (.int .u8 0)∧w'.cell? ⟨w.heap.size+1+1,3,none⟩=some (.int .u8 0)∧w'.cell? ⟨w.heap.size+1+1,4,none⟩=some (.int .u8 0)∧w'.cell? ⟨w.heap.size+1+1,5,none⟩=some (.int .u8 0)∧w'.cell? ⟨w.heap.size+1+1,6,none⟩=some (.int .u8 0)∧w'.cell? ⟨w.heap.size+1+1,7,none⟩=some (.int .u8 0))∧∀ j,w'.frozen? ⟨w.heap.size+1+1,j,none⟩=false)∧Hid (Below w.heap.size w w'):=by
 refine(zgd _ [[1],a,b] _ (by unfold maxLen;simp) ?_ (by exact zvj w _ a b D E)).mono ?_
 ·intro l A;simp at A;rcases A with rfl | rfl | rfl<;>simp [maxLen, *]
 rintro r w' ⟨hr,h⟩;refine⟨?_,z5a (t:=92) ?_,?_⟩
 ·rw [hr,← H];simp [yz]
 ·rw [h.block _ (by simp)];exact zc (zc (by rw [show w.heap.size+1+1=((w.alloc (.cells (hv a) 92)).alloc (.cells (hv b) 92)).heap.size by simp];exact heap_alloc_last _ _))
 ·refine Below.trans (b:=(((((w.alloc (.cells (hv a) 92)).alloc (.cells (hv b) 92)).alloc (.cells #[Value.int IntKind.u8 0,Value.int IntKind.u8 0,Value.int IntKind.u8 0,Value.int IntKind.u8 0,Value.int IntKind.u8 0,Value.int IntKind.u8 0,Value.int IntKind.u8 0,Value.int IntKind.u8 0] 92)).alloc (.cells #[.int .u8 1] 5)).alloc
   (.cells #[.slice (some ⟨w.heap.size+1+1+1,0,none⟩) 1 1,.slice (some ⟨w.heap.size,0,none⟩) 8 8,.slice (some ⟨w.heap.size+1,0,none⟩) 8 8] 100)).drew) ?_ (h.mono (by simp;omega))
  exact((jn w _ _ _).trans ((zz _ _ _).mono (by simp;omega))).drew
theorem zay (a b:List UInt8)(w:World)(A:a.length=8)(D:b.length=8):
  Calls Tryz.prog 71 #[.agg (hv a),.agg (hv b)] w fun r w'=>r= .returned (.agg (hv (yz a b)))∧Below w.heap.size w w':=by
 obtain⟨X,Y,Z,x3,x4,x5,x6,x7,E⟩:=zj0 (yz a b) (ql a b);have h:=za E;have I:=za A;have J:=za D;clear A D E;go_enter Tryz.func71,Tryz.ntmps71;go_wp2_with fail
 go_region_with (go_at_call 68;(refine(z1a a b w I.o J.o h.o).mono ?_;rintro e w' ⟨rfl,⟨⟨K,L,Q,R,S,U,V,W⟩,hf⟩,H⟩))
 go_wp2;refine bodyPost_ret (v:= .agg #[.int .u8 X,.int .u8 Y,.int .u8 Z,.int .u8 x3,.int .u8 x4,.int .u8 x5,.int .u8 x6,.int .u8 x7]) (by simp [results,Tryz.results71,go_sem,K,L,Q,R,S,U,V,W]) rfl ⟨by rw [h.o],?_⟩;exact zmg H.o (by omega) _ _ _ _ _ _ _ _
theorem zxz (m:Nat)(h:m≠0)(r:m < 2 ^ 64):Lib.bitLen m=m.log2+1:=by
 have h1:=Nat.log2_self_le h;have h2:m < 2 ^ (m.log2+1):=Nat.lt_log2_self;rw [Lib.bitLen_shift m.log2 m h1 r];have e:m / 2 ^ m.log2=1:=by
  have A:0 < 2 ^ m.log2:=Nat.two_pow_pos _;rw [Nat.pow_succ] at h2;exact Nat.div_eq_of_lt_le (by omega) (by omega)
 rw [e];rfl
theorem z88 (q:Int)(h0:0≤q)(h1:q < 256)(h:q.toNat < Lib.len8tab.size):((Lib.len8tab[q.toNat]'h).toNat:Int)=Lib.bitLen q.toNat:=by
 rw [← Lib.len8_of q h0 (by omega)];unfold Lib.len8;rw [getElem?_pos Lib.len8tab q.toNat h];rfl
theorem ze4 (c:Nat)(q:Int)(x:Nat)(A:c≤56)(h0:0≤q)(h1:q < 256)(h:q.toNat < Lib.len8tab.size)(r:Lib.bitLen x=c+Lib.bitLen q.toNat):
  wrap64 (c+wrap64 ((Lib.len8tab[q.toNat]'h).toNat:Int))=(Lib.bitLen x:Int):=by
 rw [z88 q h0 h1 h,r];have:=Lib.bitLen_le8' q h0 (by omega);rw [show wrap64 (Lib.bitLen q.toNat:Int)=(Lib.bitLen q.toNat:Int) by unfold wrap64;omega];unfold wrap64;omega
theorem z13 (x:Int)(w:World)(h0:0≤x)(h1:x≤18446744073709551615):
  Calls Tryz.prog 156 #[.int .u64 x] w fun e w'=>e= .returned (.int .i64 (Lib.bitLen x.toNat))∧w'=w:=by
 have h:Lib.len8tab.size=256:=Lib.len8tab_size;go_enter Tryz.func156,Tryz.ntmps156;go_wp2;all_goals go_ret
 all_goals refine⟨congrArg Ending.returned (congrArg (Value.int IntKind.i64) ?_),rfl⟩
 ·exact ze4 56 _ _ (by omega) (by omega) (by omega) (by omega) (by rw [Lib.bitLen_shift56 x.toNat (by omega) (by omega)];congr 2;omega)
 ·exact ze4 48 _ _ (by omega) (by omega) (by omega) (by omega) (by rw [Lib.bitLen_shift48 x.toNat (by omega) (by omega)];congr 2;omega)
 ·exact ze4 40 _ _ (by omega) (by omega) (by omega) (by omega) (by rw [Lib.bitLen_shift40 x.toNat (by omega) (by omega)];congr 2;omega)
 ·exact ze4 32 _ _ (by omega) (by omega) (by omega) (by omega) (by rw [Lib.bitLen_shift32 x.toNat (by omega) (by omega)];congr 2;omega)
 ·exact ze4 24 _ _ (by omega) (by omega) (by omega) (by omega) (by rw [Lib.bitLen_shift24 x.toNat (by omega) (by omega)];congr 2;omega)
 ·exact ze4 16 _ _ (by omega) (by omega) (by omega) (by omega) (by rw [Lib.bitLen_shift16 x.toNat (by omega) (by omega)];congr 2;omega)
 ·exact ze4 8 _ _ (by omega) (by omega) (by omega) (by omega) (by rw [Lib.bitLen_shift8 x.toNat (by omega) (by omega)];congr 2;omega)
 ·have:=ze4 0 x x.toNat (by omega) (by omega) (by omega) (by omega) (by simp);simpa using this
theorem z8u (x:Int)(w:World)(h0:0≤x)(h1:x≤18446744073709551615):
  Calls Tryz.prog 112 #[.int .u64 x] w fun e w'=>e= .returned (.int .i64 (Lib.bitLen x.toNat))∧w'=w:=by
 go_enter Tryz.func112,Tryz.ntmps112;go_wp2_with fail;refine(z13 x w h0 h1).mono ?_;rintro e w' ⟨rfl,rfl⟩;go_wp2_with fail;go_ret;exact⟨rfl,rfl⟩
theorem zd0 (n:Nat)(w:World)(h0:2≤n)(h1:n≤9223372036854775807):
  Calls Tryz.prog 70 #[.int .i64 n] w fun e w'=>e= .returned (.int .i64 (kOf n))∧w'=w:=by
 go_enter Tryz.func70,Tryz.ntmps70;go_wp2_with fail;refine(z8u ((n:Int) - 1) w (by omega) (by omega)).mono ?_;rintro e w' ⟨hr,rfl⟩;have r:Lib.bitLen ((n:Int) - 1).toNat=(n - 1).log2+1:=by
  rw [show((n:Int) - 1).toNat=n - 1 by omega];exact zxz _ (by omega) (by omega)
 have h:(n - 1).log2≤62:=by
  have:=(Nat.log2_lt (n:=n - 1) (k:=63) (by omega)).2 (by omega);omega
 rw [r] at hr;subst hr;have A:Hid (kOf n=2 ^ (n - 1).log2):=rfl;clear r;generalize (n - 1).log2=j at *
 go_wp2_with fail;go_ret;refine⟨congrArg Ending.returned (congrArg (Value.int IntKind.i64) ?_),rfl⟩;have h2:2 ^ j≤2 ^ 62:=Nat.pow_le_pow_right (by omega) h;have D:((2:Int) ^ j)=((2 ^ j:Nat):Int):=by simp
 rw [A.o];show wrap64 ((2:Int) ^ j)=_;rw [D];generalize 2 ^ j=p at *
 unfold wrap64;omega
theorem zfi (n:Nat)(w:World)(h0:2≤n)(h1:n≤9223372036854775807):
  Calls Tryz.prog 63 #[.int .i64 n] w fun e w'=>e= .returned (.int .i64 (kOf n))∧w'=w:=by
 go_enter Tryz.func63,Tryz.ntmps63;go_wp2_with fail
 go_loop [3] (fun t=>∃ j:Nat,∃ k:Nat,k=2 ^ j∧k < n∧t= .int .i64 k) (fun t=>n - (intOf t).toNat)
 case atStart=>exact⟨0,1,rfl,by omega,rfl⟩
 case round =>
  obtain⟨j,k,r,A,rfl⟩:=hrel;have h:=za r;have D:1≤k:=by rw [r];exact Nat.one_le_two_pow
  clear r;by_cases E:2*k < n
  ·go_wp2;go_round
   case rel=>exact⟨j+1,2*k,by rw [h.o,Nat.pow_succ];omega,by omega,by go_num⟩
   case measure=>simp [intOf];omega
  ·go_wp2;go_ret;refine⟨congrArg Ending.returned (congrArg (Value.int IntKind.i64) (congrArg Int.ofNat ?_)),rfl⟩;rw [h.o];exact z3a n j (by rw [← h.o];omega) (by rw [Nat.pow_succ,← h.o];omega)
theorem zo4 (f:Nat)(v:Value)(A:List (List UInt8))(w:World)(h0:A.length=0)(h:Bss w v A):
  Calls Tryz.prog 36 #[v] w fun r w'=>r= .returned (.agg (hv (xe f A)))∧Below w.heap.size w w':=by
 obtain⟨a,K,rfl,D,-⟩:=h;rw [zae f A h0,h0];clear D;go_enter Tryz.func36,Tryz.ntmps36;go_wp2_with fail;refine(zgd _ [] _ (by simp) (fun l L=>by simp at L) ⟨none,0,rfl,Nat.le_refl _,.inl rfl⟩).mono ?_;rintro r w' ⟨hr,I⟩;have E:r= .returned (.agg (hv (hash []))):=hr;clear hr;subst E;have J:w'.heap[w.heap.size]?=some (.cells #[Value.int IntKind.u8 0,Value.int IntKind.u8 0,Value.int IntKind.u8 0,Value.int IntKind.u8 0,Value.int IntKind.u8 0,Value.int IntKind.u8 0,Value.int IntKind.u8 0,Value.int IntKind.u8 0] 92 (0,0)):=by
  rw [I.block _ (by simp)];exact heap_alloc_last _ _
 have H:=za J;clear J;go_wp2_with (refine wpList_store_row rfl 92 _ _ rfl w.heap.size (hv (hash [])) rfl rfl 92 _ H.o (by kernel_rfl) rfl (jy _) ?_);refine bodyPost_ret (v:= .agg (hv (hash []))) (results_cell_row Tryz.results36 _ _ w.heap.size 92 _ (0,0) _ rfl (setRow_heap _ _ _ _ _ _ H.o) Tryz.underlying92 rfl (by kernel_rfl)) rfl ⟨rfl,?_⟩;exact below_setRow ((ze _ _).trans (I.mono (by simp))) (Nat.le_refl _) _
theorem z38 (f:Nat)(v:Value)(E:List (List UInt8))(w:World)(h1:E.length=1)(R:∀ l∈E,l.length≤maxLen)(h:Bss w v E):
  Calls Tryz.prog 36 #[v] w fun r w'=>r= .returned (.agg (hv (xe (f+1) E)))∧Below w.heap.size w w':=by
 rw [zc3 f E h1];obtain⟨e,rfl⟩:=List.length_eq_one_iff.1 h1;obtain⟨a,V,rfl,H,h⟩:=h;rcases h with h | ⟨b,A,rfl,L⟩
 ·simp at h
 obtain⟨x,I,D⟩:=L 0 (by simp);have U:=za (R e (by simp));have S:Hid (Bs w x e):=D;clear H L D R;have W:∀ o,(w.alloc o).cell? ⟨b,A,none⟩=some x:=fun o=>by rw [zl _ _ ⟨b,A,none⟩ (zk (p:=⟨b,A+0,none⟩) I)];exact I
 clear I;simp only [List.length_singleton,List.headD_cons] at *
 go_enter Tryz.func36,Tryz.ntmps36;go_wp2_with fail;refine(zui x e _ U.o (S.o.below (ze _ _))).mono ?_;rintro r w' ⟨rfl,K⟩;have Q:w'.heap[w.heap.size]?=some (.cells #[Value.int IntKind.u8 0,Value.int IntKind.u8 0,Value.int IntKind.u8 0,Value.int IntKind.u8 0,Value.int IntKind.u8 0,Value.int IntKind.u8 0,Value.int IntKind.u8 0,Value.int IntKind.u8 0] 92 (0,0)):=by
  rw [K.block _ (by simp)];exact heap_alloc_last _ _
 have J:=za Q;clear Q;go_wp2_with (refine wpList_store_row rfl 92 _ _ rfl w.heap.size (hv (jc e)) rfl rfl 92 _ J.o (by kernel_rfl) rfl (jy _) ?_);refine bodyPost_ret (v:= .agg (hv (jc e))) (results_cell_row Tryz.results36 _ _ w.heap.size 92 _ (0,0) _ rfl (setRow_heap _ _ _ _ _ _ J.o) Tryz.underlying92 rfl (by kernel_rfl)) rfl ⟨rfl,?_⟩;exact below_setRow ((ze _ _).trans (K.mono (by simp))) (Nat.le_refl _) _
def Own (w h:World):Prop:=Below w.heap.size w h∧h.heap[w.heap.size]?=some (.cells #[Value.int IntKind.u8 0,Value.int IntKind.u8 0,Value.int IntKind.u8 0,Value.int IntKind.u8 0,Value.int IntKind.u8 0,Value.int IntKind.u8 0,Value.int IntKind.u8 0,Value.int IntKind.u8 0] 92 (0,0))
theorem Own.start (w:World):Own w (w.alloc (.cells #[Value.int IntKind.u8 0,Value.int IntKind.u8 0,Value.int IntKind.u8 0,Value.int IntKind.u8 0,Value.int IntKind.u8 0,Value.int IntKind.u8 0,Value.int IntKind.u8 0,Value.int IntKind.u8 0] 92)).drew :=
 ⟨(ze _ _).drew,heap_alloc_last _ _⟩
theorem Own.next {w r H:World}(h:Own w r)(E:Below r.heap.size r H):Own w H:=by
 have I:=h.1.size;have D:w.heap.size < r.heap.size:=by
  rcases Nat.lt_or_ge w.heap.size r.heap.size with A | A
  ·exact A
  ·have:=h.2;simp [Array.getElem?_eq_none A] at this
 exact⟨h.1.trans (E.mono I),by rw [E.block _ D];exact h.2⟩
theorem z1z (f:Nat)(b E D:Nat)(A:List (List UInt8))(w:World)(h2:2≤A.length)(hn:A.length≤1000000)(aa:A.length≤D)(I:∀ l∈A,l.length≤maxLen)(h:Bss w (.slice (some ⟨b,E,none⟩) A.length D) A)
  (ih:∀(v:Value) (A:List (List UInt8)) (w:World),A.length≤f→A.length≤1000000→(∀ l∈A,l.length≤maxLen)→Bss w v A→Calls Tryz.prog 36 #[v] w fun r w'=>r= .returned (.agg (hv (xe f A)))∧Below w.heap.size w w') (hf:A.length≤f+1) :
  Calls Tryz.prog 36 #[.slice (some ⟨b,E,none⟩) A.length D] w fun r w'=>r= .returned (.agg (hv (xe (f+1) A)))∧Below w.heap.size w w':=by
 obtain⟨k1,k2,k3⟩:=jg A.length h2;rw [vb f A h2];have hk:kOf A.length≤A.length:=by omega
 obtain⟨x0,x1,x2,x3,x4,x5,x6,x7,hx⟩:=zj0 (yz (xe f (A.take (kOf A.length))) (xe f (A.drop (kOf A.length)))) (ql _ _);have V:=za hx;have U:=za I;have H:=za h;have W:=za ih;have f1:(A.take (kOf A.length)).length≤f:=by simp;omega
 have f2:(A.drop (kOf A.length)).length≤f:=by simp;omega
 have f3:(A.take (kOf A.length)).length≤1000000:=by simp;omega
 have f4:(A.drop (kOf A.length)).length≤1000000:=by simp;omega
 have F:=za (And.intro f1 (And.intro f2 (And.intro f3 f4)));clear f1 f2 f3 f4;have n1:((A.length:Int)==0)=false:=beq_eq_false_iff_ne.2 (by omega);have n2:((A.length:Int)==1)=false:=beq_eq_false_iff_ne.2 (by omega);clear hx I h ih;go_enter Tryz.func36,Tryz.ntmps36;go_wp2_with fail;refine(zd0 A.length _ h2 (Nat.le_trans hn (by decide))).mono ?_;rintro e w' ⟨rfl,rfl⟩;have X:(kOf A.length:Int)≤(D:Int):=by omega
 have Y:(kOf A.length:Int)≤(A.length:Int):=by omega
 have Z:(0:Int)≤(kOf A.length:Int):=by omega
 go_wp2_with fail
 go_region_with (first
  | (go_at_call_of 36 (Value.slice (some (⟨b,E,none⟩:Addr)) (kOf A.length) D);refine(W.out _ (A.take (kOf A.length)) _ F.out.1 F.out.2.2.1 (fun l I=>U.o l (List.mem_of_mem_take I)) (by exact(H.o.take _ hk).below (Own.start w).1)).mono ?_;rintro e w1 ⟨rfl,L⟩;have J:Hid (Own w w1):=(Own.start w).next L;clear L)
  | (go_at_call_of 36 (Value.slice (some (⟨b,E+kOf A.length,none⟩:Addr)) (A.length - kOf A.length) (D - kOf A.length));refine(W.out _ (A.drop (kOf A.length)) _ F.out.2.1 F.out.2.2.2 (fun l I=>U.o l (List.mem_of_mem_drop I)) (by exact(H.o.drop _ hk).below J.o.1)).mono ?_;rintro e w2 ⟨rfl,Q⟩;have S:Hid (Own w w2):=J.o.next Q;clear Q)
  | (go_at_call 71;refine(zay _ _ _ (qk _ _) (qk _ _)).mono ?_;rintro e w3 ⟨hr,R⟩;rw [V.o] at hr;subst hr;have K:Hid (Own w w3):=S.o.next R;clear R;obtain⟨⟨c0,X,Y,Z,c4,c5,c6,c7⟩,hf⟩:=z5a K.o.2))
 go_wp2;refine bodyPost_ret (v:= .agg #[.int .u8 x0,.int .u8 x1,.int .u8 x2,.int .u8 x3,.int .u8 x4,.int .u8 x5,.int .u8 x6,.int .u8 x7]) (by simp [results,Tryz.results36,go_sem,c0,X,Y,Z,c4,c5,c6,c7]) rfl ⟨by rw [V.o],?_⟩;exact zmg K.o.1 (Nat.le_refl _) _ _ _ _ _ _ _ _
theorem zji (f:Nat):∀(v:Value) (A:List (List UInt8)) (w:World),A.length≤f→A.length≤1000000→(∀ l∈A,l.length≤maxLen)→Bss w v A →
  Calls Tryz.prog 36 #[v] w fun r w'=>r= .returned (.agg (hv (xe f A)))∧Below w.heap.size w w':=by
 induction f with
 | zero=>exact fun v A w I _ _ h=>zo4 0 v A w (by omega) h
 | succ f ih =>
  intro v A w I L J h;by_cases h0:A.length=0
  ·exact zo4 _ v A w h0 h
  by_cases h1:A.length=1
  ·exact z38 f v A w h1 J h
  ·have K:=h;obtain⟨a,D,rfl,E,h⟩:=h;rcases h with h | ⟨b,H,rfl,-⟩
   ·exact absurd (by simp [h]) h0
   ·exact z1z f b H D A w (by omega) L E J K ih I
end Go.Proofs.YtndkblnpbjffhaaGreatDoor
