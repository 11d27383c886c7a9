import Derived.Test.YtndkblnpbjffhaaGreatDoorG18
import Derived.Test.YtndkblnpbjffhaaGreatDoorG17
set_option maxHeartbeats 4000000
set_option maxRecDepth 100000
open Go.RowKit
namespace Go.Proofs.YtndkblnpbjffhaaGreatDoor
theorem zry (d h:List UInt8):(⟨#[116,105,108,101,115,10]⟩++⟨d.toArray⟩++⟨#[10]⟩++⟨h.toArray⟩++⟨#[10]⟩:ByteArray)=⟨(zaz++d++[10]++h++[10]).toArray⟩:=by
 apply ByteArray.ext;simp [zaz]
theorem zuk (n:Int)(h0:0≤n)(h1:n≤9223372036854775807)(root key:List UInt8)(hr:root.length=8)(hk:key.length≤2097152)(w:World):
  Calls Tryz.prog 60 #[.int .i64 n,.string ⟨root.toArray⟩,.string ⟨key.toArray⟩] w fun r w'=>r= .returned (.string ⟨(jr n.toNat root key).toArray⟩)∧Below w.heap.size w w':=by
 have Z:Hid (jr n.toNat root key=(zaz++dec n.toNat++[10]++j2 root++[10])++j2 (hash (key++[0]++(zaz++dec n.toNat++[10]++j2 root++[10])))++[10]):=rfl;have hd:=js n h0 h1;have hx:=vw root;rw [hr] at hx;go_enter Tryz.func60,Tryz.ntmps60;go_wp2_with fail;refine(zai n h0 h1 w).mono ?_;rintro r w1 ⟨rfl,J⟩;have D:=za J;clear J;generalize dec n.toNat=d at *
 go_wp2_with fail;refine(znk root (by omega) w1).mono ?_;rintro r X ⟨rfl,K⟩;have E:Hid (Below w.heap.size w X):=D.o.trans (K.mono D.o.size);clear K;generalize j2 root=h at *
 have a1:¬ 9223372036854775807 < 6+d.length:=by omega
 have a2:¬ 9223372036854775807 < 6+d.length+1:=by omega
 have a3:¬ 9223372036854775807 < 6+d.length+1+h.length:=by omega
 have a4:¬ 9223372036854775807 < 6+d.length+1+h.length+1:=by omega
 have a5:¬ 9223372036854775807 < key.length+1:=by omega
 have aa:=zry d h;have ac:(zaz++d++[10]++h++[10]).length≤60:=by simp [zaz];omega
 generalize zaz++d++[10]++h++[10]=L at *
 have a6:¬ 9223372036854775807 < key.length+1+L.length:=by omega
 go_wp2_with fail;refine(zdg _ X (by rw [zde,zde];show key.toArray.size+1+L.toArray.size≤maxLen;simp [maxLen];omega)).mono ?_;rintro r Y ⟨A,Q⟩;have I:Hid (Below w.heap.size w Y):=E.o.trans (Q.mono E.o.size);rw [zb9,zb9] at A;have W:r= .returned (txt (hash (key++[0]++L))):=A;subst W;clear A Q;unfold txt;have V:=zla (key++[0]++L);generalize hash (key++[0]++L)=H at *
 go_wp2_with fail;refine(znk H (by omega) Y).mono ?_;rintro r w4 ⟨rfl,R⟩;have S:Hid (Below w.heap.size w w4):=I.o.trans (R.mono I.o.size);clear R;have U:=vw H;rw [V] at U;generalize j2 H=M at *
 have a7:¬ 9223372036854775807 < L.length+M.length:=by omega
 have a8:¬ 9223372036854775807 < L.length+M.length+1:=by omega
 go_wp2_with fail;go_ret;refine⟨?_,S.o⟩;rw [Z.o];exact zcf (by apply ByteArray.ext;simp)
def tv (n:Int)(h r A D E H I J:UInt8):Array Value:=#[.int .i64 n,.int .u8 h.toNat,.int .u8 r.toNat,.int .u8 A.toNat,.int .u8 D.toNat,.int .u8 E.toNat,.int .u8 H.toNat,.int .u8 I.toNat,.int .u8 J.toNat]
theorem znf {w:World}{g:Nat}{r A D E H I J K L:Value}{t:TypeId}{Q:Nat×Nat}(h:w.heap[g]?=some (.cells #[r,A,D,E,H,I,J,K,L] t Q)):
  w.cell? ⟨g,0,none⟩=some r∧w.cell? ⟨g,1,none⟩=some A∧w.cell? ⟨g,2,none⟩=some D∧w.cell? ⟨g,3,none⟩=some E∧w.cell? ⟨g,4,none⟩=some H∧w.cell? ⟨g,5,none⟩=some I∧w.cell? ⟨g,6,none⟩=some J∧w.cell? ⟨g,7,none⟩=some K∧w.cell? ⟨g,8,none⟩=some L:=by
 refine⟨?_,?_,?_,?_,?_,?_,?_,?_,?_⟩<;>rw [cell_of_row _ _ _ _ _ _ h]<;>rfl
theorem zyu (w:World)(k:List UInt8)(c:Nat):Bs (w.alloc (.cells (bytesRow ⟨k.toArray⟩ c) 5 ((bytesRow ⟨k.toArray⟩ c).size,(bytesRow ⟨k.toArray⟩ c).size+1))) (.slice (some ⟨w.heap.size,0,none⟩) k.length c) k :=
 ⟨_,_,rfl,.inr ⟨w.heap.size,0,rfl,fun i h=>by
  rw [Nat.zero_add,zis w ⟨k.toArray⟩ c i h];rfl⟩⟩
theorem zxq (w:World)(k l:List UInt8)(r h:Nat):
  Bss ((((w.alloc (.cells (bytesRow ⟨k.toArray⟩ r) 5 ((bytesRow ⟨k.toArray⟩ r).size,(bytesRow ⟨k.toArray⟩ r).size+1))).alloc (.cells #[.int .u8 0] 5)).alloc (.cells (bytesRow ⟨l.toArray⟩ h) 5 ((bytesRow ⟨l.toArray⟩ h).size,(bytesRow ⟨l.toArray⟩ h).size+1))).alloc
   (.cells #[.slice (some ⟨w.heap.size,0,none⟩) k.length r,.slice (some ⟨w.heap.size+1,0,none⟩) 1 1,.slice (some ⟨w.heap.size+1+1,0,none⟩) l.length h] 100)) (.slice (some ⟨w.heap.size+1+1+1,0,none⟩) 3 3) [k,[0],l]:=by
 have h1:=zyu w k r;have K:(w.alloc (.cells (bytesRow ⟨k.toArray⟩ r) 5 ((bytesRow ⟨k.toArray⟩ r).size,(bytesRow ⟨k.toArray⟩ r).size+1))).heap.size=w.heap.size+1:=by simp
 generalize w.alloc (.cells (bytesRow ⟨k.toArray⟩ r) 5 ((bytesRow ⟨k.toArray⟩ r).size,(bytesRow ⟨k.toArray⟩ r).size+1))=A at *
 have h2:Bs (A.alloc (.cells #[.int .u8 0] 5)) (.slice (some ⟨w.heap.size+1,0,none⟩) 1 1) [0]:=Bs.fresh A [0] 5 (w.heap.size+1) K.symm 1;have h1:=h1.below (ze A (.cells #[.int .u8 0] 5));have L:(A.alloc (.cells #[.int .u8 0] 5)).heap.size=w.heap.size+1+1:=by simp [K]
 generalize A.alloc (.cells #[.int .u8 0] 5)=D at *
 have J:=zyu D l h;rw [L] at J;have h1:=h1.below (ze D (.cells (bytesRow ⟨l.toArray⟩ h) 5 ((bytesRow ⟨l.toArray⟩ h).size,(bytesRow ⟨l.toArray⟩ h).size+1)));have h2:=h2.below (ze D (.cells (bytesRow ⟨l.toArray⟩ h) 5 ((bytesRow ⟨l.toArray⟩ h).size,(bytesRow ⟨l.toArray⟩ h).size+1)));have I:(D.alloc (.cells (bytesRow ⟨l.toArray⟩ h) 5 ((bytesRow ⟨l.toArray⟩ h).size,(bytesRow ⟨l.toArray⟩ h).size+1))).heap.size=w.heap.size+1+1+1:=by simp [L]
 generalize D.alloc (.cells (bytesRow ⟨l.toArray⟩ h) 5 ((bytesRow ⟨l.toArray⟩ h).size,(bytesRow ⟨l.toArray⟩ h).size+1))=E at *
 refine⟨_,3,rfl,Nat.le_refl _,.inr ⟨w.heap.size+1+1+1,0,rfl,fun i Q=>?_⟩⟩;have H:=ze E (.cells #[.slice (some ⟨w.heap.size,0,none⟩) k.length r,.slice (some ⟨w.heap.size+1,0,none⟩) 1 1,.slice (some ⟨w.heap.size+1+1,0,none⟩) l.length h] 100);rw [Nat.zero_add]
 match i,Q with
 | 0,_=>exact⟨_,zce E _ _ 0 _ I.symm,h1.below H⟩
 | 1,_=>exact⟨_,zce E _ _ 1 _ I.symm,h2.below H⟩
 | 2,_=>exact⟨_,zce E _ _ 2 _ I.symm,J.below H⟩
theorem zmy (n:Int)(h0:0≤n)(h1:n≤9223372036854775807)(A D I J K Q R S:UInt8)(key:List UInt8)(hk:key.length≤2097152)(w:World)(E:Env w):
  Calls Tryz.prog 93 #[.agg (tv n A D I J K Q R S),.string ⟨key.toArray⟩] w fun r w'=>r= .returned (.string ⟨(jr n.toNat [A,D,I,J,K,Q,R,S] key).toArray⟩)∧Below w.heap.size w w':=by
 unfold tv;have HE:=za E;clear E;have HS:Hid (jr n.toNat [A,D,I,J,K,Q,R,S] key=(zaz++dec n.toNat++[10]++j2 [A,D,I,J,K,Q,R,S]++[10])++j2 (hash (key++[0]++(zaz++dec n.toNat++[10]++j2 [A,D,I,J,K,Q,R,S]++[10])))++[10]):=rfl;have hd:=js n h0 h1;have hx:=vw [A,D,I,J,K,Q,R,S];simp only [List.length_cons,List.length_nil] at hx;have HX:=za (zgh [A,D,I,J,K,Q,R,S] rfl);have HI:=za (zbc n h0 h1);generalize dec n.toNat=d at *
 generalize j2 [A,D,I,J,K,Q,R,S]=h at *
 have a1:¬ 9223372036854775807 < 6+d.length:=by omega
 have a2:¬ 9223372036854775807 < 6+d.length+1:=by omega
 have a3:¬ 9223372036854775807 < 6+d.length+1+h.length:=by omega
 have a4:¬ 9223372036854775807 < 6+d.length+1+h.length+1:=by omega
 have aj:=zry d h;have ak:(zaz++d++[10]++h++[10]).length≤60:=by simp [zaz];omega
 generalize zaz++d++[10]++h++[10]=L at *
 have ai:∀(w0:World) (s:ByteArray),(convert 9 100 (.string s)).run Tryz.prog w0=_:=fun w0 s=>run_bytes_of_string (P:=Tryz.prog) w0 9 100 5 s Tryz.underlying9 Tryz.underlying100 Tryz.underlying5;go_enter Tryz.func93,Tryz.ntmps93;go_wp2_with fail
 go_region_with (first
  | (go_at_call 132;refine(HI.o _ (HE.o.below (ze w _).drew)).mono ?_;rintro r w1 ⟨rfl,W⟩;have U:Hid (Below w.heap.size w w1):=(ze w _).drew.trans (W.mono (by simp));obtain⟨c0,c1,c2,c3,c4,c5,c6,c7,c8⟩:=znf ((W.block w.heap.size (by simp)).trans (heap_alloc_last _ _));clear W)
  | (go_at_call 133;refine(HX.o _).mono ?_;rintro r w2 ⟨rfl,Z⟩;have X:Hid (Below w.heap.size w w2):=U.o.trans (Z.mono U.o.size);clear Z))
 all_goals clear c0 c1 c2 c3 c4 c5 c6 c7 c8 U w1
 all_goals
  have aa:=fun(o1 o2 o3 o4:Obj)=>(jn w2 o1 o2 o3).trans ((ze _ o4).mono (by simp;omega));have V:Hid (∀ o1 o2 o3 o4,Below w.heap.size w ((((w2.alloc o1).alloc o2).alloc o3).alloc o4)):=fun o1 o2 o3 o4=>X.o.trans ((aa o1 o2 o3 o4).mono X.o.size);clear aa;go_wp2_with fail;refine(zgd _ [key,[0],L] _ (by simp [maxLen]) (fun x hx=>by simp at hx;rcases hx with rfl | rfl | rfl<;>(unfold maxLen;simp;try omega)) (by exact(zxq w2 key L _ _).below ((Below.refl _ _).drew.drew))).mono ?_;rintro r w5 ⟨af,ac⟩;have Y:Hid (Below w.heap.size w w5):=((V.o _ _ _ _).drew.drew).trans (ac.mono (V.o _ _ _ _).size);rw [show hash [key,[0],L].flatten=hash (key++[0]++L) by simp] at af;subst af;clear ac V ai;have ae:=zla (key++[0]++L);generalize hash (key++[0]++L)=H at *
  go_wp2_with fail;refine(zgh H ae w5).mono ?_;rintro r w6 ⟨rfl,ad⟩;have ag:Hid (Below w.heap.size w w6):=Y.o.trans (ad.mono Y.o.size);clear ad;have ah:=vw H;rw [ae] at ah;generalize j2 H=M at *
  have a7:¬ 9223372036854775807 < L.length+M.length:=by omega
  have a8:¬ 9223372036854775807 < L.length+M.length+1:=by omega
  go_wp2_with fail;go_ret;refine⟨?_,ag.o⟩;rw [HS.o];exact zcf (by apply ByteArray.ext;simp)
theorem z5h {e:Bool}{B A:Nat}{r:Value}{w:World}(h:zcn e B r w)(E:A≤B):zcn e A r w:=by
 rcases h with h | ⟨h,g,h1,h2,D⟩
 ·exact .inl h
 ·exact .inr ⟨h,g,h1,Nat.le_trans E h2,D⟩
theorem z1m (O:Nat→Prop)(D lb E I:Nat)(d:Dk)(x:List UInt8)(w:World)(Z:d.fs.length≤1000000000)(h:zq w O D d)
  (h1:w.cell? ⟨E,0,none⟩=some (.pointer (some ⟨lb,0,none⟩))) (h2:w.cell? ⟨I,0,none⟩=some (txv x)) (A:w.cell? ⟨lb,0,none⟩=some (stV D true)) :
  Calls Tryz.prog 217 #[.pointer (some ⟨E,0,none⟩),.pointer (some ⟨I,0,none⟩)] w fun r w'=>∃ e,r= .returned e∧zcn (bad d) w.heap.size e w'∧zg O dT w w'∧zq w' (Ext O w w') D (zdl d cpF x):=by
 have l1:=zk h1;have l2:=zk h2;have l3:=zk A;unfold stV vr at A;simp only [if_true] at A;unfold txv at h2;have V:∀ o,(w.alloc o).cell? ⟨E,0,none⟩=some (.pointer (some ⟨lb,0,none⟩)):=fun o=>by rw [zl _ _ ⟨_,0,none⟩ l1];exact h1
 have W:∀ o,(w.alloc o).cell? ⟨lb,0,none⟩=some (.iface 36 (.pointer (some ⟨D,0,none⟩))):=fun o=>by rw [zl _ _ ⟨_,0,none⟩ l3];exact A
 have Q:=za h;clear h;have hm:=zz3;have X:=fun w0=>run_bytes_of_string (P:=Tryz.prog) w0 9 100 5 ⟨x.toArray⟩ Tryz.underlying9 Tryz.underlying100 Tryz.underlying5;go_enter Tryz.func217,Tryz.ntmps217;go_wp2_with fail
 go_region_with (go_at_call 262;refine(z39 O D d cpF x _ _ Z (by exact Q.o.stay (O1:=fun _=>False) (T:=[]) ((zg.refl _ _ w).alloc _).drew.drew (by simp) (by simp)) (by exact zlu w x _ (grownCap_ge _ _ _ _))).mono ?_;rintro r w1 ⟨e,rfl,K,L,J⟩;have R:=za K;have S:=za L;have H:=za J;clear K L J)
 all_goals go_wp2
 all_goals go_ret
 all_goals refine⟨_,rfl,z5h R.o (by show w.heap.size≤(w.heap.push _).size;simp),((zg.refl O dT w).alloc _).drew.drew.trans (S.o.mono (fun _ h=> .inl h) (fun _ h=>h)),H.o.mono (fun k Y=>?_)⟩
 all_goals rcases Y with h | ⟨h,U⟩
 all_goals first | exact .inl h | exact .inr ⟨Nat.le_trans (by show w.heap.size≤(w.heap.push _).size;simp) h,U⟩
theorem OBs.bss' {w:World}{B:Nat}{v:Value}{A:List (List UInt8)}(h:OBs w B v A):Bss w v A:=by
 obtain⟨xs,⟨X,S⟩,V⟩:=h;rcases S with ⟨rfl,h0⟩ | ⟨g,D,H,rfl,W,L,R,hm,Y,U⟩
 ·exact⟨none,0,by rw [h0],by rw [h0];exact Nat.le_refl _,.inl (List.length_eq_zero_iff.1 h0)⟩
 ·refine⟨_,_,rfl,R,.inr ⟨g,0,rfl,fun i r=>?_⟩⟩;obtain⟨x,e,J⟩:=V i r;refine⟨x,?_,?_⟩
  ·rw [Nat.zero_add,cell_of_row _ _ _ _ _ _ L];rw [← U,Nat.mul_one] at e;rw [List.getElem?_take,if_pos r] at e;simpa using e
  ·obtain⟨I,E,rfl,-,-,K⟩:=J.form;exact⟨_,_,rfl,.inr ⟨I,0,rfl,fun j Q=>by rw [Nat.zero_add];exact K j Q⟩⟩
theorem zmq {w:World}{b r:Nat}{A:Value}{l:Lg}(h:w.heap[b]?=some (.cells (zd8 r A l) 189 (0,0))):(w.cell? ⟨b,0,none⟩=some (stV r l.live)∧w.frozen? ⟨b,0,none⟩=false)∧(w.cell? ⟨b,1,none⟩=some (txv l.key)∧w.frozen? ⟨b,1,none⟩=false)∧(w.cell? ⟨b,2,none⟩=some A∧w.frozen? ⟨b,2,none⟩=false)∧(w.cell? ⟨b,3,none⟩=some (.int .i64 l.put)∧w.frozen? ⟨b,3,none⟩=false) :=
 ⟨zf h 0 _ rfl,zf h 1 _ rfl,zf h 2 _ rfl,zf h 3 _ rfl⟩
theorem zyx {w:World}{g:Nat}{cs:Array Value}{t:TypeId}(h:w.heap[g]?=some (.cells cs t (0,0))):∀ i,w.frozen? ⟨g,i,none⟩=false:=fun i=>by simp [World.frozen?,h]
theorem z9d (w:World)(r h:Obj){A:World}(D:Below ((w.alloc r).alloc h).drew.heap.size ((w.alloc r).alloc h).drew A):A.heap[w.heap.size+1]?=some h:=by
 have e:((w.alloc r).alloc h).drew.heap[w.heap.size+1]?=some h:=by
  show((w.alloc r).alloc h).heap[w.heap.size+1]?=some h;rw [show w.heap.size+1=(w.alloc r).heap.size by simp];exact heap_alloc_last _ _
 rw [D.block _ (zb e)];exact e
abbrev lT:List Nat:=[189,100]
theorem qz.stay {w w':World}{O O1:Nat→Prop}{T:List Nat}{D b:Nat}{l:Lg}(h:qz w O D b l)(A:zg O1 T w w')(h1:189∉T)(h2:100∉T)(H:5∉T):qz w' O D b l:=by
 obtain⟨E,a,I,⟨xs,L,Q⟩,J⟩:=h;refine⟨E,a,A.keep I h1,⟨xs,zi L A h2,fun j K=>?_⟩,J⟩;obtain⟨x,e,r⟩:=Q j K;exact⟨x,e,zi r.1 A H,r.2⟩
theorem qz.mono {w:World}{O O':Nat→Prop}{A b:Nat}{l:Lg}(h:qz w O A b l)(D:∀ k,O k→O' k):qz w O' A b l:=by
 obtain⟨E,a,H,r,I⟩:=h;exact⟨E,D _ a,H,r,fun g e=>D g (I g e)⟩
theorem z3q {w w':World}{O:Nat→Prop}{T:List Nat}{B:Nat}{v:Value}{es:List (List UInt8)}(h:OBs w B v es)(A:zg O T w w')(h2:100∉T)(D:5∉T):OBs w' B v es:=by
 obtain⟨xs,H,I⟩:=h;refine⟨xs,zi H A h2,fun j E=>?_⟩;obtain⟨x,e,r⟩:=I j E;exact⟨x,e,zi r.1 A D,r.2⟩
theorem zpu {w:World}{B:Nat}{a:Option Addr}{A:Nat}{es:List (List UInt8)}(h:OBs w B (.slice a es.length A) es)(h0:0 < es.length):∃ g,a=some ⟨g,0,none⟩∧∃ xs:List Value,w.ownsRow B 100 1 (.slice a es.length A) es.length xs:=by
 obtain⟨xs,D,I⟩:=h;rcases D.2 with ⟨e,H⟩ | ⟨g,c,E,e,r⟩
 ·omega
 ·simp at e;exact⟨g,e.1,xs,D⟩
theorem zx4 {w:World}{B:Nat}{a:Option Addr}{r:Nat}{es:List (List UInt8)}(h:OBs w B (.slice a es.length r) es):es.length≤r:=by
 obtain⟨D,A,e,E,-⟩:=h.bss';simp only [Value.slice.injEq,true_and] at e;omega
theorem zvl {O:Nat→Prop}{w0 w A:World}{W lb:Nat}{l:Lg}{es b:List (List UInt8)}{a:Option Addr}{D g r hv B:Nat}{xs ys:List Value}
  {T:List Nat} (HT:zg O T w0 w) (hO:Ext O w0 w lb) (hg:∀ g,(Value.slice a es.length D).ownBlock=some g→Ext O w0 w g)
  (J:w.ownsRow 0 100 1 (.slice a es.length D) es.length xs) (Y:∀ j (h:j < es.length),∃ x,xs[j]?=some x∧OB w 0 x es[j])
  (Z:∀ j (h:j < b.length),∃ x,ys[j]?=some x∧OB w B x b[j]) (ai:hv≤b.length) (aj:ys.length=b.length)
  (Q:A.ownsRow 0 100 1 (.slice (some ⟨g,0,none⟩) (es.length+(b.length - hv)) r) (es.length+(b.length - hv)) (xs++ys.drop hv))
  (I:w.drew.grownBy A (Value.slice a es.length D).ownBlock) (X:(Value.slice a es.length D).ownBlock=some g∨g=w.heap.size)
  (H:A.heap[lb]?=some (.cells (zd8 W (.slice a es.length D) { key:=l.key,es:=es,put:=l.put,live:=l.live }) 189 (0,0))) (aa:100∈T:=by decide) (ac:189∈T:=by decide) :
  zg O T w0 (A.setCell ⟨lb,2,none⟩ (.slice (some ⟨g,0,none⟩) (es.length+(b.length - hv)) r))∧qz (A.setCell ⟨lb,2,none⟩ (.slice (some ⟨g,0,none⟩) (es.length+(b.length - hv)) r)) (Ext O w0 (A.setCell ⟨lb,2,none⟩ (.slice (some ⟨g,0,none⟩) (es.length+(b.length - hv)) r))) W lb { l with es:=es++b.drop hv } ∧
   (∀ d,zq w O W d→zq (A.setCell ⟨lb,2,none⟩ (.slice (some ⟨g,0,none⟩) (es.length+(b.length - hv)) r)) O W d)∧zg (fun _=>True) [100,189] w (A.setCell ⟨lb,2,none⟩ (.slice (some ⟨g,0,none⟩) (es.length+(b.length - hv)) r)):=by
 have E:zg (fun _=>True) [100] w A:=(zg.refl _ _ w).drew.grown (w:=w.drew) J I (fun _ _=> .inl trivial) (by decide);have K:zg (fun _=>True) [189] A (A.setCell ⟨lb,2,none⟩ (.slice (some ⟨g,0,none⟩) (es.length+(b.length - hv)) r)):=(zg.refl _ _ A).set (.inl trivial) H (by decide) _;have t4:zg O T w0 A:=HT.drew.grown (w:=w.drew) J I hg aa;have V:w.heap.size≤A.heap.size:=I.size;have U:Ext O w0 A lb:=Ext.more V _ hO;have L:(A.setCell ⟨lb,2,none⟩ (.slice (some ⟨g,0,none⟩) (es.length+(b.length - hv)) r)).heap.size=A.heap.size:=by simp [World.setCell]
 have ag:xs.length=es.length:=by rw [J.1,Nat.mul_one]
 have af:g < A.heap.size:=by
  rcases Q.2 with ⟨e,-⟩ | ⟨g',c',ah,e,-,ae,-⟩
  ·simp at e
  ·simp at e;rw [e.1];exact zb ae
 have ad:(es++b.drop hv).length=es.length+(b.length - hv):=by simp
 refine⟨t4.set U H ac _,⟨.slice (some ⟨g,0,none⟩) (es.length+(b.length - hv)) r,?_,qo H 2 _,?_,?_⟩,fun d hd=>?_,(E.mono (fun _ h=>h) (by simp)).trans (K.mono (fun _ _=> .inl trivial) (by simp))⟩
 ·exact Ext.more (by rw [L];exact Nat.le_refl _) _ U
 ·show OBs _ 0 _ (es++b.drop hv);refine z3q ⟨xs++ys.drop hv,by rw [ad];exact Q,fun j hj=>?_⟩ K (by decide) (by decide);by_cases S:j < es.length
  ·obtain⟨x,e,R⟩:=Y j S;refine⟨x,by rw [List.getElem?_append_left (by omega)];exact e,?_⟩;rw [List.getElem_append_left S];exact⟨zi R.1 E (by decide),R.2⟩
  ·obtain⟨x,e,R⟩:=Z (hv+(j - es.length)) (by omega);refine⟨x,by rw [List.getElem?_append_right (by omega),ag,List.getElem?_drop];exact e,?_⟩;rw [List.getElem_append_right (by omega),List.getElem_drop];exact(show OB A B x _ from ⟨zi R.1 E (by decide),R.2⟩).weaken (Nat.zero_le _)
 ·intro g' e;simp only [Value.ownBlock,Option.some.injEq] at e;subst e;rcases X with h | h
  ·exact Ext.more (by rw [L];exact V) _ (hg _ h)
  ·exact .inr ⟨by have:=HT.size;omega,by rw [L];exact af⟩
 ·exact(hd.stay E (by decide) (by decide)).stay K (by decide) (by decide)
end Go.Proofs.YtndkblnpbjffhaaGreatDoor
