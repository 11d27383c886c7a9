import Derived.Test.YtndkblnpbjffhaaGreatDoorG05
set_option maxHeartbeats 2000000
set_option maxRecDepth 100000
open Go.RowKit
namespace Go.Proofs.YtndkblnpbjffhaaGreatDoor
theorem zmd:(Tryz.prog.info? 5).map (fun i=>(i.zero,i.size,i.bytes))=some (some (.int .u8 0),1,1):=by kernel_rfl
def OB (w:World)(B:Nat)(x:Value)(l:List UInt8):Prop:=w.ownsRow B 5 1 x l.length (l.map bv)∧x≠ .slice none 0 0
theorem OB.form {w:World}{B:Nat}{x:Value}{l:List UInt8}(h:OB w B x l):∃ g r,x= .slice (some ⟨g,0,none⟩) l.length r∧B≤g∧g < w.heap.size∧∀ i (D:i < l.length),w.cell? ⟨g,i,none⟩=some (bv l[i]):=by
 rcases h.1.2 with h0 | ⟨g,r,E,rfl,H,A,J,hm,K,I⟩
 ·exact absurd h0.1 h.2
 ·refine⟨g,r,rfl,H,xk A,fun i D=>?_⟩;rw [cell_of_row _ _ _ _ _ _ A];have e:(l.map bv)[i]?=some (bv l[i]):=by simp [D]
  rw [← I,List.getElem?_take,if_pos (by omega)] at e;simpa using e
theorem OB.below {w w':World}{B:Nat}{x:Value}{l:List UInt8}(h:OB w B x l)(r:Below w.heap.size w w'):OB w' B x l:=⟨zy h.1 r,h.2⟩
theorem zx5 {r:List (List UInt8)}(h:4 < r.length):okB r=false:=by
 unfold okB;rw [show decide (r.length≤4)=false by simp;omega];simp
theorem zm4 {r:List (List UInt8)}(h:r.length=0):okB r=false:=by
 unfold okB;rw [h];rfl
theorem zr8 {r:List (List UInt8)}(k:Nat)(A:k < r.length)(h:20 < r[k].length):okB r=false:=by
 have:r.all (fun l=>decide (l.length≤20))=false:=by
  rw [List.all_eq_false];exact⟨r[k],List.getElem_mem A,by simp;omega⟩
 unfold okB;rw [this];simp
theorem zqi {r:List (List UInt8)}(h1:1≤r.length)(D:r.length≤4)(h:∀ j (A:j < r.length),r[j].length≤20):okB r=true:=by
 simp only [okB,Bool.and_eq_true,decide_eq_true_eq,List.all_eq_true];refine⟨h1,D,fun s E=>?_⟩;obtain⟨j,A,rfl⟩:=List.getElem_of_mem E;exact h j A
theorem z3c (r:List (List UInt8))(k:Nat)(A:k < r.length)(h:r[k].length≤20):
  (za3 (r.take (k+1))).length=(za3 (r.take k)).length+1+r[k].length∧(za3 (r.take (k+1))).map bv=(za3 (r.take k)).map bv++[.int .u8 (r[k].length:Int)]++r[k].map bv:=by
 rw [List.take_succ_eq_append_getElem A,zdb,zho,zj4];refine⟨by simp;omega,?_⟩;have e:bv (UInt8.ofNat r[k].length)= .int .u8 (r[k].length:Int):=by
  unfold bv;congr 1;rw [UInt8.toNat_ofNat'];omega
 rw [List.map_append,List.map_cons,e];simp
theorem z0a {w A:World}{g:Nat}{l:List UInt8}(H:∀ i (I:i < l.length),w.cell? ⟨g,i,none⟩=some (bv l[i]))(E:0 < l.length→g < w.heap.size)(D:Below w.heap.size w A)(j:Nat)(u:Value)(r:(l.map bv)[j]?=some u):A.cell? ((⟨g,0,none⟩:Addr).add j)=some u:=by
 have h:j < l.length:=by simpa using (List.getElem?_eq_some_iff.1 r).1
 rw [Addr.add_mid,Nat.zero_add,D.cell (p:=⟨g,j,none⟩) (E (by omega)),H j h];simpa [h] using r
theorem z6k (l:List UInt8):∀ u∈l.map bv,u.oneCell'=true:=by
 intro u hu;obtain⟨t,_,rfl⟩:=List.mem_map.1 hu;rfl
def z2c (h:List (List UInt8)):List UInt8:=if okB h=true then za3 h else []
theorem zua {r:List (List UInt8)}(h:okB r=true):z2c r=za3 r:=by unfold z2c;rw [if_pos h]
theorem zri {r:List (List UInt8)}(h:okB r=false):z2c r=[]:=by unfold z2c;rw [if_neg (by simp [h])]
theorem zn7 (v:Value)(A:List ByteArray)(w:World)(hn:A.length≤2000000)(W:∀ s∈A,s.size≤1048576)(h:Sss w v A):
  Calls Tryz.prog 107 #[v] w fun r w'=>r= .returned (.tuple #[txt (z2c (bys A)),.bool (okB (bys A))])∧Below w.heap.size w w':=by
 obtain⟨a,ai,rfl,ae,h'⟩:=h;have Hc:Hid (A.length=0∨∃ b D,a=some ⟨b,D,none⟩∧∀ i (h:i < A.length),w.cell? ⟨b,D+i,none⟩=some (.string A[i])):=by
  rcases h' with h | h
  ·exact .inl (by simp [h])
  ·exact .inr h
 have Hl:=za W;clear h' W ae;have ad:=vm A;by_cases h0:A.length=0
 ·have E:okB (bys A)=false:=zm4 (by omega);rw [zri E,E];go_enter Tryz.func107,Tryz.ntmps107;go_wp2;go_ret2;exact⟨rfl,Below.refl _ _⟩
 by_cases h4:4 < A.length
 ·have E:okB (bys A)=false:=zx5 (by omega);rw [zri E,E];go_enter Tryz.func107,Tryz.ntmps107;go_wp2;go_ret2;exact⟨rfl,Below.refl _ _⟩
 have n0:((A.length:Int)==0)=false:=by rw [beq_eq_false_iff_ne];omega
 have n4:¬(4:Int) < (A.length:Int):=by omega
 go_enter Tryz.func107,Tryz.ntmps107;go_wp2_with fail;go_loopw [4,5] (fun t i wr=>∃ k:Nat,k≤A.length∧i= .int .i64 k∧Below w.heap.size w wr∧t=txt (za3 ((bys A).take k))∧∀ j (J:j < (bys A).length),j < k→(bys A)[j].length≤20) (fun _ i _=>A.length - (intOf i).toNat)
 case atStart=>exact⟨0,Nat.zero_le _,rfl,Below.refl _ _,rfl,fun j _ J=>absurd J (Nat.not_lt_zero _)⟩
 case round =>
  obtain⟨k,hk,rfl,R,rfl,Q⟩:=hrel;have L:=za R;have V:=za Q;clear R Q;by_cases U:k < A.length
  ·rcases Hc.o with aj | ⟨b,D,rfl,S⟩
   ·omega
   have X:=S k U;rw [← L.o.cell (zk (p:=⟨b,D+k,none⟩) X)] at X;have hm:=Hl.o A[k] (List.getElem_mem U);clear S;have H:(bys A)[k]'(by omega)=A[k].data.toList:=by simp [bys]
   have I:((bys A)[k]'(by omega)).length=A[k].size:=by rw [H];simp
   by_cases h20:20 < A[k].size
   ·have E:okB (bys A)=false:=zr8 k (by omega) (by omega);have HR:=za E;have aa:=za (zri E);clear H I;generalize A[k]=s at *
    go_wp2;go_ret2;exact⟨by rw [HR.o,aa.o];rfl,L.o⟩
   ·have ac:Hid (za3 ((bys A).take (k+1))=za3 ((bys A).take k)++(UInt8.ofNat A[k].size::A[k].data.toList)):=by
     show za3 ((bys A).take (k+1))=_;rw [List.take_succ_eq_append_getElem (by omega),zdb,zho,zj4,I,H]
    have Y:Hid (∀ j (J:j < (bys A).length),j < k+1→(bys A)[j].length≤20):=fun j ah ak=>by
     rcases Nat.lt_or_ge j k with h | h
     ·exact V.o j ah h
     ·obtain rfl:j=k:=by omega
      omega
    have Z:=za (zs7 ((bys A).take k) (fun l W=>by
     obtain⟨j,J,rfl⟩:=List.getElem_of_mem W;have ag:j < k:=by simp at J;omega
     rw [List.getElem_take];exact V.o j (by omega) ag))
    have am:IntKind.u8.wrap (A[k].size:Int)=(A[k].size:Int):=by
     rw [IntKind.wrap_u8];omega
    clear H I V;generalize A[k]=s at *
    generalize za3 ((bys A).take k)=m at *
    have af:=zi8 (wr.alloc (.cells #[.int .u8 (s.size:Int)] 5)).drew wr.heap.size 1 1 [UInt8.ofNat s.size] 5 (0,0) rfl (by show(wr.alloc _).heap[_]?=_;rw [heap_alloc_last];simp [hv,bv];omega);have an:∀ o,(wr.alloc o).cell? ⟨b,D+k,none⟩=some (.string s):=fun o=>(zl wr o ⟨b,D+k,none⟩ (zk (p:=⟨b,D+k,none⟩) X)).trans X;have al:m.length≤84:=by have:=Z.o;rw [List.length_take,ad] at this;omega
    have b1:¬ 9223372036854775807 < m.length+1:=by omega
    have b2:¬ 9223372036854775807 < m.length+1+s.size:=by omega
    unfold txt at af ⊢;go_wp2_with fail;go_region;all_goals go_wp2
    all_goals go_roundw
    case rel=>exact⟨k+1,by omega,by go_num,(L.o.trans ((ze wr _).mono L.o.size)).drew,by rw [ac.o];congr 1;apply ByteArray.ext;simp,Y.o⟩
    case measure=>simp [intOf];omega
  ·go_wp2_with fail;go_ret2;have E:okB (bys A)=true:=zqi (by omega) (by omega) (fun j J=>V.o j J (by omega));rw [zua E,E,List.take_of_length_le (by omega)];exact⟨rfl,L.o⟩
def tb (l:List UInt8):ByteArray:=⟨l.toArray⟩
theorem zwq (h:List (List UInt8)):bys (h.map tb)=h:=by
 unfold bys tb;rw [List.map_map]
 conv=>rhs;rw [← List.map_id h]
 congr 1
theorem zfa (a:Addr)(n c:Nat)(l:List UInt8)(w:World)(hl:l.length=n)(hn:n≤1000000)(Q:∀ j u,(l.map bv)[j]?=some u→w.cell? (a.add j)=some u):
  Calls Tryz.prog 149 #[.slice (some a) n c] w fun r w'=>∃ x,r= .returned x∧OB w' w.heap.size x l∧Below w.heap.size w w':=by
 obtain⟨i,R,A⟩:=Option.map_eq_some_iff.1 zmd;obtain⟨H,I,J⟩:i.zero=some (.int .u8 0)∧i.size=1∧i.bytes=1:=by simpa using A
 clear A;have V:=za R;have K:=za (And.intro H (And.intro I J));clear R H I J;have q:∀(w:World) (a:Option Addr) (n c L c':Nat),(binOp .eql 100 (.slice a n c) (.slice none L c')).run Tryz.prog w= .ok (.bool a.isNone) w:=fun w a n c L c'=>Lib.run_eql_slice_nil w _ _ a n c L c' Tryz.underlying100;have S:=za Q;clear Q;go_enter Tryz.func149,Tryz.ntmps149;go_wp2_with (at_builtin;refine wpList_append_own _ rfl _ _ 100 rfl w.heap.size 5 i (.int .u8 0) 1 1 Tryz.underlying100 V.o K.o.1 K.o.2.1 K.o.2.2 rfl (by decide) (.slice (some ⟨w.heap.size,0,none⟩) 0 0) 0 [] rfl (World.ownsRow_made w #[] 0 (Nat.le_refl _) (Nat.zero_le _) rfl) a n c (l.map bv) rfl (by simp;omega) (fun j u Y=>Lib.cell?_alloc_some _ (S.o j u Y)) (z6k l) (by unfold maxLen;omega) (by omega) (by simp) ?_;intro v' w1 E h D;have X:=za E;have U:=za h;have W:=za D;clear E h D);go_ret;refine⟨v',rfl,⟨by have:=X.o;rw [hl];simpa using this,fun e=>absurd (W.o.1 e).1 (by simp)⟩,?_⟩;exact((Below.refl _ w).alloc (Nat.le_refl _) _).grown U.o (by simp) (by intro k Z;simp [Value.ownBlock] at Z;omega)
theorem OB.grown {w w':World}{B K:Nat}{x v:Value}{l:List UInt8}{n:Nat}{xs:List Value}(h:OB w B x l)(R:w.ownsRow K 100 1 v n xs)(I:w.grownBy w' v.ownBlock):OB w' B x l:=by
 refine⟨⟨h.1.1,?_⟩,h.2⟩;rcases h.1.2 with h0 | ⟨g,D,E,rfl,Q,H,r⟩
 ·exact .inl h0
 ·refine .inr ⟨g,D,E,rfl,Q,?_,r⟩;rw [I.block g (xk H) ?_]
  ·exact H
  ·intro J;rcases R.2 with ⟨rfl,_⟩ | ⟨S,c',L,rfl,_,A,_⟩
   ·simp [Value.ownBlock] at J
   ·simp only [Value.ownBlock,Option.some.injEq] at J;subst J;rw [H] at A;simp at A
theorem OB.weaken {w:World}{B E:Nat}{x:Value}{l:List UInt8}(h:OB w B x l)(H:E≤B):OB w E x l:=by
 refine⟨⟨h.1.1,?_⟩,h.2⟩;rcases h.1.2 with h0 | ⟨g,A,D,rfl,I,r⟩
 ·exact .inl h0
 ·exact .inr ⟨g,A,D,rfl,Nat.le_trans H I,r⟩
def OBs (w:World)(B:Nat)(v:Value)(r:List (List UInt8)):Prop :=
 ∃ xs:List Value,w.ownsRow B 100 1 v r.length xs∧∀ j (h:j < r.length),∃ x,xs[j]?=some x∧OB w B x r[j]
theorem OBs.nil (w:World)(B:Nat):OBs w B (.slice none 0 0) []:=⟨[],⟨rfl,.inl ⟨rfl,rfl⟩⟩,fun j h=>by simp at h⟩
theorem zl4 {wr K R:World}{B:Nat}{u x:Value}{xs:List Value}{r:List (List UInt8)}{l:List UInt8}{g D:Nat}{o:Obj}(U:B≤wr.heap.size)(S:wr.ownsRow B 100 1 u r.length xs)
  (Y:∀ j (h:j < r.length),∃ x,xs[j]?=some x∧OB wr B x r[j])
  (E:Below wr.heap.size wr K) (X:OB K wr.heap.size x l)
  (L:R.ownsRow B 100 1 (.slice (some ⟨g,0,none⟩) (r.length+1) D) (r.length+1) (xs++[x]))
  (H:(K.alloc o).grownBy R u.ownBlock) :
  OBs R B (.slice (some ⟨g,0,none⟩) (r.length+1) D) (r++[l]):=by
 have Q:xs.length=r.length:=by rw [S.1,Nat.mul_one]
 have J:(K.alloc o).ownsRow B 100 1 u r.length xs:=zy (zy S E) (ze _ _);refine⟨xs++[x],by simpa using L,fun j W=>?_⟩;by_cases I:j < r.length
 ·obtain⟨y,e,V⟩:=Y j I;refine⟨y,by rw [List.getElem?_append_left (by omega)];exact e,?_⟩;rw [List.getElem_append_left I];exact((V.below E).below (ze _ _)).grown J H
 ·obtain rfl:j=r.length:=by simp at W;omega
  refine⟨x,by rw [List.getElem?_append_right (by omega),Q];simp,?_⟩;rw [List.getElem_append_right (Nat.le_refl _)];simp only [Nat.sub_self,List.getElem_cons_zero];exact((X.weaken U).below (ze _ _)).grown J H
theorem z7v {x:Value}{p q:Bool}(h:p=q):Ending.returned (.tuple #[x,.bool p])= .returned (.tuple #[x,.bool q]):=by rw [h]
def z4r (w:World)(v:Value)(r:List UInt8):Prop:=∃ a A,v= .slice (some a) r.length A∧r.length≤A∧a.spot=none∧∀ i (h:i < r.length),w.cell? ⟨a.block,a.off+i,none⟩=some (bv r[i])
theorem zvi {w:World}{B:Nat}{x:Value}{l:List UInt8}(h:OB w B x l):∀ u∈[x],u.oneCell'=true:=by
 intro u hu;obtain rfl:u=x:=by simpa using hu
 obtain⟨g,r,rfl,-⟩:=h.form;rfl
theorem z4u {wr:World}{a:Addr}{r:List UInt8}(h:r.length=0)(n:Nat):∀ j u,((r.take n).map bv)[j]?=some u→wr.drew.cell? (a.add j)=some u:=by
 intro j u A;obtain rfl:r=[]:=List.length_eq_zero_iff.1 h;simp at A
theorem zhg {w:World}{B:Nat}{x:Value}{l:List UInt8}(h:OB w B x l):∃ g c n,x= .slice (some ⟨g,0,none⟩) n c:=by
 obtain⟨g,r,rfl,-⟩:=h.form;exact⟨g,r,_,rfl⟩
theorem z3l {r:List (List UInt8)}{l:List UInt8}(h:∀ l∈r,l.length≤20)(D:l.length≤20):∀ m∈r++[l],m.length≤20:=by
 intro m hm;rcases List.mem_append.1 hm with A | A
 ·exact h m A
 ·obtain rfl:m=l:=by simpa using A
  exact D
def yah:Value→Nat
 | .slice _ n _=>n
 | _=>0
theorem zpv {w:World}{b r:Nat}{D:List UInt8}(K:∀ i (h:i < D.length),w.cell? ⟨b,r+1+i,none⟩=some (bv D[i]))(n A H:Nat)(E:D.length - n≤A)(J:n < D.length→H=r+1+n):
  z4r w (.slice (some ⟨b,H,none⟩) (D.length - n) A) (D.drop n):=by
 refine⟨⟨b,H,none⟩,A,by rw [List.length_drop],by rw [List.length_drop];exact E,rfl,fun i I=>?_⟩;rw [List.length_drop] at I;obtain rfl:=J (by omega);rw [List.getElem_drop];show w.cell? ⟨b,r+1+n+i,none⟩=_;rw [Nat.add_assoc (r+1)];exact K (n+i) (by omega)
theorem z6q {w:World}{b o:Nat}{l:List UInt8}(h:l.length=0):z4r w (.slice (some ⟨b,o,none⟩) 0 0) l :=
 ⟨⟨b,o,none⟩,0,by rw [h],by rw [h];exact Nat.le_refl _,rfl,fun i r=>by omega⟩
theorem zm8 {w wr:World}{b r:Nat}{D:List UInt8}(L:∀ i (h:i < D.length),w.cell? ⟨b,r+1+i,none⟩=some (bv D[i]))(K:Below w.heap.size w wr)(n:Nat):∀ j u,((D.take n).map bv)[j]?=some u→wr.drew.cell? ((⟨b,r+1,none⟩:Addr).add j)=some u:=by
 intro j u E;have A:j < (D.take n).length:=by simpa using (List.getElem?_eq_some_iff.1 E).1
 have H:j < D.length:=by simp at A;omega
 have J:=L j H;rw [Addr.add_mid];show wr.cell? ⟨b,r+1+j,none⟩=_;rw [K.cell (p:=⟨b,r+1+j,none⟩) (zk (p:=⟨b,r+1+j,none⟩) J),J];rw [List.getElem?_map,List.getElem?_eq_getElem A,List.getElem_take] at E;simpa using E
theorem z7i (v:Value)(d:List UInt8)(w:World)(h:z4r w v d):
  Calls Tryz.prog 167 #[v] w fun r w'=>∃ x,r= .returned (.tuple #[x,.bool (zfb d).isSome])∧Below w.heap.size w w'∧OBs w' w.heap.size x ((zfb d).getD []):=by
 obtain⟨i,hi,al⟩:=Option.map_eq_some_iff.1 zox;obtain⟨an,ao,ap⟩:i.zero=some (.slice none 0 0)∧i.size=1∧i.bytes=24:=by simpa using al
 clear al;have HI:=za hi;have HZ:=za (And.intro an (And.intro ao ap));clear hi an ao ap;have aq:=za h;clear h;go_enter Tryz.func167,Tryz.ntmps167;go_wp2_with fail;go_loopw [0,4] (fun t u wr=>∃(r:List UInt8) (A:List (List UInt8)),z4r w t r∧Un d A r∧Below w.heap.size w wr∧OBs wr w.heap.size u A∧A.length≤4∧∀ l∈A,l.length≤20) (fun t _ _=>yah t)
 case atStart=>exact⟨d,[],aq.o,Un.start _,Below.refl _ _,OBs.nil _ _,Nat.zero_le _,fun l hl=>by simp at hl⟩
 case round =>
  obtain⟨r,A,⟨⟨b,V,a0⟩,U,rfl,au,ax,ak⟩,ag,aj,aw,h4,ai⟩:=hrel;obtain rfl:a0=none:=ax;have HU:=za ag;have E:=za aj;have HA:=za ai;have HC:=za ak;obtain⟨xs,ho,am⟩:=aw;have X:=za ho;have HX:=za am;obtain⟨ae,ce,ay⟩:∃ ae ce,u4= .slice ae A.length ce:=by
   rcases ho.2 with ⟨e,e0⟩ | ⟨g,U,a1,e,_⟩
   ·exact⟨none,0,by rw [e,e0]⟩
   ·exact⟨_,_,e⟩
  subst ay;have av:=ag.2;clear ag aj ai ak ho am;cases r with
  | nil =>
   by_cases h1:1≤A.length
   ·have n1:(0:Int) < (A.length:Int):=by omega
    have L:=za (HU.o.end_ok (zqi h1 h4 (fun j hj=>HA.o _ (List.getElem_mem hj)))).1;have HD:=za (show decide (0 < A.length)=true by simp;omega);go_wp2;go_ret2;exact⟨_,by rw [L.o];exact z7v HD.o,E.o,by rw [L.o];exact⟨xs,X.o,HX.o⟩⟩
   ·have h0:A.length=0:=by omega
    have L:=za (HU.o.end_not (zm4 h0));obtain rfl:A=[]:=List.length_eq_zero_iff.1 h0;go_wp2;go_ret2;exact⟨_,by rw [L.o];rfl,E.o,by rw [L.o];exact⟨xs,X.o,HX.o⟩⟩
  | cons c rr =>
   simp only [List.length_cons] at au av ⊢;have ac:=HC.o 0 (by simp);rw [Nat.add_zero] at ac;simp only [List.getElem_cons_zero] at ac;rw [← E.o.cell (zk (p:=⟨b,V,none⟩) ac)] at ac;unfold bv at ac;have a4:=c.toNat_lt;have HS:Hid (∀ i (h:i < rr.length),w.cell? ⟨b,V+1+i,none⟩=some (bv rr[i])):=fun i h=>by
    have:=HC.o (i+1) (by simp;omega);rw [show V+(i+1)=V+1+i by omega] at this;simpa using this
   clear HC;by_cases e4:A.length=4
   ·have L:=za (HU.o.many (by omega));have n4:((A.length:Int)==4)=true:=by rw [beq_iff_eq];omega
    clear e4;by_cases ec:U=1
    ·subst ec;go_wp2_with fail;go_region;all_goals go_wp2
     all_goals go_ret2
     all_goals exact⟨_,by rw [L.o];rfl,E.o.drew,by rw [L.o];exact OBs.nil _ _⟩
    ·go_wp2_with fail;go_region;all_goals go_wp2
     all_goals go_ret2
     all_goals exact⟨_,by rw [L.o];rfl,E.o.drew,by rw [L.o];exact OBs.nil _ _⟩
   ·have n4:((A.length:Int)==4)=false:=by rw [beq_eq_false_iff_ne];omega
    by_cases ar:20 < c.toNat
    ·have L:=za (HU.o.long ar);have az:(20:Int) < (c.toNat:Int):=by omega
     by_cases ec:U=1
     ·subst ec;go_wp2_with fail;go_region;all_goals go_wp2
      all_goals go_ret2
      all_goals exact⟨_,by rw [L.o];rfl,E.o.drew,by rw [L.o];exact OBs.nil _ _⟩
     ·go_wp2_with fail;go_region;all_goals go_wp2
      all_goals go_ret2
      all_goals exact⟨_,by rw [L.o];rfl,E.o.drew,by rw [L.o];exact OBs.nil _ _⟩
    ·have az:¬(20:Int) < (c.toNat:Int):=by omega
     by_cases af:c.toNat≤rr.length
     ·have nf:¬(rr.length:Int) < (c.toNat:Int):=by omega
      by_cases ec:U=1
      ·have a5:rr.length=0:=by omega
       have a3:c.toNat=0:=by omega
       subst ec;go_wp2_with fail;go_region;go_wp2_with fail;refine(zfa ⟨b,V,none⟩ 0 0 (rr.take c.toNat) wr.drew (by simp;omega) (by omega) (z4u (by omega) _)).mono ?_;rintro r K ⟨x,rfl,I,R⟩;obtain⟨gx,cx,nx,rfl⟩:=zhg I;have Q:=za I;have D:Hid (Below wr.heap.size wr K):=Below.trans (Below.refl _ _).drew R;have Y:Hid (∀ o,(K.alloc o).ownsRow w.heap.size 100 1 (.slice ae A.length ce) A.length xs):=fun o=>zy (zy X.o D.o) (ze K o);have J:Hid (w.heap.size≤K.heap.size):=Nat.le_trans E.o.size D.o.size;clear I R;go_wp2_with (at_builtin;(refine wpList_append_lies _ rfl _ _ _ rfl w.heap.size 100 i (.slice none 0 0) 1 24 Tryz.underlying157 HI.o HZ.o.1 HZ.o.2.1 HZ.o.2.2 rfl (by omega) (.slice ae A.length ce) A.length xs rfl (Y.o _) ⟨K.heap.size,0,none⟩ 1 1 [.slice (some ⟨gx,0,none⟩) nx cx] rfl rfl (World.news_of_block (heap_alloc_last _ _)) (zvi Q.o) (by omega) (by unfold maxLen;omega) (by omega) (by have:=J.out;simp;omega) (K.heap.size+1) (by simp) ?_;intro g' ah w2 S H aa ad;have Z:=za (zl4 E.o.size X.o HX.o D.o Q.o S H);have W:Hid (Below w.heap.size w w2):=((E.o.trans (D.o.mono E.o.size)).trans ((ze K _).mono J.out)).grown H (by have:=J.out;simp;omega) (qf X.o);clear H aa ad S));refine⟨⟨rr.drop c.toNat,A++[rr.take c.toNat],z6q (by simp;omega),HU.o.step af,W.o,Z.o,by simp;omega,z3l HA.o (by simp;omega)⟩,by show 0 < _;simp [yah]⟩
      ·by_cases a2:U - 1=c.toNat
       ·go_wp2_with fail;go_region;go_wp2_with fail;refine(zfa ⟨b,V+1,none⟩ c.toNat c.toNat (rr.take c.toNat) wr.drew (by simp;omega) (by omega) (zm8 HS.o E.o _)).mono ?_;rintro r K ⟨x,rfl,I,R⟩;obtain⟨gx,cx,nx,rfl⟩:=zhg I;have Q:=za I;have D:Hid (Below wr.heap.size wr K):=Below.trans (Below.refl _ _).drew R;have Y:Hid (∀ o,(K.alloc o).ownsRow w.heap.size 100 1 (.slice ae A.length ce) A.length xs):=fun o=>zy (zy X.o D.o) (ze K o);have J:Hid (w.heap.size≤K.heap.size):=Nat.le_trans E.o.size D.o.size;clear I R;go_wp2_with (at_builtin;(refine wpList_append_lies _ rfl _ _ _ rfl w.heap.size 100 i (.slice none 0 0) 1 24 Tryz.underlying157 HI.o HZ.o.1 HZ.o.2.1 HZ.o.2.2 rfl (by omega) (.slice ae A.length ce) A.length xs rfl (Y.o _) ⟨K.heap.size,0,none⟩ 1 1 [.slice (some ⟨gx,0,none⟩) nx cx] rfl rfl (World.news_of_block (heap_alloc_last _ _)) (zvi Q.o) (by omega) (by unfold maxLen;omega) (by omega) (by have:=J.out;simp;omega) (K.heap.size+1) (by simp) ?_;intro g' ah w2 S H aa ad;have Z:=za (zl4 E.o.size X.o HX.o D.o Q.o S H);have W:Hid (Below w.heap.size w w2):=((E.o.trans (D.o.mono E.o.size)).trans ((ze K _).mono J.out)).grown H (by have:=J.out;simp;omega) (qf X.o);clear H aa ad S));refine⟨⟨rr.drop c.toNat,A++[rr.take c.toNat],zpv HS.o c.toNat _ _ (by omega) (fun h=>by omega),HU.o.step af,W.o,Z.o,by simp;omega,z3l HA.o (by simp;omega)⟩,by show rr.length - c.toNat < rr.length+1;omega⟩
       ·go_wp2_with fail;go_region;go_wp2_with fail;refine(zfa ⟨b,V+1,none⟩ c.toNat (U - 1) (rr.take c.toNat) wr.drew (by simp;omega) (by omega) (zm8 HS.o E.o _)).mono ?_;rintro r K ⟨x,rfl,I,R⟩;obtain⟨gx,cx,nx,rfl⟩:=zhg I;have Q:=za I;have D:Hid (Below wr.heap.size wr K):=Below.trans (Below.refl _ _).drew R;have Y:Hid (∀ o,(K.alloc o).ownsRow w.heap.size 100 1 (.slice ae A.length ce) A.length xs):=fun o=>zy (zy X.o D.o) (ze K o);have J:Hid (w.heap.size≤K.heap.size):=Nat.le_trans E.o.size D.o.size;clear I R;go_wp2_with (at_builtin;(refine wpList_append_lies _ rfl _ _ _ rfl w.heap.size 100 i (.slice none 0 0) 1 24 Tryz.underlying157 HI.o HZ.o.1 HZ.o.2.1 HZ.o.2.2 rfl (by omega) (.slice ae A.length ce) A.length xs rfl (Y.o _) ⟨K.heap.size,0,none⟩ 1 1 [.slice (some ⟨gx,0,none⟩) nx cx] rfl rfl (World.news_of_block (heap_alloc_last _ _)) (zvi Q.o) (by omega) (by unfold maxLen;omega) (by omega) (by have:=J.out;simp;omega) (K.heap.size+1) (by simp) ?_;intro g' ah w2 S H aa ad;have Z:=za (zl4 E.o.size X.o HX.o D.o Q.o S H);have W:Hid (Below w.heap.size w w2):=((E.o.trans (D.o.mono E.o.size)).trans ((ze K _).mono J.out)).grown H (by have:=J.out;simp;omega) (qf X.o);clear H aa ad S));refine⟨⟨rr.drop c.toNat,A++[rr.take c.toNat],zpv HS.o c.toNat _ _ (by omega) (fun h=>by omega),HU.o.step af,W.o,Z.o,by simp;omega,z3l HA.o (by simp;omega)⟩,by show rr.length - c.toNat < rr.length+1;omega⟩
     ·have nf:(rr.length:Int) < (c.toNat:Int):=by omega
      have L:=za (HU.o.fail af);by_cases ec:U=1
      ·subst ec;go_wp2_with fail;go_region;all_goals go_wp2
       all_goals go_ret2
       all_goals exact⟨_,by rw [L.o];rfl,E.o.drew,by rw [L.o];exact OBs.nil _ _⟩
      ·go_wp2_with fail;go_region;all_goals go_wp2
       all_goals go_ret2
       all_goals exact⟨_,by rw [L.o];rfl,E.o.drew,by rw [L.o];exact OBs.nil _ _⟩
end Go.Proofs.YtndkblnpbjffhaaGreatDoor
