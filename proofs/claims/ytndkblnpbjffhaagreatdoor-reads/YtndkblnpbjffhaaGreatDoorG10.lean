import Derived.Test.YtndkblnpbjffhaaGreatDoorG08
import Derived.Test.YtndkblnpbjffhaaGreatDoorG09
set_option maxHeartbeats 4000000
set_option maxRecDepth 100000
open Go.RowKit
namespace Go.Proofs.YtndkblnpbjffhaaGreatDoor
theorem Bq.rest {w:World}{v:Value}{l:List UInt8}(h:Bq w v l):z4r w v l:=by
 obtain⟨g,r,C,I,rfl,H,D,A⟩:=h;refine⟨⟨g,0,none⟩,r,rfl,H,rfl,fun i E=>?_⟩;show w.cell? ⟨g,0+i,none⟩=_;rw [Nat.zero_add,cell_of_row _ _ _ _ _ _ D];exact A i E
theorem zkq {w:World}{B:Nat}{y:Value}{es:List (List UInt8)}(h:OBs w B y es):∃ a c,y= .slice a es.length c:=by
 obtain⟨xs,E,-⟩:=h;rcases E.2 with ⟨e,D⟩ | ⟨g,r,A,e,_⟩
 ·exact⟨none,0,by rw [e,D]⟩
 ·exact⟨_,_,e⟩
theorem ztj (w:World):
  Calls Tryz.prog 167 #[.slice none 0 0] w fun r w'=>r= .returned (.tuple #[.slice none 0 0,.bool false])∧w'=w:=by
 go_enter Tryz.func167,Tryz.ntmps167;go_wp2_with fail;refine wp_loop_rounds 1 ?_;rw [rounds_succ];go_wp2;go_ret2;exact⟨rfl,rfl⟩
def zgn (x:Option (List UInt8))(w:Nat):Option (List (List UInt8)):=match x with
 | some d=>(match zfb d with | some es=>if es.length=w then some es else none | none=>none)
 | none=>none
def zgo (w:World)(v:Value)(x:Option (List UInt8)):Prop:=(∃ d,x=some d∧Bq w v d)∨(x=none∧v= .slice none 0 0)
theorem zpg (n:Nat)(v:Value)(x:Option (List UInt8))(w:World)(h:zgo w v x):
  Calls Tryz.prog 116 #[.int .i64 n,v] w fun r w'=>Below w.heap.size w w'∧((∃ es y,zgn x n=some es∧r= .returned (.tuple #[y,.bool true])∧OBs w' w.heap.size y es)∨(zgn x n=none∧r= .returned (.tuple #[.slice none 0 0,.bool false]))):=by
 rcases h with ⟨d,rfl,J⟩ | ⟨rfl,rfl⟩
 ·have L:=za J;clear J;go_enter Tryz.func116,Tryz.ntmps116;go_wp2_with fail;refine(z7i v d w L.o.rest).mono ?_;rintro r R ⟨y,rfl,E,A⟩;have I:=za E;clear E;cases e:zfb d with
  | none =>
   have D:Hid (zgn (some d) n=none):=by show zgn (some d) n=none;unfold zgn;simp only [e]
   obtain⟨a,c,rfl⟩:=zkq A;clear e A;go_wp2_with fail;go_ret2;exact⟨I.o,.inr ⟨D.o,rfl⟩⟩
  | some es =>
   rw [e] at A;simp only [Option.getD_some,Option.isSome_some] at A ⊢;obtain⟨a,c,rfl⟩:=zkq A;have K:=za A;clear A;by_cases H:es.length=n
   ·have D:Hid (zgn (some d) n=some es):=by show zgn (some d) n=_;unfold zgn;simp only [e,if_pos H]
    have Q:((es.length:Int)==(n:Int))=true:=by rw [beq_iff_eq];omega
    clear e H;go_wp2_with fail;go_ret2;exact⟨I.o,.inl ⟨es,_,D.o,rfl,K.o⟩⟩
   ·have D:Hid (zgn (some d) n=none):=by show zgn (some d) n=_;unfold zgn;simp only [e,if_neg H]
    have Q:((es.length:Int)==(n:Int))=false:=by rw [beq_eq_false_iff_ne];omega
    clear e H;go_wp2_with fail;go_ret2;exact⟨I.o,.inr ⟨D.o,rfl⟩⟩
 ·go_enter Tryz.func116,Tryz.ntmps116;go_wp2_with fail;refine(ztj w).mono ?_;rintro r R ⟨rfl,rfl⟩;go_wp2_with fail;go_ret2;exact⟨Below.refl _ _,.inr ⟨rfl,rfl⟩⟩
theorem z9z {d:Dk}{p:List UInt8}{w:World}{v:Value}(r:bad d=false)(h:(bad d=false∧∃ x,yp d.fs p=some x∧Bq w v x)∨((bad d=true∨yp d.fs p=none)∧v= .slice none 0 0)):zgo w v (yp d.fs p):=by
 rcases h with ⟨-,x,h1,h2⟩ | ⟨h1,h2⟩
 ·exact .inl ⟨x,h1,h2⟩
 ·rcases h1 with h1 | h1
  ·rw [r] at h1;simp at h1
  ·exact .inr ⟨h1,h2⟩
theorem zwl {w:World}{v:Value}{x:Option (List UInt8)}(h:zgo w v x):(x=none∧v= .slice none 0 0)∨∃ d g n c,x=some d∧v= .slice (some g) n c:=by
 rcases h with ⟨d,e,g,r,C,A,rfl,-⟩ | ⟨h1,h2⟩
 ·exact .inr ⟨d,_,_,_,e,rfl⟩
 ·exact .inl ⟨h1,h2⟩
theorem Env.turn {w w':World}{O:Nat→Prop}{T:List Nat}{W:World}(h:Env W)(r:Below W.heap.size W w)(D:zg O T w w')(A:∀ k,O k→W.heap.size≤k):Env w'∧Below W.heap.size W w':=by
 have:=r.trans (D.below A r.size);exact⟨h.below this,this⟩
theorem yaj (f:Nat→Bool)(hv k:Nat)(h1:hv < k)(A:k≤4)(r:f k=true)(h:∀ j:Nat,k < j→j≤4→hv < j→f j=false):[4,3,2,1].find? (fun w=>decide (hv < w)&&f w)=some k:=by
 have e:k=4∨k=3∨k=2∨k=1:=by omega
 rcases e with rfl | rfl | rfl | rfl
 ·simp [List.find?,h1,r]
 ·simp [List.find?,h1,r,h 4 (by omega) (by omega) (by omega)]
 ·simp [List.find?,h1,r,h 3 (by omega) (by omega) (by omega),h 4 (by omega) (by omega) (by omega)]
 ·simp [List.find?,h1,r,h 2 (by omega) (by omega) (by omega),h 3 (by omega) (by omega) (by omega),h 4 (by omega) (by omega) (by omega)]
theorem z3m (f:Nat→Bool)(hv:Nat)(r:∀ j:Nat,j≤4→hv < j→f j=false):[4,3,2,1].find? (fun w=>decide (hv < w)&&f w)=none:=by
 rw [List.find?_eq_none];intro w A;have:w≤4:=by simp at A;omega
 by_cases h:hv < w
 ·simp [r w this h]
 ·simp [h]
theorem z9w {h:Lk}{i hv k:Nat}(h1:hv < k)(A:k≤4)(D:(h (qi (-1) i (k:Nat))).isSome=true)(r:∀ j:Nat,k < j→j≤4→hv < j→(h (qi (-1) i (j:Nat))).isSome=false):wdF h i hv=some k :=
 yaj (fun w=>(h (qi (-1) i (w:Nat))).isSome) hv k h1 A D r
theorem yaa {r:Lk}{i hv:Nat}(h:∀ j:Nat,j≤4→hv < j→(r (qi (-1) i (j:Nat))).isSome=false):wdF r i hv=none :=
 z3m (fun w=>(r (qi (-1) i (w:Nat))).isSome) hv h
theorem zcc {b:Bool}{p:List UInt8}{B:Nat}{e:Value}{w:World}(h:zc1 b p B e w):(b=false∧e= .nilIface)∨(b=true∧∃ g,e= .iface 139 (.pointer (some ⟨g,0,none⟩))):=by
 rcases h with h | ⟨h,g,rfl,-⟩
 ·exact .inl h
 ·exact .inr ⟨h,g,rfl⟩
theorem zc1.weaken {b:Bool}{p:List UInt8}{B A:Nat}{e:Value}{w:World}(h:zc1 b p B e w)(D:A≤B):zc1 b p A e w:=by
 rcases h with h | ⟨h,g,e,E,r⟩
 ·exact .inl h
 ·exact .inr ⟨h,g,e,Nat.le_trans D E,r⟩
theorem zvd (O:Nat→Prop)(W:World)(hE:Env W)(aa:∀ k,O k→W.heap.size≤k)(K lb:Nat)(d:Dk)(i hv:Nat)(w:World)(hn:d.fs.length≤1000000000)(hl:∀ f∈d.fs,f.2.length≤1000000000)(hi:i≤1000000)(ay:hv < 4)(hc:zia d)(hW:Below W.heap.size W w)(h:zq w O K d)(cs:Array Value)(S:w.heap[lb]?=some (.cells cs 189 (0,0)))(U:cs[0]?=some (stV K true)):
  Calls Tryz.prog 117 #[.pointer (some ⟨lb,0,none⟩),.int .i64 i,.int .i64 (hv+1:Nat)] w fun r w'=>∃(Z:Dk) (n:Nat) (v e:Value),r= .returned (.tuple #[.int .i64 n,v,e])∧zg O dT1 w w'∧zq w' O K Z∧Z.fs=d.fs∧tk Z=tk d ∧
   ((Z.hit=true∧∃ p,zc1 true p w.heap.size e w')∨(zia Z∧e= .nilIface∧((wdF (yp d.fs) i hv=none∧n=0∧v= .slice none 0 0)∨(wdF (yp d.fs) i hv=some n∧∃ x,yp d.fs (qi (-1) i n)=some x∧Bq w' v x)))):=by
 have HL:=za hl;have HD:=za h;have HS:Hid (w.cell? ⟨lb,0,none⟩=some (stV K true)):=(zf S 0 _ U).1;have am:=za S;have an:=za U;have HW:=za hW;have HC:=za hc;have HO:=za aa;have aq:=za hE;clear hl h S U hW hc aa hE;go_enter Tryz.func117,Tryz.ntmps117;go_wp2_with fail;go_loopw [9,10,11] (fun s9 _ _ wr=>∃(k:Nat) (A:Dk),s9= .int .i64 k∧hv≤k∧k≤4∧zg O dT1 w wr∧zq wr O K A∧A.fs=d.fs∧tk A=tk d∧zia A∧∀ j,k < j→j≤4→hv < j→(yp d.fs (qi (-1) i (j:Nat))).isSome=false) (fun s9 _ _ _=>(intOf s9).toNat)
 case atStart=>exact⟨4,d,rfl,by omega,by omega,zg.refl _ _ _,HD.o,rfl,rfl,HC.o,fun j h1 h2=>by omega⟩
 case round =>
  obtain⟨k,A,rfl,ax,au,ht,hd,af,ak,ac,ag⟩:=hrel;have HT:=za ht;have X:=za hd;have E:=za (And.intro af ak);have L:=za ac;have HN:=za ag;have ae:=Env.turn aq.out HW.o ht HO.o;have ao:Hid (wr.cell? ⟨lb,0,none⟩=some (stV K true)):=by
   have:=zf (ht.keep am.o (by decide)) 0 _ an.o;exact this.1
  have al:=za ae;clear ht hd af ak ac ag ae;by_cases av:hv < k
  ·go_wp2_with fail;refine(zml (-1) i k (by omega) wr al.o.1).mono ?_;rintro r w1 ⟨rfl,H⟩;have aw:=za H;have ah:w1.cell? ⟨lb,0,none⟩=some (stV K true):=by rw [H.cell (p:=⟨lb,0,none⟩) (Nat.lt_of_lt_of_le (zk HS.o) HT.o.size)];exact ao.o
   go_wp2_with fail;refine(zsn O K lb A (qi (-1) i k) w1 (by rw [E.o.1];exact hn) (by rw [E.o.1];exact HL.o) (X.o.stay (O1:=fun _=>False) (T:=[]) (.of_below H) (by simp) (by simp)) ah).mono ?_;rintro r w2 ⟨v,e,rfl,I,aj,ad,J⟩;have R:Hid (zg O dT1 w w2):=(HT.o.then_below H).trans (aj.mono (fun _ h=> .inl h) (fun _ h=>h));have Q:=za ad;have ai:w.heap.size≤w1.heap.size:=(HT.o.then_below H).size;have Y:=za (I.weaken ai);clear H ah aj ad ai;rcases zcc I with ⟨D,rfl⟩ | ⟨D,g,rfl⟩
   ·have ar:xp A=0:=by
     have:=(zhv A).1;have h2:¬ 0 < xp A:=by simpa [bad] using D
     omega
    have V:Hid (zia (yg A)):=by
     rcases zf0 L.o with ⟨-,h⟩ | ⟨h,-⟩
     ·exact h
     ·omega
    have HG:=za (z9z D J);clear I D J ar;rcases zwl HG.o with ⟨hx,rfl⟩ | ⟨x,a,n,c,hx,rfl⟩
    ·go_wp2_with fail;go_roundw
     case rel =>
      repeat apply Exists.intro
      refine⟨⟨k - 1,yg A,by congr 1;omega,by omega,by omega,R.o,Q.o,(yi A).trans E.o.1,(zh7 A).trans E.o.2,V.o,fun j h1 h2 h3=>?_⟩,rfl⟩;by_cases hj:k < j
      ·exact HN.o j hj h2 h3
      ·obtain rfl:j=k:=by omega
       rw [← E.o.1,hx];rfl
     case measure=>simp [intOf];omega
    ·have ap:Hid (wdF (yp d.fs) i hv=some k):=z9w av au (by rw [← E.o.1,hx];rfl) HN.o;go_wp2_with fail
     go_ret3
     refine⟨yg A,k,_,_,rfl,R.o,Q.o,(yi A).trans E.o.1,(zh7 A).trans E.o.2,.inr ⟨V.o,rfl,.inr ⟨ap.o,x,by rw [← E.o.1];exact hx,?_⟩⟩⟩;rcases HG.o with ⟨x',e,hb⟩ | ⟨-,e⟩
     ·rw [hx] at e;obtain rfl:x=x':=by simpa using e
      exact hb
     ·simp at e
   ·have HH:Hid ((yg A).hit=true):=by
     rcases zf0 L.o with ⟨h,-⟩ | ⟨-,h⟩
     ·rw [bad,h] at D;simp at D
     ·exact h
    rw [D] at Y;obtain⟨a,n,c,rfl⟩:=zj9 J;clear I D J;go_wp2_with fail
    go_ret3
    exact⟨yg A,k,_,_,rfl,R.o,Q.o,(yi A).trans E.o.1,(zh7 A).trans E.o.2,.inl ⟨HH.o,_,Y.o⟩⟩
  ·go_wp2_with fail
   go_ret3
   exact⟨A,0,_,_,rfl,HT.o,X.o,E.o.1,E.o.2,.inr ⟨L.o,rfl,.inl ⟨yaa (fun j h1 h2=>HN.o j (by omega) h1 h2),rfl,rfl⟩⟩⟩
def zqd (w:World)(v:Value)(A:List Ly):Prop:=∃ a D,v= .slice a A.length D∧(A.length=0∨∃ g,a=some ⟨g,0,none⟩∧∃ r,w.heap[g]?=some (.cells r 378 (0,0))∧∀ j (h:j < A.length),r[j*4]?=some (txv A[j].path)∧r[j*4+1]?=some (txv A[j].data)∧r[j*4+2]?=some (.bool A[j].fails)∧r[j*4+3]?=some (.int .i64 A[j].times))
def zqa (w:World)(O:Nat→Prop)(v:Value)(r:List Int):Prop:=∃ a h,v= .slice a r.length h∧(r.length=0∨∃ g,a=some ⟨g,0,none⟩∧O g∧w.heap[g]?=some (.cells (r.map (Value.int .i64)).toArray 3 (0,0)))
def vi (w:World)(O:Nat→Prop)(r A:Nat)(n:Nt):Prop :=
 ∃ h tv,O r∧w.heap[r]?=some (.cells #[vr A,h,tv,.int .i64 n.fetches] 76 (0,0))∧zqd w h n.lies∧zqa w O tv n.told∧n.told.length=n.lies.length
abbrev nT:List Nat:=[76,3]
theorem zqd.turn {w w':World}{O:Nat→Prop}{T:List Nat}{v:Value}{E:List Ly}(h:zqd w v E)(K:zg O T w w')(I:378∉T):zqd w' v E:=by
 obtain⟨a,A,e,h | ⟨g,H,D,J,r⟩⟩:=h
 ·exact⟨a,A,e,.inl h⟩
 ·exact⟨a,A,e,.inr ⟨g,H,D,K.keep J I,r⟩⟩
theorem zqa.turn {w w':World}{O O1:Nat→Prop}{T:List Nat}{v:Value}{A:List Int}(h:zqa w O v A)(J:zg O1 T w w')(H:3∉T):zqa w' O v A:=by
 obtain⟨a,r,e,h | ⟨g,D,E,I⟩⟩:=h
 ·exact⟨a,r,e,.inl h⟩
 ·exact⟨a,r,e,.inr ⟨g,D,E,J.keep I H⟩⟩
theorem vi.turn {w w':World}{O O1:Nat→Prop}{T:List Nat}{E D:Nat}{n:Nt}(h:vi w O E D n)(r:zg O1 T w w')(h1:76∉T)(h2:378∉T)(H:3∉T):vi w' O E D n:=by
 obtain⟨Q,tv,I,J,L,A,K⟩:=h;exact⟨Q,tv,I,r.keep J h1,L.turn r h2,A.turn r H,K⟩
theorem vi.below {w w':World}{O:Nat→Prop}{A r:Nat}{n:Nt}(h:vi w O A r n)(D:Below w.heap.size w w'):vi w' O A r n:=h.turn (O1:=fun _=>False) (T:=[]) (.of_below D) (by simp) (by simp) (by simp)
theorem zv3 (O:Nat→Prop)(h J:Nat)(n:Nt)(d:Dk)(p:List UInt8)(w:World)(hn:d.fs.length≤1000000000)(hl:∀ f∈d.fs,f.2.length≤1000000000)
  (hy:∀ l∈n.lies,l.data.length≤1000000000) (aC:n.lies.length≤0) (hf:0≤n.fetches∧n.fetches < 4611686018427387904) (az:∀ t∈n.told,0≤t∧t < 4611686018427387904)
  (hD:zq w O J d) (hN:vi w O h J n) :
  Calls Tryz.prog 258 #[.pointer (some ⟨h,0,none⟩),txv p] w fun r w'=>∃ v e x,r= .returned (.tuple #[v,e])∧zg O nT w w'∧vi w' O h J (zu d.fs n p).2∧zgo w' v x∧x.getD []=(zu d.fs n p).1.1 ∧
   (((zu d.fs n p).1.2=true∧e= .nilIface)∨((zu d.fs n p).1.2=false∧∃ g,e=zb5 g)):=by
 obtain⟨lv,tv,hO,I,hL,hT,X⟩:=hN;obtain⟨la,S,rfl,ao⟩:=hL;obtain⟨ta,K,rfl,ap⟩:=hT;have c0:w.cell? ⟨h,0,none⟩=some (vr J):=(zf I 0 _ rfl).1;have c1:w.cell? ⟨h,1,none⟩=some (.slice la n.lies.length S):=(zf I 1 _ rfl).1;have c2:w.cell? ⟨h,2,none⟩=some (.slice ta n.told.length K):=(zf I 2 _ rfl).1;have c3:w.cell? ⟨h,3,none⟩=some (.int .i64 n.fetches):=(zf I 3 _ rfl).1;have f3:w.frozen? ⟨h,3,none⟩=false:=(zf I 3 _ rfl).2;rw [X] at c2;have HB:=za I;have ac:=za ao;have aj:=za ap;have HD:=za hD;have HL:=za hl;have HY:=za hy;have aD:=za az;have L:=za X;obtain⟨aI,aJ⟩:=hf;have Q:Hid (zg O nT w (w.setCell ⟨h,3,none⟩ (.int .i64 (n.fetches+1)))∧(w.setCell ⟨h,3,none⟩ (.int .i64 (n.fetches+1))).heap[h]?=some (.cells #[vr J,.slice la n.lies.length S,.slice ta n.told.length K,.int .i64 (n.fetches+1)] 76 (0,0))):=by
  refine⟨(zg.refl O nT w).set (.inl hO) I (by simp) _,?_⟩;rw [qo I];rfl
 clear I ao ap hD hl hy az X;unfold txv;unfold vr at c0;go_enter Tryz.func258,Tryz.ntmps258;go_wp2_with fail;have a3:=za HB.o;have aa:Hid (zq (w.setCell ⟨h,3,none⟩ (.int .i64 (n.fetches+1))) O J d):=HD.o.stay (O1:=O) (T:=nT) Q.out.1 (by decide) (by decide);have V:Hid (∀ k (hk:k < n.lies.length),∃ g,la=some ⟨g,0,none⟩∧∃ D,(w.setCell ⟨h,3,none⟩ (.int .i64 (n.fetches+1))).heap[g]?=some (.cells D 378 (0,0))∧D[k*4]?=some (txv n.lies[k].path)∧D[k*4+1]?=some (txv n.lies[k].data)∧D[k*4+2]?=some (.bool n.lies[k].fails)∧D[k*4+3]?=some (.int .i64 n.lies[k].times)):=by
  intro k hk;rcases ac.o with h0 | ⟨g,ea,D,hg,Z⟩
  ·omega
  ·exact⟨g,ea,D,Q.out.1.keep hg (by decide),Z k hk⟩
 have ak:Hid (∀ k,k < n.lies.length→∃ g,ta=some ⟨g,0,none⟩∧O g∧g≠h∧(w.setCell ⟨h,3,none⟩ (.int .i64 (n.fetches+1))).heap[g]?=some (.cells (n.told.map (Value.int .i64)).toArray 3 (0,0))):=by
  intro k hk;rcases aj.o with h0 | ⟨g,ea,a5,hg⟩
  ·have:=L.o;omega
  ·have aw:g≠h:=by
    rintro rfl;rw [HB.o] at hg;simp at hg
   exact⟨g,ea,a5,aw,by rw [heap_setCell_other _ _ _ _ aw];exact hg⟩
 have d1:(w.setCell ⟨h,3,none⟩ (.int .i64 (n.fetches+1))).cell? ⟨h,0,none⟩=some (.pointer (some ⟨J,0,none⟩)):=(zf Q.out.2 0 _ rfl).1;have d2:(w.setCell ⟨h,3,none⟩ (.int .i64 (n.fetches+1))).cell? ⟨h,2,none⟩=some (.slice ta n.told.length K):=(zf Q.out.2 2 _ rfl).1;have d3:(w.setCell ⟨h,3,none⟩ (.int .i64 (n.fetches+1))).cell? ⟨h,3,none⟩=some (.int .i64 (n.fetches+1)):=(zf Q.out.2 3 _ rfl).1;rw [L.o] at d2;clear c0 c1 c2 c3 f3 HB ac aj HD;have aB:h < w.heap.size:=zb a3.o;have R:h < (w.setCell ⟨h,3,none⟩ (.int .i64 (n.fetches+1))).heap.size:=Nat.lt_of_lt_of_le aB Q.out.1.size;generalize w.setCell ⟨h,3,none⟩ (.int .i64 (n.fetches+1))=w1 at *
 go_loopw [21] (fun i wr=>∃ k:Nat,k≤n.lies.length∧i= .int .i64 k∧Below w1.heap.size w1 wr∧∀ j,j < k→zv8 n p j=false) (fun i _=>n.lies.length - (intOf i).toNat)
 case atStart=>exact⟨0,Nat.zero_le _,rfl,Below.refl _ _,fun j hj=>absurd hj (Nat.not_lt_zero _)⟩
 case round =>
  obtain⟨k,hk,rfl,A,ay⟩:=hrel;have a1:=za A;have ag:=za ay;by_cases aK:k < n.lies.length
  ·omega
  ·have aA:k=n.lies.length:=by omega
   have af:Hid (zpt n p=none):=zvt (fun j hj=>ag.o j (by omega));have U:=za (aa.o.stay (O1:=fun _=>False) (T:=[]) (.of_below A) (by simp) (by simp));have ah:Hid (zg O nT w wr):=Q.out.1.then_below A;have ad:Hid (vi wr O h J { n with fetches:=n.fetches+1 }):=by
    refine⟨.slice la n.lies.length S,.slice ta n.told.length K,hO,(A.block h R).trans Q.out.2,?_,?_,L.o⟩
    ·refine⟨la,S,rfl,?_⟩;rcases Nat.eq_zero_or_pos n.lies.length with h0 | h0
     ·exact .inl h0
     ·obtain⟨g1,am,al,W,-⟩:=V.o 0 h0;refine .inr ⟨g1,am,al,(A.block g1 (zb W)).trans W,fun j hj=>?_⟩;obtain⟨g2,an,a4,ar,Z⟩:=V.o j hj;obtain rfl:g2=g1:=by rw [am] at an;simpa using an.symm
      rw [W] at ar;have:al=a4:=by simpa using ar
      rw [this];exact Z
    ·refine⟨ta,K,rfl,?_⟩;rcases Nat.eq_zero_or_pos n.lies.length with h0 | h0
     ·exact .inl (L.o.trans h0)
     ·obtain⟨tg,eg,a6,-,a0⟩:=ak.o 0 h0;exact .inr ⟨tg,eg,a6,(A.block tg (zb a0)).trans a0⟩
   have e1:wr.cell? ⟨h,0,none⟩=some (.pointer (some ⟨J,0,none⟩)):=by rw [A.cell (p:=⟨h,0,none⟩) R];exact d1
   have e3:wr.cell? ⟨h,3,none⟩=some (.int .i64 (n.fetches+1)):=by rw [A.cell (p:=⟨h,3,none⟩) R];exact d3
   have ax:h < wr.heap.size:=Nat.lt_of_lt_of_le R A.size;clear d1 d2 d3 A ay a1 ag V ak aa Q;subst aA;go_wp2_with fail;refine(zhc O J d p wr hn U.o).mono ?_;rintro e w2 ⟨rfl,H⟩;have ai:Hid (zg O nT w w2):=ah.o.then_below H;have ae:=za (ad.o.below H);have a2:=za (U.o.stay (O1:=fun _=>False) (T:=[]) (.of_below H) (by simp) (by simp));have v1:w2.cell? ⟨h,0,none⟩=some (.pointer (some ⟨J,0,none⟩)):=by rw [H.cell (p:=⟨h,0,none⟩) ax];exact e1
   have v3:w2.cell? ⟨h,3,none⟩=some (.int .i64 (n.fetches+1)):=by rw [H.cell (p:=⟨h,3,none⟩) ax];exact e3
   clear e1 e3 H U ah ad;cases e:ixF d.fs p with
   | some i =>
    have he:ixI d.fs p=i:=by unfold ixI;rw [e]
    rw [he];obtain⟨hi,a9,av,-⟩:=j7 e;obtain⟨fv,aF,I,aq,a8⟩:=a2.o;obtain⟨⟨c0,f0⟩,-⟩:=zep I;rcases zec aq with ⟨a,aE,rfl,h0 | ⟨g,rfl,D,au,aG,a7,Z⟩⟩
    ·omega
    have y1:w2.cell? ⟨g,i*2+1,none⟩=some (.string ⟨d.fs[i].2.toArray⟩):=by
     rw [cell_of_row _ _ _ _ _ _ au];exact(Z i hi).2
    have aC:=HL.o _ (List.getElem_mem hi);have E:Hid (zu d.fs n p=((d.fs[i].2,true),{ n with fetches:=n.fetches+1 })):=by
     show _=_;unfold zu;rw [af.o];simp only [av]
    clear Z au I aq a8 e he a9 a7 av;generalize d.fs[i].2=y at *
    have aH:=fun w0=>run_bytes_of_string (P:=Tryz.prog) w0 9 100 5 ⟨y.toArray⟩ Tryz.underlying9 Tryz.underlying100 Tryz.underlying5;go_wp2_with fail;go_ret2;have hq:=zlu w2 y (grownCap w2 y.length 0 5) (grownCap_ge _ _ _ _);exact⟨_,_,some y,rfl,(ai.o.alloc _).drew,by rw [E.o];exact ae.o.below (ze _ _).drew,.inl ⟨y,rfl,hq⟩,by rw [E.o];rfl,.inl ⟨by rw [E.o],rfl⟩⟩
   | none =>
    have he:ixI d.fs p=-1:=by unfold ixI;rw [e]
    rw [he];have E:Hid (zu d.fs n p=(([],false),{ n with fetches:=n.fetches+1 })):=by
     show _=_;unfold zu;rw [af.o];simp only [(vd e).1]
    clear e he;go_wp2_with fail;go_region;all_goals go_wp2
    all_goals go_ret2
    all_goals exact⟨_,_,none,rfl,(ai.o.alloc _).drew,by rw [E.o];exact ae.o.below (ze _ _).drew,.inr ⟨rfl,rfl⟩,by rw [E.o];rfl,.inr ⟨by rw [E.o],_,rfl⟩⟩
def zyt (l:List UInt8):Nat:=l.foldl (fun a c=>a*10+(c.toNat - 48)) 0
theorem z0v (n:Nat):zyt (dec n)=n:=by
 induction n using Nat.strongRecOn with
 | ind n ih =>
  by_cases h:n < 10
  ·rw [zhz h];unfold zyt;simp only [List.foldl_cons,List.foldl_nil,ze2 n h];omega
  ·rw [zfj h];have:=ih (n / 10) (by omega);unfold zyt at this ⊢;rw [List.foldl_append,this];simp only [List.foldl_cons,List.foldl_nil,ze2 (n % 10) (by omega)];omega
def zku (c:UInt8):Bool:=decide (48≤c.toNat∧c.toNat≤57)
def ixN (p:List UInt8):Nat:=zyt ((p.drop 8).takeWhile zku)
theorem zon (n:Nat)(r:List UInt8)(hr:ztp r):(dec n++r).takeWhile zku=dec n:=by
 rw [List.takeWhile_append_of_pos (fun a A=>by have h:=ziv n a A;unfold zcl at h;simpa [zku] using h)];have:r.takeWhile zku=[]:=by
  cases r with
  | nil=>rfl
  | cons c t =>
   have D:zku c=false:=by
    have:¬ zcl c:=hr;simpa [zku,zcl] using this
   simp [List.takeWhile,D]
 rw [this,List.append_nil]
theorem zl5 (j w:Nat)(h1:1≤w)(h:w≤4):ixN (qi (-1) j w)=j:=by
 rw [zcw (by unfold j8;omega),zfl,List.append_assoc];unfold ixN;rw [List.drop_left' (show zjg.length=8 from rfl),zon _ _ (zsm _),z0v];simp
theorem zsf (fs:Fs):zy5 (yp fs) (fs.map fun f=>ixN f.1):=by
 intro j w h1 r h;obtain⟨d,A⟩:=Option.isSome_iff_exists.1 h;exact List.mem_map.2 ⟨_,zjb A,zl5 j w h1 r⟩
theorem z8d {es:List (List UInt8)}{j w:Nat}{x:List UInt8}(h1:1≤w)(E:w≤4)(h:(qi (-1) j w,x)∈xd es):4*j < es.length:=by
 obtain⟨l,H,A,h2,e⟩:=vv.1 h;unfold zbg at e;simp only [Prod.mk.injEq] at e;have g:=zfd A h2;by_cases D:l=-1
 ·subst D;have r:=congrArg ixN e.1;rw [zl5 j w h1 E,zl5 H _ (by unfold wid;omega) (by unfold wid;omega)] at r;subst r;simpa [yd] using h2
 ·have r:=e.1;rw [zcw (by unfold j8;omega),zcw g,zfl,zfv l D] at r;simp [zjg,zdo] at r
theorem zxp {es:List (List UInt8)}{fs r:Fs}{c:List UInt8}{s:List Nat}(E:zy5 (yp fs) s)(h0:∀ j,4*j < es.length→j∈s)(w:zd6 (xd es) c fs r):zy5 (yp r) s:=by
 intro j D h1 A h;rcases w (qi (-1) j D) with e | ⟨_,x,H,_⟩ | ⟨e,_⟩
 ·rw [e] at h;exact E j D h1 A h
 ·exact h0 j (z8d h1 A H)
 ·exact absurd e zmv
theorem z45 (A:List (List UInt8))(B:Nat)(h:∀ l∈A,l.length≤B):A.flatten.length≤A.length*B:=by
 induction A with
 | nil=>simp
 | cons a r ih =>
  have h1:=h a (by simp);have h2:=ih (fun l D=>h l (by simp [D]));rw [List.flatten_cons,List.length_append,List.length_cons,Nat.add_mul];omega
theorem zp2 {es:List (List UInt8)}(h20:∀ e∈es,e.length≤20)(l:Int)(k:Nat):(xo es l k).length≤21:=by
 unfold xo
 split
 ·unfold zj4;rw [List.getD_eq_getElem?_getD];cases e:es[k]? with
  | none=>simp
  | some x =>
   have:=h20 x (List.mem_of_getElem? e);simp;omega
 ·unfold ye;rw [qk];omega
theorem z6a {es:List (List UInt8)}(h20:∀ e∈es,e.length≤20){q x:List UInt8}(h:(q,x)∈xd es):x.length≤84:=by
 obtain⟨l,j,h1,h2,e⟩:=vv.1 h;unfold zbg at e;simp only [Prod.mk.injEq] at e;rw [e.2];unfold zcj;refine Nat.le_trans (z45 _ 21 fun y r=>?_) ?_
 ·obtain⟨k,-,rfl⟩:=List.mem_map.1 r;exact zp2 h20 l k
 ·rw [List.length_map,List.length_range'];unfold wid;omega
theorem z5q {es:List (List UInt8)}{fs r:Fs}{c:List UInt8}{M:Nat}(h20:∀ e∈es,e.length≤20)(I:∀ f∈fs,f.2.length≤M)(E:c.length≤M)(K:84≤M)(D:za1 r)(w:zd6 (xd es) c fs r):∀ f∈r,f.2.length≤M:=by
 intro f H;have e:=zhd (p:=f.1) (d:=f.2) D H;rcases w f.1 with h | ⟨_,x,J,h⟩ | ⟨_,h⟩
 ·rw [e] at h;exact I (f.1,f.2) (zjb h.symm)
 ·rw [e] at h;obtain A:f.2=x:=by simpa using h
  have:=z6a h20 J;rw [A];omega
 ·rw [e] at h;obtain A:f.2=c:=by simpa using h
  rw [A];exact E
theorem z2q (d:Dk)(p x:List UInt8):(za8 d p x).fs.length≤d.fs.length+1:=by
 have h:=zgt d.fs p x;have e:=congrArg List.length (yi d);unfold za8
 split<;>(try split)<;>(try split)<;>(try simp only)<;>omega
theorem zpi:∀(t:Fs) (d:Dk) ,(qy t d).2.fs.length≤d.fs.length+t.length
 | [],d=>by simp [qy]
 | f::r,d=>by
  have h:=z2q d f.1 f.2;have h2:=zpi r (za8 d f.1 f.2);unfold qy
  split
  ·simp only [List.length_cons];omega
  ·simp only [List.length_cons];omega
theorem z0l (d:Dk)(p x:List UInt8):(zdl d p x).fs.length≤d.fs.length+1:=by
 have h:=zgt d.fs p x;have e:=congrArg List.length (yi d);unfold zdl
 split
 ·simp only;omega
 ·omega
theorem zrx (t:Fs)(c:List UInt8)(d:Dk):(vj t c d).2.fs.length≤d.fs.length+t.length+1:=by
 have h:=zpi t d;unfold vj;generalize qy t d=r at *
 obtain⟨o,A⟩:=r;have h2:=z0l A cpF c;simp only at h ⊢;cases o with
 | some p=>simp only;omega
 | none =>
  simp only
  split<;>(simp only;omega)
theorem zhs (f:Nat→Fs)(B L:Nat)(h:∀ k,(f k).length≤B):((List.range L).flatMap f).length≤L*B:=by
 induction L with
 | zero=>simp
 | succ L ih =>
  rw [List.range_succ,List.flatMap_append,List.length_append,Nat.add_mul];have:=h L;simp only [List.flatMap_cons,List.flatMap_nil,List.append_nil];omega
theorem zg6 (es:List (List UInt8))(l:Int)(j c:Nat):(zhb es l j c).length≤(c+3) / 4:=by
 unfold zhb;rw [List.length_map,List.length_range'];omega
theorem ztv (es:List (List UInt8))(put:Nat)(l:Int):(zeq es put l).length≤(es.length+3) / 4:=by
 unfold zeq
 split
 ·simp
 ·have:=zg6 es l (yd l put / 4) (yd l es.length);have:=zeu l es.length;omega
theorem zsq (es:List (List UInt8))(put:Nat):(xr es put).length≤22*((es.length+3) / 4):=by
 unfold xr zqx;rw [List.length_append];have h1:=ztv es put (-1);have h2:=zhs (fun(k:Nat)=>zeq es put (k:Int)) ((es.length+3) / 4) 21 (fun k=>ztv es put _);omega
theorem zwj (es:List (List UInt8)):(xd es).length≤22*((es.length+3) / 4):=by
 unfold xd vo;rw [List.length_append];have h1:=zg6 es (-1) 0 es.length;have h2:=zhs (fun(k:Nat)=>zhb es (k:Int) 0 (es.length / 4 ^ k)) ((es.length+3) / 4) 21 (fun k=>by
  have h:=zg6 es (k:Int) 0 (es.length / 4 ^ k);have:=Nat.div_le_self es.length (4 ^ k);omega)
 omega
theorem zta {f:List UInt8×List UInt8}:f∉xd []:=by
 intro h;obtain⟨l,j,-,h,-⟩:=vv.1 h;simp [yd] at h
theorem zyd (n:Nat):∀(A:List (List UInt8)) (k:Nat) (h:k < A.length),(∀ l∈A,l.length=n)→(A.flatten.drop (n*k)).take n=A[k]
 | [],k,h,_=>by simp at h
 | a::r,0,_,hl=>by
  have E:=hl a (by simp);rw [Nat.mul_zero,List.drop_zero,List.flatten_cons,List.take_append_of_le_length (by omega),List.take_of_length_le (by omega)];rfl
 | a::r,k+1,h,hl=>by
  have E:=hl a (by simp);rw [List.flatten_cons,show n*(k+1)=a.length+n*k by rw [E,Nat.mul_add,Nat.mul_one,Nat.add_comm],List.drop_append];simp only [List.getElem_cons_succ];rw [List.drop_of_length_le (show a.length≤a.length+n*k by omega),List.nil_append,Nat.add_sub_cancel_left];exact zyd n r k (by simpa using h) (fun l D=>hl l (by simp [D]))
theorem zyc (es:List (List UInt8))(L j:Nat):(xo es (L:Int) j).length=8:=by
 unfold xo;rw [if_neg (by omega)];exact qk _ _
theorem z15 (es:List (List UInt8))(L j w:Nat)(h:j % 4 < w):((zcj es (L:Int) (j / 4) w).drop (8*(j % 4))).take 8=xo es (L:Int) j:=by
 unfold zcj;rw [zyd 8 _ (j % 4) (by simpa using h) (fun l r=>by
  obtain⟨k,-,rfl⟩:=List.mem_map.1 r;exact zyc es L k)]
 rw [List.getElem_map,List.getElem_range'];congr 1;omega
theorem z6l (es:List (List UInt8))(L j w:Nat):(zcj es (L:Int) j w).length=8*w:=by
 have key:∀ A:List (List UInt8),(∀ l∈A,l.length=8)→A.flatten.length=8*A.length:=by
  intro A
  induction A with
  | nil=>simp
  | cons a r ih =>
   intro h;rw [List.flatten_cons,List.length_append,h a (by simp),ih (fun l D=>h l (by simp [D])),List.length_cons];omega
 unfold zcj;rw [key _ (fun l D=>by
  obtain⟨k,-,rfl⟩:=List.mem_map.1 D;exact zyc es L k)]
 simp
end Go.Proofs.YtndkblnpbjffhaaGreatDoor
