import Derived.Test.YtndkblnpbjffhaaGreatDoorG29
set_option maxHeartbeats 8000000
set_option maxRecDepth 100000
open Go.RowKit
namespace Go.Proofs.YtndkblnpbjffhaaGreatDoor
section
attribute [local go_sem ↓] yv yl yy yo yj ym yx yk
def zgj (xs:List Px):Option (List UInt8):=match xs with
 | [a,b,c,d]=>if a.fits&&b.fits&&c.fits&&d.fits then some (yz (yz a.hash b.hash) (yz c.hash d.hash)) else none
 | _=>none
def z81 (xs:List Px)(k:Nat):Prop:=∀ j,j < k→(xs.getD j .no).fits=true
theorem z11 {xs:List Px}(h:xs.length=4)(r:z81 xs 4):zgj xs=some (yz (yz (xs.getD 0 .no).hash (xs.getD 1 .no).hash) (yz (xs.getD 2 .no).hash (xs.getD 3 .no).hash)):=by
 obtain⟨a,b,c,d,rfl⟩:=zfk h;have h0:=r 0 (by omega);have h1:=r 1 (by omega);have h2:=r 2 (by omega);have A:=r 3 (by omega);simp at h0 h1 h2 A;simp [zgj,h0,h1,h2,A]
theorem z4s {xs:List Px}(h:xs.length=4){k:Nat}(A:k < 4)(r:(xs.getD k .no).fits=false):zgj xs=none:=by
 obtain⟨a,b,c,d,rfl⟩:=zfk h
 match k,A with
 | 0,_=>simp at r;simp [zgj,r]
 | 1,_=>simp at r;simp [zgj,r]
 | 2,_=>simp at r;simp [zgj,r]
 | 3,_=>simp at r;simp [zgj,r]
theorem qw {w:World}{b:Nat}{cs:List Value}{t:TypeId}(h:w.heap[b]?=some (.cells cs.toArray t (0,0))):w.there b 0 cs.length:=by
 intro j r;have:=zf h (0+j) (cs[j]'r) (by rw [Nat.zero_add,List.getElem?_toArray];exact List.getElem?_eq_getElem _);exact⟨by rw [this.1];rfl,this.2⟩
theorem ji {w:World}{b:Nat}{cs ds:List Value}{t:TypeId}(h:w.heap[b]?=some (.cells cs.toArray t (0,0)))(r:ds.length=cs.length):(w.setCells b 0 ds).heap[b]?=some (.cells ds.toArray t (0,0)):=by
 rw [zas ds 0 h (by omega),r];simp
abbrev jo:Array Value:=#[.int .u8 0,.int .u8 0,.int .u8 0,.int .u8 0,.int .u8 0,.int .u8 0,.int .u8 0,.int .u8 0]
def z56 (h:Array (Nat×Value)):Sem Value:=Instr.build 92 h
theorem zha (h:Array (Nat×Value)):Instr.build 92 h=z56 h:=rfl
theorem zkw (w:World):(z56 #[]).run Tryz.prog w= .ok (.agg (hv xf)) w:=by kernel_rfl
attribute [local go_sem ↓] zha
theorem z0w (xs:List Px)(Q:FOk xs)(w:World):
  Calls Tryz.prog 191 #[.agg (fcs xs).toArray] w fun r w'=>Below w.heap.size w w'∧((∃ h,zgj xs=some h∧r= .returned (.tuple #[.agg (hv h),.bool true]))∨(zgj xs=none∧r= .returned (.tuple #[.agg (hv xf),.bool false]))):=by
 have J:=za Q;clear Q;go_enter Tryz.func191,Tryz.ntmps191;go_wp2_with fail;have E:Hid (Below w.heap.size w ((w.alloc (.cells (fcs xs).toArray zt)).alloc (.cells jo zjm))∧zn ((w.alloc (.cells (fcs xs).toArray zt)).alloc (.cells jo zjm)) w.heap.size xs∧((w.alloc (.cells (fcs xs).toArray zt)).alloc (.cells jo zjm)).heap[w.heap.size+1]?=some (.cells (xf.map bv).toArray zjm (0,0))):=by
  refine⟨zz _ _ _,zc (heap_alloc_last _ _),?_⟩;have:=heap_alloc_last (w.alloc (.cells (fcs xs).toArray zt)) (.cells jo zjm);rw [show(w.alloc (.cells (fcs xs).toArray zt)).heap.size=w.heap.size+1 by simp] at this;exact this
 generalize (w.alloc (.cells (fcs xs).toArray zt)).alloc (.cells jo zjm)=W0 at *
 go_loopw [5] (fun i wr=>∃ k:Nat,k≤4∧i= .int .i64 k∧z81 xs k∧wr=W0) (fun i _=>4 - (intOf i).toNat)
 case atStart=>exact⟨0,by omega,rfl,fun j hj=>by omega,rfl⟩
 case round =>
  obtain⟨k,hk,rfl,L,rfl⟩:=hrel;by_cases Z:k < 4
  ·have Y:k < xs.length:=by rw [J.o.1];exact Z
   have hg:xs.getD k .no=xs[k]:=by rw [List.getD_eq_getElem?_getD,List.getElem?_eq_getElem Y];rfl
   have c1:wr.cell? ⟨w.heap.size,k*11+1,none⟩=some (.bool (xs[k]).fits):=(E.o.2.1.cell J.o.2 Y (j:=1) (by omega) rfl).1;have i0:(0:Int)≤(k:Int):=by omega
   have i1:(k:Int) < 4:=by omega
   have HG:=za hg;have af:=za L;have ac:(zdk (.pointer (some ⟨w.heap.size+1,0,none⟩)) (.agg (hv xf))).run Tryz.prog wr= .ok () (wr.setCells (w.heap.size+1) 0 (xf.map bv)):=zbe (qw E.o.2.2) rfl;have HW:=za (ji (ds:=xf.map bv) E.o.2.2 rfl);have HB:=za (zr E.o.1 (Nat.le_succ w.heap.size) (xf.map bv) 0);have aj:=zkw wr;clear hg L;generalize xs[k]=z at *
   cases hzf:z.fits with
   | true =>
    rw [hzf] at c1;go_wp2_with fail;go_roundw
    case rel=>exact⟨k+1,by omega,by go_num,fun j hj=>by
     rcases Nat.lt_or_ge j k with h | h
     ·exact af.o j h
     ·obtain rfl:j=k:=by omega
      rw [HG.o];exact hzf,by first | rfl | trivial⟩
    case measure=>simp [intOf];omega
   | false =>
    rw [hzf] at c1;go_wp2_with fail;refine bodyPost_ret (v:= .tuple #[.agg (hv xf),.bool false]) (zv Tryz.results191 _ _ (w.heap.size+1) zjm _ (0,0) _ rfl HW.o Tryz.underlying92 rfl zfz _ rfl) rfl ⟨HB.o,.inr ⟨z4s J.o.1 Z (by rw [HG.o];exact hzf),rfl⟩⟩
  ·obtain rfl:k=4:=by omega
   have HR:=za (z11 J.o.1 L);obtain⟨a,b,c,d,K⟩:=zfk J.o.1;have HE:=za K;have a8:=(J.o.2 a (by rw [K];simp)).1;have b8:=(J.o.2 b (by rw [K];simp)).1;have c8:=(J.o.2 c (by rw [K];simp)).1;have d8:=(J.o.2 d (by rw [K];simp)).1;have HS:Hid (∀ w',zn w' w.heap.size xs→((zaf (.pointer (some ⟨w.heap.size,2,none⟩))).run Tryz.prog w'= .ok (.agg (hv a.hash)) w'∧(zaf (.pointer (some ⟨w.heap.size,13,none⟩))).run Tryz.prog w'= .ok (.agg (hv b.hash)) w'∧(zaf (.pointer (some ⟨w.heap.size,24,none⟩))).run Tryz.prog w'= .ok (.agg (hv c.hash)) w'∧(zaf (.pointer (some ⟨w.heap.size,35,none⟩))).run Tryz.prog w'= .ok (.agg (hv d.hash)) w')):=by
    intro w' X;rw [K] at X;have Q:∀ x∈[a,b,c,d],x.ok:=by rw [← K];exact J.o.2
    exact⟨qr (X.hash Q (k:=0) (by simp)) a8,qr (X.hash Q (k:=1) (by simp)) b8,qr (X.hash Q (k:=2) (by simp)) c8,qr (X.hash Q (k:=3) (by simp)) d8⟩
   have S:Hid (∃ N,N=yz a.hash b.hash∧N.length=8∧∀ w',Calls Tryz.prog 71 #[.agg (hv a.hash),.agg (hv b.hash)] w' fun r I=>r= .returned (.agg (hv N))∧Below w'.heap.size w' I):=⟨_,rfl,ql _ _,fun w'=>zay _ _ w' a8 b8⟩
   have U:Hid (∃ N,N=yz c.hash d.hash∧N.length=8∧∀ w',Calls Tryz.prog 71 #[.agg (hv c.hash),.agg (hv d.hash)] w' fun r I=>r= .returned (.agg (hv N))∧Below w'.heap.size w' I):=⟨_,rfl,ql _ _,fun w'=>zay _ _ w' c8 d8⟩
   obtain⟨N1,e1,l1,k1⟩:=S.o;obtain⟨N2,e2,l2,k2⟩:=U.o;have V:Hid (∃ N,N=yz N1 N2∧N.length=8∧∀ w',Calls Tryz.prog 71 #[.agg (hv N1),.agg (hv N2)] w' fun r I=>r= .returned (.agg (hv N))∧Below w'.heap.size w' I):=⟨_,rfl,ql _ _,fun w'=>zay _ _ w' l1 l2⟩
   obtain⟨W,e3,l3,k3⟩:=V.o;have K1:=za k1;have K2:=za k2;have K3:=za k3;have L3:=za l3;rw [K] at HR;have ag:Hid (zgj xs=some W):=by
    show _=_;rw [K,e3,e2,e1];exact HR.o
   clear HR k1 k2 k3 e1 e2 e3 l1 l2 l3 S U V;have ah:Hid (∀ w',Below wr.heap.size wr w'→∀ h:List UInt8,h.length=8→(zdk (.pointer (some ⟨w.heap.size+1,0,none⟩)) (.agg (hv h))).run Tryz.prog w'= .ok () (w'.setCells (w.heap.size+1) 0 (h.map bv))):=by
    intro w' H h h8;have:=(H.block _ (zb E.o.2.2)).trans E.o.2.2;exact zbe (qw this) h8
   have ad:Hid (∀ w',Below wr.heap.size wr w'→∀ h:List UInt8,h.length=8→(w'.setCells (w.heap.size+1) 0 (h.map bv)).heap[w.heap.size+1]?=some (.cells (hv h) zjm (0,0))∧Below w.heap.size w (w'.setCells (w.heap.size+1) 0 (h.map bv))):=by
    intro w' H h h8;have:=(H.block _ (zb E.o.2.2)).trans E.o.2.2;exact⟨ji this (by simp [h8,xf]),zr (E.o.1.trans (H.mono E.o.1.size)) (Nat.le_succ _) _ _⟩
   have R:Hid (∀ w',Below wr.heap.size wr w'→zn w' w.heap.size xs):=fun w' H=>(H.block _ (zb E.o.2.1)).trans E.o.2.1;have ae:Hid (∀ w',Below wr.heap.size wr w'→∀ h,zn (w'.setCells (w.heap.size+1) 0 h) w.heap.size xs):=by
    intro w' H h;show(w'.setCells _ _ _).heap[w.heap.size]?=_;rw [qc _ _ (by omega)];exact R.o w' H
   have A:Below wr.heap.size wr wr.drew:=(Below.refl _ _).drew;clear K L;go_wp2_with fail;go_region_held3 (fun w'=>(zaf (.pointer (some ⟨w.heap.size,2,none⟩))).run Tryz.prog w'= .ok (.agg (hv a.hash)) w'∧(zaf (.pointer (some ⟨w.heap.size,13,none⟩))).run Tryz.prog w'= .ok (.agg (hv b.hash)) w'∧(zaf (.pointer (some ⟨w.heap.size,24,none⟩))).run Tryz.prog w'= .ok (.agg (hv c.hash)) w'∧(zaf (.pointer (some ⟨w.heap.size,35,none⟩))).run Tryz.prog w'= .ok (.agg (hv d.hash)) w') (first | exact HS.o _ (R.o _ A) | exact HS.o _ (ae.o _ A _)) (first
    | (go_at_call 71;(first | refine(K1.out _).mono ?_ | refine(K2.out _).mono ?_ | refine(K3.out _).mono ?_);rintro r w1 ⟨rfl,H⟩;have aa:=A.trans (H.mono A.size);clear A H;have A:=aa;clear aa;have ac:=ah.o _ A W L3.out))
   rename_i ai;clear ai;have HK:=za (ad.o _ A W L3.out);clear A ac;go_wp2_with fail;refine bodyPost_ret (v:= .tuple #[.agg (hv W),.bool true]) (zv Tryz.results191 _ _ (w.heap.size+1) zjm _ (0,0) _ rfl HK.o.1 Tryz.underlying92 rfl (by rw [zfz];simp [hv,L3.out]) _ rfl) rfl ⟨HK.o.2,.inl ⟨W,ag.o,rfl⟩⟩
end
def jf {α β:Type}(R:α→β→Prop):List α→List β→Prop
 | [],[]=>True
 | a::l,b::m=>R a b∧jf R l m
 | _,_=>False
theorem jf.nil {α β:Type}{R:α→β→Prop}:jf R [] []:=trivial
theorem jf.cons {α β:Type}{R:α→β→Prop}{a:α}{b:β}{l:List α}{m:List β}(h:R a b)(t:jf R l m):jf R (a::l) (b::m):=⟨h,t⟩
theorem jf.ind {α β:Type}{R:α→β→Prop}{r:(l:List α)→(m:List β)→jf R l m→Prop}(nil:r [] [] jf.nil)(cons:∀ {a:α} {b:β} {l:List α} {m:List β} (h:R a b) (t:jf R l m),r l m t→r (a::l) (b::m) (jf.cons h t)):∀ {l:List α} {m:List β} (h:jf R l m),r l m h
 | [],[],_=>nil
 | _::_,_::_,h=>cons h.1 h.2 (jf.ind nil cons h.2)
 | [],_::_,h=>False.elim h
 | _::_,[],h=>False.elim h
theorem jf.empty {α β:Type}{R:α→β→Prop}{l:List α}(h:jf R l ([]:List β)):l=[]:=by
 cases l with
 | nil=>rfl
 | cons a l=>exact False.elim h
theorem jf.len {α β:Type}{R:α→β→Prop}{l:List α}{m:List β}(h:jf R l m):l.length=m.length:=by
 induction h using jf.ind with
 | nil=>rfl
 | cons _ _ ih=>simp [ih]
theorem jf.mono {α β:Type}{R r:α→β→Prop}{l:List α}{m:List β}(h:jf R l m)(hr:∀ a∈l,∀ b,R a b→r a b):jf r l m:=by
 induction h using jf.ind with
 | nil=>exact .nil
 | cons h1 _ ih=>exact .cons (hr _ (by simp) _ h1) (ih fun a A b=>hr a (by simp [A]) b)
theorem jf.append {α β:Type}{R:α→β→Prop}{l l':List α}{m r:List β}(h:jf R l m)(A:jf R l' r):jf R (l++l') (m++r):=by
 induction h using jf.ind with
 | nil=>exact A
 | cons h1 _ ih=>exact .cons h1 ih
theorem jf.snoc {α β:Type}{R:α→β→Prop}{l:List α}{m:List β}(h:jf R l m){a:α}{b:β}(hr:R a b):jf R (l++[a]) (m++[b]):=h.append (.cons hr .nil)
theorem jf.filter {α β:Type}{R:α→β→Prop}{l:List α}{m:List β}(h:jf R l m)(p:α→Bool)(q:β→Bool)(r:∀ a b,R a b→p a=q b):jf R (l.filter p) (m.filter q):=by
 induction h using jf.ind with
 | nil=>exact .nil
 | cons h1 _ ih =>
  rename_i a b l m _;have e:=r a b h1;cases hp:p a with
  | true=>rw [List.filter_cons_of_pos hp,List.filter_cons_of_pos (by rw [← e];exact hp)];exact .cons h1 ih
  | false=>rw [List.filter_cons_of_neg (by simp [hp]),List.filter_cons_of_neg (by rw [← e];simp [hp])];exact ih
theorem jf.find {α β:Type}{R:α→β→Prop}{l:List α}{m:List β}(h:jf R l m)(p:α→Bool)(q:β→Bool)(r:∀ a b,R a b→p a=q b):(l.find? p=none∧m.find? q=none)∨∃ a b,l.find? p=some a∧m.find? q=some b∧R a b∧a∈l∧b∈m:=by
 induction h using jf.ind with
 | nil=>exact .inl ⟨rfl,rfl⟩
 | cons h1 _ A =>
  rename_i a b l m _;have e:=r a b h1;cases hp:p a with
  | true=>exact .inr ⟨a,b,List.find?_cons_of_pos hp,List.find?_cons_of_pos (by rw [← e];exact hp),h1,by simp,by simp⟩
  | false =>
   rw [List.find?_cons_of_neg (by simp [hp]),List.find?_cons_of_neg (by rw [← e];simp [hp])];rcases A with A | ⟨D,E,H,I,J,K,L⟩
   ·exact .inl A
   ·exact .inr ⟨D,E,H,I,J,by simp [K],by simp [L]⟩
theorem jf.mem {α β:Type}{R:α→β→Prop}{l:List α}{m:List β}(h:jf R l m):∀ a∈l,∃ b∈m,R a b:=by
 induction h using jf.ind with
 | nil=>simp
 | cons h1 _ ih =>
  intro a r;rcases List.mem_cons.1 r with rfl | r
  ·exact⟨_,by simp,h1⟩
  ·obtain⟨b,A,hr⟩:=ih a r;exact⟨b,by simp [A],hr⟩
theorem jf.tail {α β:Type}{R:α→β→Prop}{l:List α}{m:List β}(h:jf R l m):jf R l.tail m.tail:=by
 induction h using jf.ind with
 | nil=>exact .nil
 | cons _ h _=>exact h
abbrev zbh:Int:=9223372036854775807
def zux (w:World)(A:Nat→Prop)(v:Value)(f:Fl):Prop:=∃ fb xs,v=zo fb∧A fb∧zn w fb xs∧FOk xs∧j9 w xs f
def NdR (w:World)(A:Nat→Prop)(x:Nat×Pl×Value)(y:Pl×Fl):Prop:=x.2.1=y.1∧zux w A x.2.2 y.2
def zgs (w:World)(A:Nat→Prop)(nm:Nat)(r:Mm):Prop:=∃ h,zab w A nm zbh h∧jf (NdR w A) h r∧(h.map (·.2.2)).Nodup
def PrR (w:World)(x:Nat×Pl×List Value)(y:Pl×Fl):Prop:=x.2.1=y.1∧∃ xs,x.2.2=fcs xs∧FOk xs∧j9 w xs y.2
def zhk (w:World)(r:Nat→Prop)(A:Nat)(room:Int)(D:Mm):Prop:=∃ h,zdh w r A room h∧jf (PrR w) h D
theorem zuj {a b:Nat}(h:zo a=zo b):a=b:=by
 unfold zo at h
 injection h with h
 injection h with h
 injection h
theorem zgs.get {w:World}{A:Nat→Prop}{D:Mm}{r:LsN}(h:jf (NdR w A) r D)(p:Pl):(r.get p=none∧D.get p=none)∨∃ b v f,r.get p=some (b,v)∧D.get p=some f∧zux w A v f∧(b,p,v)∈r:=by
 rcases h.find (fun x=>decide (x.2.1=p)) (fun x=>decide (x.1=p)) (fun a b hr=>by rw [hr.1]) with ⟨h1,h2⟩ | ⟨a,b,h1,h2,E,H,h5⟩
 ·exact .inl ⟨by unfold LsN.get;rw [h1],by unfold Mm.get;rw [h2]⟩
 ·have:=List.find?_some h1;simp only [decide_eq_true_eq] at this;subst this;exact .inr ⟨a.1,a.2.2,b.2,by unfold LsN.get;rw [h1],by unfold Mm.get;rw [h2],E.2,H⟩
theorem zhk.get {w:World}{r:LsP}{A:Mm}(h:jf (PrR w) r A)(p:Pl):(r.get p=none∧A.get p=none)∨∃ b xs f,r.get p=some (b,fcs xs)∧A.get p=some f∧FOk xs∧j9 w xs f:=by
 rcases h.find (fun x=>decide (x.2.1=p)) (fun x=>decide (x.1=p)) (fun a b hr=>by rw [hr.1]) with ⟨h1,h2⟩ | ⟨a,b,h1,h2,D,H,h5⟩
 ·exact .inl ⟨by unfold LsP.get;rw [h1],by unfold Mm.get;rw [h2]⟩
 ·obtain⟨D,xs,e,h6,E⟩:=D;exact .inr ⟨a.1,xs,b.2,by unfold LsP.get;rw [h1];show some (a.1,a.2.2)=_;rw [e],by unfold Mm.get;rw [h2],h6,E⟩
theorem zux.turn {w w':World}{O A r:Nat→Prop}{T:List Nat}{v:Value}{f:Fl}(h:zux w A v f)(D:zg O T w w')(h1:zt∉T)(h2:5∉T)(I:∀ k,A k→r k):zux w' r v f:=by
 obtain⟨fb,xs,e,E,H,h5,h6⟩:=h;exact⟨fb,xs,e,I _ E,D.keep H h1,h5,h6.turn D h2⟩
theorem PrR.turn {w w':World}{O:Nat→Prop}{T:List Nat}{x:Nat×Pl×List Value}{y:Pl×Fl}(h:PrR w x y)(r:zg O T w w')(h2:5∉T):PrR w' x y:=by
 obtain⟨h1,xs,e,h5,h6⟩:=h;exact⟨h1,xs,e,h5,h6.turn r h2⟩
theorem zhk.stay {w w':World}{O A r:Nat→Prop}{T:List Nat}{E:Nat}{room:Int}{H:Mm}(h:zhk w A E room H)(D:zg O T w w')(h1:∀ k,A k→¬ O k)(h2:5∉T)(L:∀ k,A k→r k):zhk w' r E room H:=by
 obtain⟨I,J,K⟩:=h;exact⟨I,J.stay D h1 L,K.mono fun a _ b hr=>hr.turn D h2⟩
theorem zgs.stay {w w':World}{O A r:Nat→Prop}{T:List Nat}{nm:Nat}{H:Mm}(h:zgs w A nm H)(E:zg O T w w')(h1:∀ k,A k→¬ O k)(h2:5∉T)(Q:zt∉T)(D:∀ k,A k→r k):zgs w' r nm H:=by
 obtain⟨I,J,K,L⟩:=h;exact⟨I,J.stay E h1 D,K.mono fun a _ b hr=>⟨hr.1,hr.2.turn E Q h2 D⟩,L⟩
structure CCs (C:Array Value)(nb pm nm:Nat):Prop where
 net:C[2]?=some (znj nb)
 prv:C[13]?=some (zo pm)
 nee:C[14]?=some (zo nm)
structure CS (W0 w:World)(O A OP:Nat→Prop)(cb nb db pm nm:Nat)(C:Array Value)(d:Dk)(room:Int)(pr:Mm)(m:Ms Nt)(k:Nat):Prop where
 base:Below W0.heap.size W0 w
 own:∀ b,O b∨A b→W0.heap.size≤b
 apart:∀ b,O b→¬ A b
 lt:∀ b,O b∨A b∨OP b→b < w.heap.size
 disk:zq w O db d
 net:vi w O nb db m.net
 st:NSt d m.net
 few:m.net.fetches+2*k < 4611686018427387904
 cli:w.heap[cb]?=some (.cells C qh (0,0))
 cells:CCs C nb pm nm
 prv:zhk w OP pm room pr
 away:∀ b,OP b→¬(O b∨A b)
 nee:zgs w A nm m.needed
 short:m.needed.length+k≤1000000000
abbrev qT:List Nat:=[76,3,LkN,zt]
def z8z (h:Nat→Addr)(w':World)(o:Sum (List UInt8) Pc)(r:Ending):Prop :=
 (∃ x c,o= .inr c∧x.ok∧zdd w' x c∧r= .returned (.tuple #[.agg x.cs.toArray,.nilIface])) ∨
 (∃ p g,o= .inl p∧w'.heap[g]?=some (.cells #[txv p,j4 h 5] 141 (0,0))∧r= .returned (.tuple #[.agg Px.no.cs.toArray,qq g]))
end Go.Proofs.YtndkblnpbjffhaaGreatDoor
