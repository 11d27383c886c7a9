import Derived.Test.YtndkblnpbjffhaaGreatDoorG15
set_option maxHeartbeats 4000000
set_option maxRecDepth 100000
open Go.RowKit
namespace Go.Proofs.YtndkblnpbjffhaaGreatDoor
structure Px where
 there:Bool
 fits:Bool
 hash:List UInt8
 ent:Value
def Px.cs (x:Px):List Value:= .bool x.there:: .bool x.fits::((x.hash.map bv)++[x.ent])
def Px.ok (x:Px):Prop:=x.hash.length=8∧∃ a n c,x.ent= .slice a n c
def fcs (xs:List Px):List Value:=(xs.map Px.cs).flatten
def FOk (xs:List Px):Prop:=xs.length=4∧∀ x∈xs,x.ok
theorem Px.cs_len {x:Px}(h:x.ok):x.cs.length=11:=by simp [Px.cs,h.1]
theorem Px.cs_one {x:Px}(h:x.ok):∀ v∈x.cs,v.oneCell'=true:=by
 obtain⟨-,a,n,c,e⟩:=h;intro v hv;simp only [Px.cs,List.mem_cons,List.mem_append,List.mem_map,List.not_mem_nil,or_false] at hv;rcases hv with rfl | rfl | ⟨b,-,rfl⟩ | rfl
 ·rfl
 ·rfl
 ·simp [bv,Value.oneCell']
 ·rw [e];rfl
theorem zh6 {xs:List Px}(h:∀ x∈xs,x.ok):(fcs xs).length=11*xs.length:=by
 induction xs with
 | nil=>rfl
 | cons x xs ih =>
  have:fcs (x::xs)=x.cs++fcs xs:=by simp [fcs]
  rw [this,List.length_append,Px.cs_len (h x (by simp)),ih (fun y r=>h y (by simp [r])),List.length_cons];omega
theorem jp {xs:List Px}(h:∀ x∈xs,x.ok):∀ v∈fcs xs,v.oneCell'=true:=by
 intro v hv;unfold fcs at hv;obtain⟨l,A,r⟩:=List.mem_flatten.1 hv;obtain⟨x,D,rfl⟩:=List.mem_map.1 A;exact Px.cs_one (h x D) v r
theorem FOk.len {xs:List Px}(h:FOk xs):(fcs xs).length=44:=by rw [zh6 h.2,h.1]
theorem z92 {xs:List Px}(h:∀ x∈xs,x.ok)(k:Nat)(r:k < xs.length)(j:Nat)(E:j < 11):(fcs xs)[k*11+j]?=xs[k].cs[j]?:=by
 induction xs generalizing k with
 | nil=>simp at r
 | cons x xs ih =>
  have e:fcs (x::xs)=x.cs++fcs xs:=by simp [fcs]
  have A:=Px.cs_len (h x (by simp));rw [e];cases k with
  | zero =>
   rw [Nat.zero_mul,Nat.zero_add,List.getElem?_append_left (by omega)];rfl
  | succ k =>
   rw [List.getElem?_append_right (by omega),A,show(k+1)*11+j - 11=k*11+j by omega,ih (fun y D=>h y (by simp [D])) k (by simpa using r)];rfl
theorem zjd {xs:List Px}(h:∀ x∈xs,x.ok)(k:Nat)(A:k < xs.length)(x:Px)(_:x.ok):fcs (xs.set k x)=(fcs xs).take (k*11)++(x.cs++(fcs xs).drop (k*11+11)):=by
 induction xs generalizing k with
 | nil=>simp at A
 | cons y xs ih =>
  have e:∀(z:Px) (r:List Px),fcs (z::r)=z.cs++fcs r:=by simp [fcs]
  have D:=Px.cs_len (h y (by simp));cases k with
  | zero =>
   rw [List.set_cons_zero,e,e,Nat.zero_mul,Nat.zero_add,List.take_zero,List.nil_append,← D,List.drop_left]
  | succ k =>
   rw [List.set_cons_succ,e,e,ih (fun z E=>h z (by simp [E])) k (by simpa using A)];rw [show(k+1)*11=y.cs.length+k*11 by omega,List.take_length_add_append,show y.cs.length+k*11+11=y.cs.length+(k*11+11) by omega,List.drop_length_add_append,List.append_assoc]
theorem zas {w:World}{b:Nat}{old:List Value}{t:TypeId}(r:List Value)(o:Nat)(h:w.heap[b]?=some (.cells old.toArray t (0,0)))(D:o+r.length≤old.length):
  (w.setCells b o r).heap[b]?=some (.cells (old.take o++(r++old.drop (o+r.length))).toArray t (0,0)):=by
 induction r generalizing w o old with
 | nil =>
  have:w.setCells b o []=w:=rfl;rw [this,h];simp
 | cons v r ih =>
  have e:w.setCells b o (v::r)=(w.setCell ⟨b,o,none⟩ v).setCells b (o+1) r:=rfl;simp only [List.length_cons] at D;have h1:(w.setCell ⟨b,o,none⟩ v).heap[b]?=some (.cells (old.set o v).toArray t (0,0)):=by
   have:=heap_setCell_same w b o old.toArray t v h;simpa using this
  rw [e,ih (o+1) h1 (by simp;omega)];congr 3;rw [List.set_eq_take_append_cons_drop,if_pos (by omega)];have h2:(old.take o).length=o:=by simp;omega
  have A:o+1=(old.take o).length+1:=by omega
  rw [List.length_cons,show(old.take o++v::old.drop (o+1)).take (o+1)=old.take o++[v] by
   rw [A,List.take_length_add_append];simp]
  rw [show(old.take o++v::old.drop (o+1)).drop (o+1+r.length)=old.drop (o+(r.length+1)) by
   rw [show o+1+r.length=(old.take o).length+(r.length+1) by omega,List.drop_length_add_append,List.drop_succ_cons,List.drop_drop];congr 1;omega]
  simp
theorem qc {w:World}{b k:Nat}(r:List Value)(o:Nat)(h:k≠b):(w.setCells b o r).heap[k]?=w.heap[k]?:=by
 induction r generalizing w o with
 | nil=>rfl
 | cons v r ih =>
  have e:w.setCells b o (v::r)=(w.setCell ⟨b,o,none⟩ v).setCells b (o+1) r:=rfl;rw [e,ih,heap_setCell_other _ _ _ _ h]
theorem vh {w:World}{b:Nat}(h:List Value)(o:Nat):(w.setCells b o h).heap.size=w.heap.size:=by
 induction h generalizing w o with
 | nil=>rfl
 | cons v h ih =>
  have e:w.setCells b o (v::h)=(w.setCell ⟨b,o,none⟩ v).setCells b (o+1) h:=rfl;rw [e,ih];simp [World.setCell]
theorem ze7 {w:World}{b:Nat}(h:List Value)(o:Nat):(w.setCells b o h).os=w.os∧(w.setCells b o h).tape=w.tape∧(w.setCells b o h).output=w.output:=by
 induction h generalizing w o with
 | nil=>exact⟨rfl,rfl,rfl⟩
 | cons v h ih =>
  have e:w.setCells b o (v::h)=(w.setCell ⟨b,o,none⟩ v).setCells b (o+1) h:=rfl;rw [e];exact ih (w:=w.setCell ⟨b,o,none⟩ v) (o+1)
theorem zg.setCells {O:Nat→Prop}{T:List Nat}{a w:World}(h:zg O T a w){b:Nat}{c:Array Value}{t:TypeId}{x:Nat×Nat}(D:Ext O a w b)(e:w.heap[b]?=some (.cells c t x))(E:t∈T)(A:List Value)(o:Nat):zg O T a (w.setCells b o A):=by
 obtain⟨H,I,J⟩:=ze7 (w:=w) (b:=b) A o;refine h.trans ⟨H,I,J,by rw [vh];exact Nat.le_refl _,fun k K=>?_⟩;by_cases r:k=b
 ·subst r;exact .inr ⟨D,.inl ⟨c,t,x,e,E⟩⟩
 ·exact .inl (qc A o r)
theorem zr {B b:Nat}{w0 w:World}(h:Below B w0 w)(I:B≤b)(r:List Value)(o:Nat):Below B w0 (w.setCells b o r):=by
 obtain⟨D,E,H⟩:=ze7 (w:=w) (b:=b) r o;exact⟨D.trans h.os,E.trans h.tape,H.trans h.output,by rw [vh];exact h.size,fun k A=>by rw [qc r o (by omega)];exact h.block k A⟩
abbrev zt:Nat:=104
abbrev jb:Nat:=102
abbrev zjm:Nat:=92
def zn (w:World)(fb:Nat)(xs:List Px):Prop:=w.heap[fb]?=some (.cells (fcs xs).toArray zt (0,0))
theorem zn.cell {w:World}{fb:Nat}{xs:List Px}(h:zn w fb xs)(D:∀ x∈xs,x.ok){k:Nat}(A:k < xs.length){j:Nat}(r:j < 11){v:Value}(hv:xs[k].cs[j]?=some v):
  w.cell? ⟨fb,k*11+j,none⟩=some v∧w.frozen? ⟨fb,k*11+j,none⟩=false :=
 zf h _ v (by rw [List.getElem?_toArray,z92 D k A j r];exact hv)
theorem zn.piece {w:World}{fb:Nat}{xs:List Px}(h:zn w fb xs)(D:∀ x∈xs,x.ok){k:Nat}(A:k < xs.length):w.rangeAt fb (k*11) xs[k].cs:=by
 intro j v hv;have r:j < xs[k].cs.length:=(List.getElem?_eq_some_iff.1 hv).1;rw [Px.cs_len (D _ (List.getElem_mem A))] at r;exact(h.cell D A r hv).1
theorem zn.hash {w:World}{fb:Nat}{xs:List Px}(h:zn w fb xs)(D:∀ x∈xs,x.ok){k:Nat}(A:k < xs.length):w.rangeAt fb (k*11+2) (xs[k].hash.map bv):=by
 intro j v hv;have r:j < (xs[k].hash.map bv).length:=(List.getElem?_eq_some_iff.1 hv).1;have E:=(D _ (List.getElem_mem A)).1;simp only [List.length_map] at r;rw [Nat.add_assoc];refine(h.cell D A (j:=2+j) (by omega) ?_).1;unfold Px.cs;rw [show 2+j=j+1+1 by omega,List.getElem?_cons_succ,List.getElem?_cons_succ,List.getElem?_append_left (by simpa using r)];exact hv
theorem zn.there {w:World}{fb:Nat}{xs:List Px}(h:zn w fb xs)(A:∀ x∈xs,x.ok){k:Nat}(r:k < xs.length){o n:Nat}(H:o+n≤11):w.there fb (k*11+o) n:=by
 intro j D;have E:=Px.cs_len (A _ (List.getElem_mem r));rw [Nat.add_assoc];have:=h.cell A r (j:=o+j) (by omega) (v:=xs[k].cs[o+j]'(by omega)) (List.getElem?_eq_getElem _);exact⟨by rw [this.1];rfl,this.2⟩
theorem zn.set {w:World}{fb:Nat}{xs:List Px}(h:zn w fb xs)(A:∀ x∈xs,x.ok){k:Nat}(E:k < xs.length){x:Px}(r:x.ok):zn (w.setCells fb (k*11) x.cs) fb (xs.set k x):=by
 unfold zn;have H:=zh6 A;have D:=Px.cs_len r;rw [zas x.cs (k*11) h (by omega),zjd A k E x r,D]
theorem zj1 {xs:List Px}(A:∀ x∈xs,x.ok)(k:Nat){x:Px}(r:x.ok):∀ y∈xs.set k x,y.ok:=fun y D=>by
 rcases List.mem_or_eq_of_mem_set D with h | h
 ·exact A y h
 ·rw [h];exact r
theorem zn.set1 {w:World}{fb:Nat}{xs:List Px}(h:zn w fb xs)(r:∀ x∈xs,x.ok){k:Nat}(A:k < xs.length){j:Nat}{v:Value}{x:Px}(J:j < 11)(E:x.ok)(e:x.cs=xs[k].cs.set j v):zn (w.setCell ⟨fb,k*11+j,none⟩ v) fb (xs.set k x):=by
 unfold zn;have h1:(w.setCell ⟨fb,k*11+j,none⟩ v).heap[fb]?=some (.cells ((fcs xs).set (k*11+j) v).toArray zt (0,0)):=by
  have:=heap_setCell_same w fb (k*11+j) (fcs xs).toArray zt v h;simpa using this
 rw [h1,zjd r k A x E,e];congr 3;have K:=zh6 r;have I:=Px.cs_len (r _ (List.getElem_mem A));have D:fcs xs=(fcs xs).take (k*11)++(xs[k].cs++(fcs xs).drop (k*11+11)):=by
  have:=zjd r k A xs[k] (r _ (List.getElem_mem A));rw [List.set_getElem_self] at this;exact this
 have H:((fcs xs).take (k*11)).length=k*11:=by simp;omega
 conv=>lhs;rw [D]
 rw [List.set_append_right _ _ (by omega),H,Nat.add_sub_cancel_left,List.set_append_left _ _ (by omega)]
def zcq (a v:Value):Sem Unit:=Instr.storeAt 104 a v
theorem yl (a v:Value):Instr.storeAt 104 a v=zcq a v:=rfl
def ztc (a:Value):Sem Value:=Instr.loadAt 102 a
theorem yy (a:Value):Instr.loadAt 102 a=ztc a:=rfl
def zhj (a v:Value):Sem Unit:=Instr.storeAt 102 a v
theorem yo (a v:Value):Instr.storeAt 102 a v=zhj a v:=rfl
def zqt (h:Array (Nat×Value)):Sem Value:=Instr.build 102 h
theorem yj (h:Array (Nat×Value)):Instr.build 102 h=zqt h:=rfl
def z5t (h:Array (Nat×Value)):Sem Value:=Instr.build 104 h
theorem ym (h:Array (Nat×Value)):Instr.build 104 h=z5t h:=rfl
def zaf (a:Value):Sem Value:=Instr.loadAt 92 a
theorem yx (a:Value):Instr.loadAt 92 a=zaf a:=rfl
def zdk (a v:Value):Sem Unit:=Instr.storeAt 92 a v
theorem yk (a v:Value):Instr.storeAt 92 a v=zdk a v:=rfl
theorem zh4:(Tryz.prog.info? 102).map (·.size)=some 11:=by kernel_rfl
theorem zfz:(Tryz.prog.info? 92).map (·.size)=some 8:=by kernel_rfl
theorem qj {w:World}{b o:Nat}{cs:List Value}(h:w.there b o 44)(r:cs.length=44)(h1:∀ v∈cs,v.oneCell'=true):(zcq (.pointer (some ⟨b,o,none⟩)) (.agg cs.toArray)).run Tryz.prog w= .ok () (w.setCells b o cs):=by
 have:=run_storeAt_mid (P:=Tryz.prog) w b o 104 cs.toArray (by rw [List.size_toArray,r];exact h) (by rw [jt,List.size_toArray,r]) (all_oneCell_toArray h1);simpa [zcq] using this
theorem zl6 {w:World}{b o:Nat}{cs:List Value}(h:w.rangeAt b o cs)(r:cs.length=11):(ztc (.pointer (some ⟨b,o,none⟩))).run Tryz.prog w= .ok (.agg cs.toArray) w :=
 run_loadAt_mid w b o _ cs _ h Tryz.underlying102 rfl (by rw [zh4,r])
theorem zb2 {w:World}{b o:Nat}{cs:List Value}(h:w.there b o 11)(r:cs.length=11)(h1:∀ v∈cs,v.oneCell'=true):(zhj (.pointer (some ⟨b,o,none⟩)) (.agg cs.toArray)).run Tryz.prog w= .ok () (w.setCells b o cs):=by
 have:=run_storeAt_mid (P:=Tryz.prog) w b o 102 cs.toArray (by rw [List.size_toArray,r];exact h) (by rw [zh4,List.size_toArray,r]) (all_oneCell_toArray h1);simpa [zhj] using this
theorem qr {w:World}{b o:Nat}{h:List UInt8}(hr:w.rangeAt b o (h.map bv))(r:h.length=8):(zaf (.pointer (some ⟨b,o,none⟩))).run Tryz.prog w= .ok (.agg (hv h)) w :=
 run_loadAt_mid w b o _ (h.map bv) _ hr Tryz.underlying92 rfl (by rw [zfz,List.length_map,r])
theorem zyf {h:List UInt8}:∀ v∈h.map bv,v.oneCell'=true:=fun v hv=>by
 obtain⟨b,-,rfl⟩:=List.mem_map.1 hv;simp [bv,Value.oneCell']
theorem zbe {w:World}{b o:Nat}{h:List UInt8}(A:w.there b o 8)(r:h.length=8):(zdk (.pointer (some ⟨b,o,none⟩)) (.agg (hv h))).run Tryz.prog w= .ok () (w.setCells b o (h.map bv)):=by
 have:=run_storeAt_mid (P:=Tryz.prog) w b o 92 (h.map bv).toArray (by rw [List.size_toArray,List.length_map,r];exact A) (by rw [zfz,List.size_toArray,List.length_map,r]) (all_oneCell_toArray zyf);simpa [zdk,hv] using this
theorem zs8 (h:List UInt8)(A:h.length=8)(v:Value)(r:v.oneCell'=true)(w:World):(zqt #[(0,.bool true),(2,.agg (hv h)),(3,v)]).run Tryz.prog w= .ok (.agg (Px.cs ⟨true,false,h,v⟩).toArray) w:=by
 obtain⟨D,E,H,I,J,K,L,Q,rfl⟩:=hv8 h A;cases v<;>first | (simp [Value.oneCell'] at r;done) | kernel_rfl
theorem zvs (h:List UInt8)(r:h.length=8)(w:World):(zqt #[(0,.bool true),(1,.bool true),(2,.agg (hv h))]).run Tryz.prog w= .ok (.agg (Px.cs ⟨true,true,h,.slice none 0 0⟩).toArray) w:=by
 obtain⟨A,D,E,H,I,J,K,L,rfl⟩:=hv8 h r;kernel_rfl
def Px.no:Px:=⟨false,false,xf,.slice none 0 0⟩
theorem zpp (w:World):(zqt #[]).run Tryz.prog w= .ok (.agg Px.no.cs.toArray) w:=by kernel_rfl
theorem zkj (w:World):(z5t #[]).run Tryz.prog w= .ok (.agg noV.toArray) w:=by kernel_rfl
def Fx.no:List Px:=[.no,.no,.no,.no]
theorem zrg:noV=fcs Fx.no:=rfl
theorem Px.no_ok:Px.no.ok:=⟨rfl,_,_,_,rfl⟩
theorem Fx.no_ok:FOk Fx.no:=⟨rfl,fun x h=>by
 simp only [Fx.no,List.mem_cons,List.not_mem_nil,or_false,or_self] at h;rw [h];exact Px.no_ok⟩
section
attribute [local go_sem ↓] yv yl yy yo yj ym yx yk
def vg (ys:List Px):Nat→List Px→List Px
 | 0,xs=>xs
 | k+1,xs=>if ((vg ys k xs).getD k .no).fits then vg ys k xs else (vg ys k xs).set k (ys.getD k .no)
def zhq (xs ys:List Px):List Px:=List.zipWith (fun a b=>if a.fits then a else b) xs ys
theorem zbn {xs:List Px}(h:FOk xs)(k:Nat):(xs.getD k .no).ok:=by
 rw [List.getD_eq_getElem?_getD];by_cases r:k < xs.length
 ·rw [List.getElem?_eq_getElem r];exact h.2 _ (List.getElem_mem r)
 ·rw [List.getElem?_eq_none (by omega)];exact Px.no_ok
theorem zgw {xs ys:List Px}(h:FOk xs)(r:FOk ys):∀ k,FOk (vg ys k xs)
 | 0=>h
 | k+1=>by
  have:=zgw h r k;unfold vg
  split
  ·exact this
  ·exact⟨by simp [this.1],zj1 this.2 k (zbn r k)⟩
theorem zfk {α:Type}{xs:List α}(h:xs.length=4):∃ a b c d,xs=[a,b,c,d]:=by
 match xs,h with
 | [a,b,c,d],_=>exact⟨a,b,c,d,rfl⟩
theorem zh3 {xs ys:List Px}(h:FOk xs)(r:FOk ys):vg ys 4 xs=zhq xs ys:=by
 obtain⟨a,b,c,d,rfl⟩:=zfk h.1;obtain⟨A,D,c',E,rfl⟩:=zfk r.1;simp only [vg,zhq,List.zipWith_cons_cons,List.zipWith_nil_right];cases ha:a.fits<;>cases hb:b.fits<;>cases hc:c.fits<;>cases hd:d.fits<;>simp [ha,hb,hc,hd]
theorem z6s (O:Nat→Prop)(fb:Nat)(xs ys:List Px)(hx:FOk xs)(hy:FOk ys)(w:World)(hO:O fb)(h:zn w fb xs):
  Calls Tryz.prog 198 #[zo fb,.agg (fcs ys).toArray] w fun r w'=>r= .returned (.tuple #[])∧zg O [zt] w w'∧zn w' fb (zhq xs ys):=by
 have HX:=za hx;have J:=za hy;have HO:=za hO;have H0:Hid (zn (w.alloc (.cells (fcs ys).toArray zt)) fb xs∧zn (w.alloc (.cells (fcs ys).toArray zt)) w.heap.size ys):=⟨zc h,heap_alloc_last _ _⟩
 have ad:fb < w.heap.size:=zb h;unfold zo;clear h hx hy hO;go_enter Tryz.func198,Tryz.ntmps198;go_wp2_with fail;go_loopw [5] (fun i wr=>∃ k:Nat,k≤4∧i= .int .i64 k∧zg O [zt] w wr∧zn wr fb (vg ys k xs)∧zn wr w.heap.size ys) (fun i _=>4 - (intOf i).toNat)
 case atStart=>exact⟨0,by omega,rfl,(zg.refl O _ w).alloc _,H0.o.1,H0.o.2⟩
 case round =>
  obtain⟨k,hk,rfl,Y,K,X⟩:=hrel;by_cases W:k < 4
  ·have L:=zgw HX.o J.o k;have E:k < (vg ys k xs).length:=by rw [L.1];exact W
   have I:k < ys.length:=by rw [J.o.1];exact W
   have hg:(vg ys k xs).getD k .no=(vg ys k xs)[k]:=by rw [List.getD_eq_getElem?_getD,List.getElem?_eq_getElem E];rfl
   have S:ys.getD k .no=ys[k]:=by rw [List.getD_eq_getElem?_getD,List.getElem?_eq_getElem I];rfl
   have c1:wr.cell? ⟨fb,k*11+1,none⟩=some (.bool ((vg ys k xs)[k]).fits):=(K.cell L.2 E (j:=1) (by omega) rfl).1;have i0:(0:Int)≤(k:Int):=by omega
   have i1:(k:Int) < 4:=by omega
   have HT:=za Y;have HF:=za K;have HC:=za X;have HS:Hid (vg ys (k+1) xs=if ((vg ys k xs)[k]).fits then vg ys k xs else (vg ys k xs).set k ys[k]):=by show _=_;rw [vg,hg,S]
   have D:ys[k].ok:=J.o.2 _ (List.getElem_mem I);have ac:=za D;have HZ:=za L;have aa:=za E;have U:(ztc (.pointer (some ⟨w.heap.size,k*11,none⟩))).run Tryz.prog wr.drew= .ok (.agg ys[k].cs.toArray) wr.drew:=zl6 (w:=wr.drew) (X.piece J.o.2 I) (Px.cs_len D);have ae:(zhj (.pointer (some ⟨fb,k*11,none⟩)) (.agg ys[k].cs.toArray)).run Tryz.prog wr.drew= .ok () (wr.drew.setCells fb (k*11) ys[k].cs):=zb2 (w:=wr.drew) (K.there L.2 E (o:=0) (by omega)) (Px.cs_len D) (Px.cs_one D);have H:Hid (zg O [zt] w (wr.drew.setCells fb (k*11) ys[k].cs)∧zn (wr.drew.setCells fb (k*11) ys[k].cs) fb ((vg ys k xs).set k ys[k])∧zn (wr.drew.setCells fb (k*11) ys[k].cs) w.heap.size ys):=by
    have R:zn wr.drew fb (vg ys k xs):=K;refine⟨Y.drew.setCells (.inl HO.o) R (by simp) _ _,R.set L.2 E D,?_⟩;show(wr.drew.setCells _ _ _).heap[w.heap.size]?=_;rw [qc _ _ (by omega)];exact X
   have V:(ztc (.pointer (some ⟨w.heap.size,k*11,none⟩))).run Tryz.prog (wr.drew.setCells fb (k*11) ys[k].cs)= .ok (.agg ys[k].cs.toArray) (wr.drew.setCells fb (k*11) ys[k].cs):=zl6 (H.o.2.2.piece J.o.2 I) (Px.cs_len D);have Q:=za (And.intro U V);clear Y K X hg S D L U V;generalize (vg ys k xs)[k]=z at *
   generalize ys[k]=y at *
   cases hzf:z.fits with
   | true =>
    rw [hzf] at c1;go_wp2_with fail;go_roundw
    case rel=>exact⟨k+1,by omega,by go_num,HT.o,by rw [HS.o,hzf];exact HF.o,HC.o⟩
    case measure=>simp [intOf];omega
   | false =>
    rw [hzf] at c1;go_wp2_with fail;go_region_held3 (fun w'=>(ztc (.pointer (some ⟨w.heap.size,k*11,none⟩))).run Tryz.prog w'= .ok (.agg y.cs.toArray) w') (first | exact Q.o.1 | exact Q.o.2) (fail);rename_i Z;clear Z;go_wp2_with fail;go_roundw
    case rel=>exact⟨k+1,by omega,by go_num,H.o.1,by rw [HS.o,hzf];exact H.o.2.1,H.o.2.2⟩
    case measure=>simp [intOf];omega
  ·obtain rfl:k=4:=by omega
   go_wp2_with fail;go_end0;exact⟨rfl,Y,by rw [← zh3 HX.o J.o];exact K⟩
end
section
attribute [local go_sem ↓] yv yl yy yo yj ym yx yk
def zu0 (xs:List Px):List Px:=zhq xs Fx.no
theorem zig {P:Program}{A:Func}{p:Tmp}{r:TypeId}(h:A.results=#[.cell p r])(tmps:Array Value)(w:World)(g:Nat)(t:TypeId)(cs:Array Value)(D:Nat×Nat)(d:TypeDesc)
  (E:tmps.getD p undef= .pointer (some ⟨g,0,none⟩)) (I:w.heap[g]?=some (.cells cs t D))
  (hu:P.underlying r=some d) (H:(match d with | .struct _ | .array _ _=>true | _=>false)=true) (J:(P.info? r).map (·.size)=some cs.size) :
  (results A tmps).run P w= .ok (.agg cs) w:=by
 have K:=run_loadVar_row (P:=P) w g t r cs D d I hu H J;simp only [Array.getD_eq_getD_getElem?] at E;simp [results,h,E,asAddr,K]
theorem xj {w:World}{fb:Nat}{xs:List Px}(h:zn w fb xs)(r:FOk xs):w.there fb 0 44:=by
 intro j A;have D:=r.len;have:=zf h (0+j) ((fcs xs)[j]'(by omega)) (by rw [Nat.zero_add,List.getElem?_toArray];exact List.getElem?_eq_getElem _);exact⟨by rw [this.1];rfl,this.2⟩
theorem qb {w:World}{fb:Nat}{xs ys:List Px}(h:zn w fb xs)(r:FOk xs)(A:FOk ys):zn (w.setCells fb 0 (fcs ys)) fb ys:=by
 unfold zn;rw [zas (fcs ys) 0 h (by rw [r.len,A.len];exact Nat.le_refl _),A.len];simp [r.len]
theorem zu1 (xs:List Px)(hx:FOk xs)(w:World):
  Calls Tryz.prog 145 #[.agg (fcs xs).toArray] w fun r w'=>r= .returned (.agg (fcs (zu0 xs)).toArray)∧Below w.heap.size w w':=by
 have S:=za hx;have Z:=Fx.no_ok;have R:=za Z;clear hx Z;go_enter Tryz.func145,Tryz.ntmps145;go_wp2_with fail;have U:Hid (Below w.heap.size w ((w.alloc (.cells (fcs xs).toArray zt)).alloc (.cells qt zt))∧zn ((w.alloc (.cells (fcs xs).toArray zt)).alloc (.cells qt zt)) w.heap.size xs∧zn ((w.alloc (.cells (fcs xs).toArray zt)).alloc (.cells qt zt)) (w.heap.size+1) Fx.no):=by
  refine⟨zz _ _ _,zc (heap_alloc_last _ _),?_⟩;have:=heap_alloc_last (w.alloc (.cells (fcs xs).toArray zt)) (.cells qt zt);rw [show(w.alloc (.cells (fcs xs).toArray zt)).heap.size=w.heap.size+1 by simp] at this;exact this
 generalize (w.alloc (.cells (fcs xs).toArray zt)).alloc (.cells qt zt)=W0 at *
 go_loopw [4] (fun i wr=>∃ k:Nat,k≤4∧i= .int .i64 k∧Below w.heap.size w wr∧zn wr w.heap.size (vg Fx.no k xs)∧zn wr (w.heap.size+1) Fx.no) (fun i _=>4 - (intOf i).toNat)
 case atStart=>exact⟨0,by omega,rfl,U.o.1,U.o.2.1,U.o.2.2⟩
 case round =>
  obtain⟨k,hk,rfl,L,E,I⟩:=hrel;by_cases K:k < 4
  ·have Q:=zgw S.o R.o k;have D:k < (vg Fx.no k xs).length:=by rw [Q.1];exact K
   have hg:(vg Fx.no k xs).getD k .no=(vg Fx.no k xs)[k]:=by rw [List.getD_eq_getElem?_getD,List.getElem?_eq_getElem D];rfl
   have J:Fx.no.getD k .no=Px.no:=by
    match k,K with
    | 0,_=>rfl
    | 1,_=>rfl
    | 2,_=>rfl
    | 3,_=>rfl
   have Y:wr.cell? ⟨w.heap.size,k*11+1,none⟩=some (.bool ((vg Fx.no k xs)[k]).fits):=(E.cell Q.2 D (j:=1) (by omega) rfl).1;have i0:(0:Int)≤(k:Int):=by omega
   have i1:(k:Int) < 4:=by omega
   have HT:=za L;have HF:=za E;have HC:=za I;have X:Hid (vg Fx.no (k+1) xs=if ((vg Fx.no k xs)[k]).fits then vg Fx.no k xs else (vg Fx.no k xs).set k .no):=by show _=_;rw [vg,hg,J]
   have aa:=zpp wr;have W:(zhj (.pointer (some ⟨w.heap.size,k*11,none⟩)) (.agg Px.no.cs.toArray)).run Tryz.prog wr= .ok () (wr.setCells w.heap.size (k*11) Px.no.cs):=zb2 (E.there Q.2 D (o:=0) (by omega)) (Px.cs_len Px.no_ok) (Px.cs_one Px.no_ok);have H:Hid (Below w.heap.size w (wr.setCells w.heap.size (k*11) Px.no.cs)∧zn (wr.setCells w.heap.size (k*11) Px.no.cs) w.heap.size ((vg Fx.no k xs).set k .no)∧zn (wr.setCells w.heap.size (k*11) Px.no.cs) (w.heap.size+1) Fx.no):=by
    refine⟨zr L (Nat.le_refl _) _ _,E.set Q.2 D Px.no_ok,?_⟩;show(wr.setCells _ _ _).heap[w.heap.size+1]?=_;rw [qc _ _ (by omega)];exact I
   clear L E I hg J Q;generalize (vg Fx.no k xs)[k]=z at *
   cases hzf:z.fits with
   | true =>
    rw [hzf] at Y;go_wp2_with fail;go_roundw
    case rel=>exact⟨k+1,by omega,by go_num,HT.o,by rw [X.o,hzf];exact HF.o,HC.o⟩
    case measure=>simp [intOf];omega
   | false =>
    rw [hzf] at Y;go_wp2_with fail;go_roundw
    case rel=>exact⟨k+1,by omega,by go_num,H.o.1,by rw [X.o,hzf];exact H.o.2.1,H.o.2.2⟩
    case measure=>simp [intOf];omega
  ·obtain rfl:k=4:=by omega
   rw [zh3 S.o R.o] at E;have h:FOk (zhq xs Fx.no):=by rw [← zh3 S.o R.o];exact zgw S.o R.o 4
   have ac:=zad (y9 E) h.len;have W:=qj (xj I Fx.no_ok) h.len (jp h.2);have HW:=za (qb I Fx.no_ok h);have HB:=za (zr L (Nat.le_succ w.heap.size) (fcs (zhq xs Fx.no)) 0);have V:Hid (FOk (zu0 xs)):=h;clear L E I h;go_wp2_with fail;exact bodyPost_ret (v:= .agg (fcs (zu0 xs)).toArray) (zig Tryz.results145 _ _ (w.heap.size+1) zt _ (0,0) _ rfl HW.o Tryz.underlying104 rfl (by rw [jt,List.size_toArray,V.o.len])) rfl ⟨rfl,HB.o⟩
end
end Go.Proofs.YtndkblnpbjffhaaGreatDoor
