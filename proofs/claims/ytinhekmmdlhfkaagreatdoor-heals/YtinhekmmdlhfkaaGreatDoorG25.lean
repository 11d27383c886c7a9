import Derived.Test.YtinhekmmdlhfkaaGreatDoorG14
import Derived.Test.YtinhekmmdlhfkaaGreatDoorG24
import Derived.Test.YtinhekmmdlhfkaaGreatDoorG18
namespace Go.Proofs.YtinhekmmdlhfkaaGreatDoor
section
set_option maxHeartbeats 8000000
open Go.RowKit
set_option maxRecDepth 100000
attribute [local go_sem ↓] loadM_fold storeM_fold loadP_fold storeP_fold buildP_fold buildF_fold loadH_fold storeH_fold
def rootX (xs:List Px):Option (List UInt8):=match xs with
 | [a,b,c,d]=>if a.fits&&b.fits&&c.fits&&d.fits then some (nodeH (nodeH a.hash b.hash) (nodeH c.hash d.hash)) else none
 | _=>none
def fitTo (xs:List Px)(k:Nat):Prop:=∀ j,j < k→(xs.getD j .no).fits=true
theorem rootX_yes {xs:List Px}(h:xs.length=4)(hf:fitTo xs 4):rootX xs=some (nodeH (nodeH (xs.getD 0 .no).hash (xs.getD 1 .no).hash) (nodeH (xs.getD 2 .no).hash (xs.getD 3 .no).hash)):=by
 obtain⟨a,b,c,d,rfl⟩:=list4 h
 have h0:=hf 0 (by omega)
 have h1:=hf 1 (by omega)
 have h2:=hf 2 (by omega)
 have h3:=hf 3 (by omega)
 simp at h0 h1 h2 h3
 simp [rootX,h0,h1,h2,h3]
theorem rootX_no {xs:List Px}(h:xs.length=4){k:Nat}(hk:k < 4)(hf:(xs.getD k .no).fits=false):rootX xs=none:=by
 obtain⟨a,b,c,d,rfl⟩:=list4 h
 match k,hk with
 | 0,_=>simp at hf;simp [rootX,hf]
 | 1,_=>simp at hf;simp [rootX,hf]
 | 2,_=>simp at hf;simp [rootX,hf]
 | 3,_=>simp at hf;simp [rootX,hf]
theorem row_there {w:World}{b:Nat}{cs:List Value}{t:TypeId}(h:w.heap[b]?=some (.cells cs.toArray t (0,0))):w.there b 0 cs.length:=by
 intro j hj
 have:=dcell h (0+j) (cs[j]'hj) (by rw [Nat.zero_add,List.getElem?_toArray];exact List.getElem?_eq_getElem _)
 exact⟨by rw [this.1];rfl,this.2⟩
theorem row_whole {w:World}{b:Nat}{cs ds:List Value}{t:TypeId}(h:w.heap[b]?=some (.cells cs.toArray t (0,0)))(hl:ds.length=cs.length):(w.setCells b 0 ds).heap[b]?=some (.cells ds.toArray t (0,0)):=by
 rw [heap_setCells ds 0 h (by omega),hl]
 simp
abbrev no8A:Array Value:=#[.int .u8 0,.int .u8 0,.int .u8 0,.int .u8 0,.int .u8 0,.int .u8 0,.int .u8 0,.int .u8 0]
def buildH (parts:Array (Nat×Value)):Sem Value:=Instr.build 91 parts
theorem buildH_fold (parts:Array (Nat×Value)):Instr.build 91 parts=buildH parts:=rfl
theorem buildH_no (w:World):(buildH #[]).run Tryz.prog w= .ok (.agg (hv none8)) w:=by kernel_rfl
attribute [local go_sem ↓] buildH_fold
theorem froot_any (xs:List Px)(hx:FOk xs)(w:World):
  Calls Tryz.prog 185 #[.agg (fcs xs).toArray] w fun r w'=>Below w.heap.size w w'∧((∃ h,rootX xs=some h∧r= .returned (.tuple #[.agg (hv h),.bool true]))∨(rootX xs=none∧r= .returned (.tuple #[.agg (hv none8),.bool false]))):=by
 have HX:=hide hx
 clear hx
 go_enter Tryz.func185,Tryz.ntmps185
 go_wp2_with fail
 have H0:Hid (Below w.heap.size w ((w.alloc (.cells (fcs xs).toArray TFile)).alloc (.cells no8A THash))∧FileAt ((w.alloc (.cells (fcs xs).toArray TFile)).alloc (.cells no8A THash)) w.heap.size xs∧((w.alloc (.cells (fcs xs).toArray TFile)).alloc (.cells no8A THash)).heap[w.heap.size+1]?=some (.cells (none8.map bv).toArray THash (0,0))):=by
  refine⟨below_alloc2 _ _ _,heap_alloc_old (heap_alloc_last _ _),?_⟩
  have:=heap_alloc_last (w.alloc (.cells (fcs xs).toArray TFile)) (.cells no8A THash)
  rw [show(w.alloc (.cells (fcs xs).toArray TFile)).heap.size=w.heap.size+1 by simp] at this
  exact this
 generalize (w.alloc (.cells (fcs xs).toArray TFile)).alloc (.cells no8A THash)=W0 at *
 go_loopw [5] (fun i wr=>∃ k:Nat,k≤4∧i= .int .i64 k∧fitTo xs k∧wr=W0) (fun i _=>4 - (intOf i).toNat)
 case atStart=>exact⟨0,by omega,rfl,fun j hj=>by omega,rfl⟩
 case round =>
  obtain⟨k,hk,rfl,hfit,rfl⟩:=hrel
  by_cases hlt:k < 4
  ·have hkl:k < xs.length:=by rw [HX.out.1];exact hlt
   have hg:xs.getD k .no=xs[k]:=by rw [List.getD_eq_getElem?_getD,List.getElem?_eq_getElem hkl];rfl
   have c1:wr.cell? ⟨w.heap.size,k*11+1,none⟩=some (.bool (xs[k]).fits):=(H0.out.2.1.cell HX.out.2 hkl (j:=1) (by omega) rfl).1
   have i0:(0:Int)≤(k:Int):=by omega
   have i1:(k:Int) < 4:=by omega
   have HG:=hide hg
   have HFT:=hide hfit
   have hst:(storeH (.pointer (some ⟨w.heap.size+1,0,none⟩)) (.agg (hv none8))).run Tryz.prog wr= .ok () (wr.setCells (w.heap.size+1) 0 (none8.map bv)):=storeH_of (row_there H0.out.2.2) rfl
   have HW:=hide (row_whole (ds:=none8.map bv) H0.out.2.2 rfl)
   have HB:=hide (below_setCells H0.out.1 (Nat.le_succ w.heap.size) (none8.map bv) 0)
   have hbh:=buildH_no wr
   clear hg hfit
   generalize xs[k]=z at *
   cases hzf:z.fits with
   | true =>
    rw [hzf] at c1
    go_wp2_with fail
    go_roundw
    case rel=>exact⟨k+1,by omega,by go_num,fun j hj=>by
     rcases Nat.lt_or_ge j k with h | h
     ·exact HFT.out j h
     ·obtain rfl:j=k:=by omega
      rw [HG.out];exact hzf,by first | rfl | trivial⟩
    case measure=>simp [intOf];omega
   | false =>
    rw [hzf] at c1
    go_wp2_with fail
    refine bodyPost_ret (v:= .tuple #[.agg (hv none8),.bool false]) (results_cell_tmp Tryz.results185 _ _ (w.heap.size+1) THash _ (0,0) _ rfl HW.out Tryz.underlying91 rfl infoH8 _ rfl) rfl ⟨HB.out,.inr ⟨rootX_no HX.out.1 hlt (by rw [HG.out];exact hzf),rfl⟩⟩
  ·obtain rfl:k=4:=by omega
   have HR:=hide (rootX_yes HX.out.1 hfit)
   obtain⟨a,b,c,d,he⟩:=list4 HX.out.1
   have HE:=hide he
   have a8:=(HX.out.2 a (by rw [he];simp)).1
   have b8:=(HX.out.2 b (by rw [he];simp)).1
   have c8:=(HX.out.2 c (by rw [he];simp)).1
   have d8:=(HX.out.2 d (by rw [he];simp)).1
   have HS:Hid (∀ w',FileAt w' w.heap.size xs→((loadH (.pointer (some ⟨w.heap.size,2,none⟩))).run Tryz.prog w'= .ok (.agg (hv a.hash)) w'∧(loadH (.pointer (some ⟨w.heap.size,13,none⟩))).run Tryz.prog w'= .ok (.agg (hv b.hash)) w'∧(loadH (.pointer (some ⟨w.heap.size,24,none⟩))).run Tryz.prog w'= .ok (.agg (hv c.hash)) w'∧(loadH (.pointer (some ⟨w.heap.size,35,none⟩))).run Tryz.prog w'= .ok (.agg (hv d.hash)) w')):=by
    intro w' hf
    rw [he] at hf
    have hx:∀ x∈[a,b,c,d],x.ok:=by rw [← he];exact HX.out.2
    exact⟨loadH_of (hf.hash hx (k:=0) (by simp)) a8,loadH_of (hf.hash hx (k:=1) (by simp)) b8,loadH_of (hf.hash hx (k:=2) (by simp)) c8,loadH_of (hf.hash hx (k:=3) (by simp)) d8⟩
   have HN1:Hid (∃ N,N=nodeH a.hash b.hash∧N.length=8∧∀ w',Calls Tryz.prog 86 #[.agg (hv a.hash),.agg (hv b.hash)] w' fun r w''=>r= .returned (.agg (hv N))∧Below w'.heap.size w' w''):=⟨_,rfl,nodeH_length _ _,fun w'=>node_any _ _ w' a8 b8⟩
   have HN2:Hid (∃ N,N=nodeH c.hash d.hash∧N.length=8∧∀ w',Calls Tryz.prog 86 #[.agg (hv c.hash),.agg (hv d.hash)] w' fun r w''=>r= .returned (.agg (hv N))∧Below w'.heap.size w' w''):=⟨_,rfl,nodeH_length _ _,fun w'=>node_any _ _ w' c8 d8⟩
   obtain⟨N1,e1,l1,k1⟩:=HN1.out
   obtain⟨N2,e2,l2,k2⟩:=HN2.out
   have HN3:Hid (∃ N,N=nodeH N1 N2∧N.length=8∧∀ w',Calls Tryz.prog 86 #[.agg (hv N1),.agg (hv N2)] w' fun r w''=>r= .returned (.agg (hv N))∧Below w'.heap.size w' w''):=⟨_,rfl,nodeH_length _ _,fun w'=>node_any _ _ w' l1 l2⟩
   obtain⟨N3,e3,l3,k3⟩:=HN3.out
   have K1:=hide k1
   have K2:=hide k2
   have K3:=hide k3
   have L3:=hide l3
   rw [he] at HR
   have HR3:Hid (rootX xs=some N3):=by
    show _=_
    rw [he,e3,e2,e1];exact HR.out
   clear HR k1 k2 k3 e1 e2 e3 l1 l2 l3 HN1 HN2 HN3
   have HST:Hid (∀ w',Below wr.heap.size wr w'→∀ h:List UInt8,h.length=8→(storeH (.pointer (some ⟨w.heap.size+1,0,none⟩)) (.agg (hv h))).run Tryz.prog w'= .ok () (w'.setCells (w.heap.size+1) 0 (h.map bv))):=by
    intro w' hb h h8
    have:=(hb.block _ (heap_some_lt H0.out.2.2)).trans H0.out.2.2
    exact storeH_of (row_there this) h8
   have HBK:Hid (∀ w',Below wr.heap.size wr w'→∀ h:List UInt8,h.length=8→(w'.setCells (w.heap.size+1) 0 (h.map bv)).heap[w.heap.size+1]?=some (.cells (hv h) THash (0,0))∧Below w.heap.size w (w'.setCells (w.heap.size+1) 0 (h.map bv))):=by
    intro w' hb h h8
    have:=(hb.block _ (heap_some_lt H0.out.2.2)).trans H0.out.2.2
    exact⟨row_whole this (by simp [h8,none8]),below_setCells (H0.out.1.trans (hb.mono H0.out.1.size)) (Nat.le_succ _) _ _⟩
   have HF1:Hid (∀ w',Below wr.heap.size wr w'→FileAt w' w.heap.size xs):=fun w' hb=>(hb.block _ (heap_some_lt H0.out.2.1)).trans H0.out.2.1
   have HF2:Hid (∀ w',Below wr.heap.size wr w'→∀ h,FileAt (w'.setCells (w.heap.size+1) 0 h) w.heap.size xs):=by
    intro w' hb h
    show(w'.setCells _ _ _).heap[w.heap.size]?=_
    rw [setCells_away _ _ (by omega)];exact HF1.out w' hb
   have hcur:Below wr.heap.size wr wr.drew:=(Below.refl _ _).drew
   clear he hfit
   go_wp2_with fail
   go_region_held3 (fun w'=>(loadH (.pointer (some ⟨w.heap.size,2,none⟩))).run Tryz.prog w'= .ok (.agg (hv a.hash)) w'∧(loadH (.pointer (some ⟨w.heap.size,13,none⟩))).run Tryz.prog w'= .ok (.agg (hv b.hash)) w'∧(loadH (.pointer (some ⟨w.heap.size,24,none⟩))).run Tryz.prog w'= .ok (.agg (hv c.hash)) w'∧(loadH (.pointer (some ⟨w.heap.size,35,none⟩))).run Tryz.prog w'= .ok (.agg (hv d.hash)) w') (first | exact HS.out _ (HF1.out _ hcur) | exact HS.out _ (HF2.out _ hcur _)) (first
    | (go_at_call 86;(first | refine(K1.out _).mono ?_ | refine(K2.out _).mono ?_ | refine(K3.out _).mono ?_);rintro r w1 ⟨rfl,hb⟩;have hnew:=hcur.trans (hb.mono hcur.size);clear hcur hb;have hcur:=hnew;clear hnew;have hst:=HST.out _ hcur N3 L3.out))
   rename_i hheld
   clear hheld
   have HK:=hide (HBK.out _ hcur N3 L3.out)
   clear hcur hst
   go_wp2_with fail
   refine bodyPost_ret (v:= .tuple #[.agg (hv N3),.bool true]) (results_cell_tmp Tryz.results185 _ _ (w.heap.size+1) THash _ (0,0) _ rfl HK.out.1 Tryz.underlying91 rfl (by rw [infoH8];simp [hv,L3.out]) _ rfl) rfl ⟨HK.out.2,.inl ⟨N3,HR3.out,rfl⟩⟩
end
section
open Go.RowKit
set_option maxRecDepth 100000
def All2 {α β:Type}(R:α→β→Prop):List α→List β→Prop
 | [],[]=>True
 | a::l,b::m=>R a b∧All2 R l m
 | _,_=>False
theorem All2.nil {α β:Type}{R:α→β→Prop}:All2 R [] []:=trivial
theorem All2.cons {α β:Type}{R:α→β→Prop}{a:α}{b:β}{l:List α}{m:List β}(h:R a b)(t:All2 R l m):All2 R (a::l) (b::m):=⟨h,t⟩
theorem All2.ind {α β:Type}{R:α→β→Prop}{motive:(l:List α)→(m:List β)→All2 R l m→Prop}(nil:motive [] [] All2.nil)(cons:∀ {a:α} {b:β} {l:List α} {m:List β} (h:R a b) (t:All2 R l m),motive l m t→motive (a::l) (b::m) (All2.cons h t)):∀ {l:List α} {m:List β} (h:All2 R l m),motive l m h
 | [],[],_=>nil
 | _::_,_::_,h=>cons h.1 h.2 (All2.ind nil cons h.2)
 | [],_::_,h=>False.elim h
 | _::_,[],h=>False.elim h
theorem All2.empty {α β:Type}{R:α→β→Prop}{l:List α}(h:All2 R l ([]:List β)):l=[]:=by
 cases l with
 | nil=>rfl
 | cons a l=>exact False.elim h
theorem All2.len {α β:Type}{R:α→β→Prop}{l:List α}{m:List β}(h:All2 R l m):l.length=m.length:=by
 induction h using All2.ind with
 | nil=>rfl
 | cons _ _ ih=>simp [ih]
theorem All2.mono {α β:Type}{R R':α→β→Prop}{l:List α}{m:List β}(h:All2 R l m)(hr:∀ a∈l,∀ b,R a b→R' a b):All2 R' l m:=by
 induction h using All2.ind with
 | nil=>exact .nil
 | cons h1 _ ih=>exact .cons (hr _ (by simp) _ h1) (ih fun a ha b=>hr a (by simp [ha]) b)
theorem All2.append {α β:Type}{R:α→β→Prop}{l l':List α}{m m':List β}(h:All2 R l m)(h':All2 R l' m'):All2 R (l++l') (m++m'):=by
 induction h using All2.ind with
 | nil=>exact h'
 | cons h1 _ ih=>exact .cons h1 ih
theorem All2.snoc {α β:Type}{R:α→β→Prop}{l:List α}{m:List β}(h:All2 R l m){a:α}{b:β}(hr:R a b):All2 R (l++[a]) (m++[b]):=h.append (.cons hr .nil)
theorem All2.filter {α β:Type}{R:α→β→Prop}{l:List α}{m:List β}(h:All2 R l m)(p:α→Bool)(q:β→Bool)(hpq:∀ a b,R a b→p a=q b):All2 R (l.filter p) (m.filter q):=by
 induction h using All2.ind with
 | nil=>exact .nil
 | cons h1 _ ih =>
  rename_i a b l m _
  have e:=hpq a b h1
  cases hp:p a with
  | true=>rw [List.filter_cons_of_pos hp,List.filter_cons_of_pos (by rw [← e];exact hp)];exact .cons h1 ih
  | false=>rw [List.filter_cons_of_neg (by simp [hp]),List.filter_cons_of_neg (by rw [← e];simp [hp])];exact ih
theorem All2.find {α β:Type}{R:α→β→Prop}{l:List α}{m:List β}(h:All2 R l m)(p:α→Bool)(q:β→Bool)(hpq:∀ a b,R a b→p a=q b):(l.find? p=none∧m.find? q=none)∨∃ a b,l.find? p=some a∧m.find? q=some b∧R a b∧a∈l∧b∈m:=by
 induction h using All2.ind with
 | nil=>exact .inl ⟨rfl,rfl⟩
 | cons h1 _ ih =>
  rename_i a b l m _
  have e:=hpq a b h1
  cases hp:p a with
  | true=>exact .inr ⟨a,b,List.find?_cons_of_pos hp,List.find?_cons_of_pos (by rw [← e];exact hp),h1,by simp,by simp⟩
  | false =>
   rw [List.find?_cons_of_neg (by simp [hp]),List.find?_cons_of_neg (by rw [← e];simp [hp])]
   rcases ih with ih | ⟨a',b',g1,g2,g3,g4,g5⟩
   ·exact .inl ih
   ·exact .inr ⟨a',b',g1,g2,g3,by simp [g4],by simp [g5]⟩
theorem All2.mem {α β:Type}{R:α→β→Prop}{l:List α}{m:List β}(h:All2 R l m):∀ a∈l,∃ b∈m,R a b:=by
 induction h using All2.ind with
 | nil=>simp
 | cons h1 _ ih =>
  intro a ha
  rcases List.mem_cons.1 ha with rfl | ha
  ·exact⟨_,by simp,h1⟩
  ·obtain⟨b,hb,hr⟩:=ih a ha
   exact⟨b,by simp [hb],hr⟩
theorem All2.tail {α β:Type}{R:α→β→Prop}{l:List α}{m:List β}(h:All2 R l m):All2 R l.tail m.tail:=by
 induction h using All2.ind with
 | nil=>exact .nil
 | cons _ h _=>exact h
abbrev maxI:Int:=9223372036854775807
def FilIs (w:World)(A:Nat→Prop)(v:Value)(f:Fl):Prop:=∃ fb xs,v=ptrV fb∧A fb∧FileAt w fb xs∧FOk xs∧FxIs w xs f
def NdR (w:World)(A:Nat→Prop)(x:Nat×Pl×Value)(y:Pl×Fl):Prop:=x.2.1=y.1∧FilIs w A x.2.2 y.2
def NdIs (w:World)(A:Nat→Prop)(nm:Nat)(nd:Mm):Prop:=∃ LN,MemN w A nm maxI LN∧All2 (NdR w A) LN nd∧(LN.map (·.2.2)).Nodup
def PrR (w:World)(x:Nat×Pl×List Value)(y:Pl×Fl):Prop:=x.2.1=y.1∧∃ xs,x.2.2=fcs xs∧FOk xs∧FxIs w xs y.2
def PrIs (w:World)(OP:Nat→Prop)(pm:Nat)(room:Int)(pr:Mm):Prop:=∃ LP,MemP w OP pm room LP∧All2 (PrR w) LP pr
theorem ptrV_inj {a b:Nat}(h:ptrV a=ptrV b):a=b:=by
 unfold ptrV at h
 injection h with h
 injection h with h
 injection h
theorem NdIs.get {w:World}{A:Nat→Prop}{nd:Mm}{LN:LsN}(h:All2 (NdR w A) LN nd)(p:Pl):(LN.get p=none∧nd.get p=none)∨∃ b v f,LN.get p=some (b,v)∧nd.get p=some f∧FilIs w A v f∧(b,p,v)∈LN:=by
 rcases h.find (fun x=>decide (x.2.1=p)) (fun x=>decide (x.1=p)) (fun a b hr=>by rw [hr.1]) with ⟨h1,h2⟩ | ⟨a,b,h1,h2,h3,h4,h5⟩
 ·exact .inl ⟨by unfold LsN.get;rw [h1],by unfold Mm.get;rw [h2]⟩
 ·have:=List.find?_some h1
  simp only [decide_eq_true_eq] at this
  subst this
  exact .inr ⟨a.1,a.2.2,b.2,by unfold LsN.get;rw [h1],by unfold Mm.get;rw [h2],h3.2,h4⟩
theorem PrIs.get {w:World}{LP:LsP}{pr:Mm}(h:All2 (PrR w) LP pr)(p:Pl):(LP.get p=none∧pr.get p=none)∨∃ b xs f,LP.get p=some (b,fcs xs)∧pr.get p=some f∧FOk xs∧FxIs w xs f:=by
 rcases h.find (fun x=>decide (x.2.1=p)) (fun x=>decide (x.1=p)) (fun a b hr=>by rw [hr.1]) with ⟨h1,h2⟩ | ⟨a,b,h1,h2,h3,h4,h5⟩
 ·exact .inl ⟨by unfold LsP.get;rw [h1],by unfold Mm.get;rw [h2]⟩
 ·obtain⟨h3,xs,e,h6,h7⟩:=h3
  exact .inr ⟨a.1,xs,b.2,by unfold LsP.get;rw [h1];show some (a.1,a.2.2)=_;rw [e],by unfold Mm.get;rw [h2],h6,h7⟩
theorem FilIs.turn {w w':World}{O A A':Nat→Prop}{T:List Nat}{v:Value}{f:Fl}(h:FilIs w A v f)(ht:Turn O T w w')(h1:TFile∉T)(h2:5∉T)(hA:∀ k,A k→A' k):FilIs w' A' v f:=by
 obtain⟨fb,xs,e,h3,h4,h5,h6⟩:=h
 exact⟨fb,xs,e,hA _ h3,ht.keep h4 h1,h5,h6.turn ht h2⟩
theorem PrR.turn {w w':World}{O:Nat→Prop}{T:List Nat}{x:Nat×Pl×List Value}{y:Pl×Fl}(h:PrR w x y)(ht:Turn O T w w')(h2:5∉T):PrR w' x y:=by
 obtain⟨h1,xs,e,h5,h6⟩:=h
 exact⟨h1,xs,e,h5,h6.turn ht h2⟩
theorem PrIs.stay {w w':World}{O OP OP':Nat→Prop}{T:List Nat}{pm:Nat}{room:Int}{pr:Mm}(h:PrIs w OP pm room pr)(ht:Turn O T w w')(h1:∀ k,OP k→¬ O k)(h2:5∉T)(h3:∀ k,OP k→OP' k):PrIs w' OP' pm room pr:=by
 obtain⟨LP,g1,g2⟩:=h
 exact⟨LP,g1.stay ht h1 h3,g2.mono fun a _ b hr=>hr.turn ht h2⟩
theorem NdIs.stay {w w':World}{O A A':Nat→Prop}{T:List Nat}{nm:Nat}{nd:Mm}(h:NdIs w A nm nd)(ht:Turn O T w w')(h1:∀ k,A k→¬ O k)(h2:5∉T)(h4:TFile∉T)(h3:∀ k,A k→A' k):NdIs w' A' nm nd:=by
 obtain⟨LN,g1,g2,g3⟩:=h
 exact⟨LN,g1.stay ht h1 h3,g2.mono fun a _ b hr=>⟨hr.1,hr.2.turn ht h4 h2 h3⟩,g3⟩
structure CCs (C:Array Value)(nb pm nm:Nat):Prop where
 net:C[2]?=some (netV nb)
 prv:C[13]?=some (ptrV pm)
 nee:C[14]?=some (ptrV nm)
structure CS (W0 w:World)(O A OP:Nat→Prop)(cb nb db pm nm:Nat)(C:Array Value)(d:Dk)(room:Int)(pr:Mm)(m:Ms Nt)(k:Nat):Prop where
 base:Below W0.heap.size W0 w
 own:∀ b,O b∨A b→W0.heap.size≤b
 apart:∀ b,O b→¬ A b
 lt:∀ b,O b∨A b∨OP b→b < w.heap.size
 disk:DiskAt w O db d
 net:NetAt w O nb db m.net
 st:NSt d m.net
 few:m.net.fetches+2*k < 4611686018427387904
 cli:w.heap[cb]?=some (.cells C TCli (0,0))
 cells:CCs C nb pm nm
 prv:PrIs w OP pm room pr
 away:∀ b,OP b→¬(O b∨A b)
 nee:NdIs w A nm m.needed
 short:m.needed.length+k≤1000000000
abbrev qT:List Nat:=[85,3,LkN,TFile]
def NeedR (at_:Nat→Addr)(w':World)(o:Sum (List UInt8) Pc)(r:Ending):Prop :=
 (∃ x c,o= .inr c∧x.ok∧PxIs w' x c∧r= .returned (.tuple #[.agg x.cs.toArray,.nilIface])) ∨
 (∃ p g,o= .inl p∧w'.heap[g]?=some (.cells #[txv p,errS at_ 5] 115 (0,0))∧r= .returned (.tuple #[.agg Px.no.cs.toArray,pathE g]))
end
end Go.Proofs.YtinhekmmdlhfkaaGreatDoor
