import Derived.Test.YtinhekmmdlhfkaaGreatDoorG13
import Derived.Test.YtinhekmmdlhfkaaGreatDoorG02
namespace Go.Proofs.YtinhekmmdlhfkaaGreatDoor
section
set_option maxHeartbeats 4000000
open Go.RowKit
set_option maxRecDepth 100000
theorem forgetP_raw (O:Nat→Prop)(mb hb eb:Nat)(room:Int)(l:Ks)(o n:Option Addr)(w:World)(hO:O mb∧O hb∧O eb)(hmem:w.heap[mb]?=some (.cells #[.int .i64 room,.map (some hb),ptrV eb] MeP (0,0)))
  (hend:w.heap[eb]?=some (.cells ((.int .i64 0:: .int .i64 0:: .int .i64 0::(noV++[.pointer o,.pointer n])).toArray) LkP (0,0))) (hmap:MapIs w hb l) :
  Calls Tryz.prog 87 #[ptrV mb] w fun r w'=>r= .returned (.tuple #[])∧Turn O [LkP] w w'∧MemP w' O mb room []∧w'.heap.size=w.heap.size:=by
 obtain⟨w1,hrun,hmap1,hgrow⟩:=hmap.clear Tryz.underlying185 0
 have hsz:w1.heap.size=w.heap.size:=by
  obtain⟨es,c,hm⟩:=hmap.isMap
  have e:=hrun
  simp [Builtin.clear_,run_underlying Tryz.underlying185,MapKept.run_getObj_map hm,MapKept.run_setObj_map _ hm,Result.andThen] at e
  rw [← e];simp
 have hmem1:=(hgrow.block mb (heap_some_lt hmem) (hmap.not hmem)).trans hmem
 have hend1:=(hgrow.block eb (heap_some_lt hend) (hmap.not hend)).trans hend
 have m1:w.cell? ⟨mb,1,none⟩=some (.map (some hb)):=(dcell hmem 1 _ rfl).1
 have m2:w1.cell? ⟨mb,2,none⟩=some (.pointer (some ⟨eb,0,none⟩)):=(dcell hmem1 2 _ rfl).1
 have e4:w1.cell? ⟨eb,47,none⟩=some (.pointer o):=(dcell hend1 47 (.pointer o) rfl).1
 have g4:w1.frozen? ⟨eb,47,none⟩=false:=(dcell hend1 47 (.pointer o) rfl).2
 have e5:w1.cell? ⟨eb,48,none⟩=some (.pointer n):=(dcell hend1 48 (.pointer n) rfl).1
 have g5:w1.frozen? ⟨eb,48,none⟩=false:=(dcell hend1 48 (.pointer n) rfl).2
 have z0:¬ eb=mb:=fun e=>by
  have h1:some (Obj.cells _ _ _)=some (Obj.cells _ _ _):=hend1.symm.trans (by rw [e];exact hmem1)
  simp only [Option.some.injEq,Obj.cells.injEq] at h1
  exact absurd h1.2.1 (by decide)
 have z1:¬ mb=eb:=fun e=>z0 e.symm
 have HO:=hide hO
 have HM1:=hide hmap1
 have HT1:Hid (Turn O [LkP] w w1):=(Turn.refl O [LkP] w).map (.inl hO.2.1) hmap hgrow
 have HE1:=hide (And.intro hmem1 hend1)
 have HSZ:=hide hsz
 unfold ptrV
 clear hO hmap hmem hend hmap1 hgrow hmem1 hend1 hsz
 go_enter Tryz.func87,Tryz.ntmps87
 go_wp2_with fail
 go_region_held3 (fun w'=>w'.cell? ⟨mb,2,none⟩=some (.pointer (some ⟨eb,0,none⟩))) (go_keep) (fail)
 rename_i hheld
 clear hheld
 go_wp2_with fail
 go_end0
 have hb4:=dset HE1.out.2 47 (.pointer (some ⟨eb,0,none⟩))
 have hb5:=dset hb4 48 (.pointer (some ⟨eb,0,none⟩))
 refine⟨rfl,((HT1.out.set (.inl HO.out.2.2) HE1.out.2 (by simp) _).set (.inl HO.out.2.2) hb4 (by simp) _).drew,⟨hb,eb,fun _=>eb,fun _=>eb,⟨HO.out.1,HO.out.2.1,HO.out.2.2,fun x hx=>by simp at hx⟩,?_,⟨hb5,fun x hx=>by simp at hx,circ_none eb,fun x hx=>by simp at hx⟩,?_,fun x hx=>by simp at hx⟩,?_⟩
 ·show((w1.setCell _ _).setCell _ _).heap[mb]?=_
  rw [heap_setCell_other _ _ _ _ z1,heap_setCell_other _ _ _ _ z1];exact HE1.out.1
 ·refine HM1.out.same ?_
  show((w1.setCell _ _).setCell _ _).heap[hb]?=_
  have zh:hb≠eb:=fun e=>HM1.out.not HE1.out.2 (by rw [e])
  rw [heap_setCell_other _ _ _ _ zh,heap_setCell_other _ _ _ _ zh]
 ·simp [World.setCell,World.drew,HSZ.out]
abbrev noLA:Array Value:=#[.int .i64 0,.int .i64 0,.int .i64 0,.bool false,.bool false,.int .u8 0,.int .u8 0,.int .u8 0,.int .u8 0,.int .u8 0,.int .u8 0,.int .u8 0,.int .u8 0,.slice none 0 0,.bool false,.bool false,.int .u8 0,.int .u8 0,.int .u8 0,.int .u8 0,.int .u8 0,.int .u8 0,.int .u8 0,.int .u8 0,.slice none 0 0,.bool false,.bool false,.int .u8 0,.int .u8 0,.int .u8 0,.int .u8 0,.int .u8 0,.int .u8 0,.int .u8 0,.int .u8 0,.slice none 0 0,.bool false,.bool false,.int .u8 0,.int .u8 0,.int .u8 0,.int .u8 0,.int .u8 0,.int .u8 0,.int .u8 0,.int .u8 0,.slice none 0 0,.pointer none,.pointer none]
theorem newP_any (room:Int)(w:World):
  Calls Tryz.prog 52 #[.int .i64 room] w fun r w'=>∃ mb,r= .returned (ptrV mb)∧Below w.heap.size w w'∧MemP w' (fun k=>w.heap.size≤k∧k < w'.heap.size) mb room []:=by
 have hmm:=@run_makeMap Tryz.prog
 go_enter Tryz.func52,Tryz.ntmps52
 go_wp2_with fail
 have s1:(w.alloc (.map #[] 0)).heap.size=w.heap.size+1:=by simp
 have h1:=heap_alloc_last w (.map #[] 0)
 have h2:=heap_alloc_last (w.alloc (.map #[] 0)) (.cells noLA LkP)
 rw [s1] at h2
 have s2:((w.alloc (.map #[] 0)).alloc (.cells noLA LkP)).heap.size=w.heap.size+1+1:=by simp
 have h3:=heap_alloc_last ((w.alloc (.map #[] 0)).alloc (.cells noLA LkP)) (.cells #[.int .i64 room,.map (some w.heap.size),.pointer (some ⟨w.heap.size+1,0,none⟩)] MeP)
 rw [s2] at h3
 have hb:Below w.heap.size w (((w.alloc (.map #[] 0)).alloc (.cells noLA LkP)).alloc (.cells #[.int .i64 room,.map (some w.heap.size),.pointer (some ⟨w.heap.size+1,0,none⟩)] MeP)):=below_alloc3 _ _ _ _
 refine(forgetP_raw (fun k=>w.heap.size≤k) (w.heap.size+1+1) w.heap.size (w.heap.size+1) room [] none none _ ⟨by omega,by omega,by omega⟩ h3 (heap_alloc_old h2) (mapIs_empty (c:=0) (heap_alloc_old (heap_alloc_old h1)))).mono ?_
 rintro r w1 ⟨rfl,ht,hm,hsz⟩
 have HB:Hid (Below w.heap.size w w1):=hb.trans (ht.below (fun _ h=>h) hb.size)
 have HM:Hid (MemP w1 (fun k=>w.heap.size≤k∧k < w1.heap.size) (w.heap.size+1+1) room []):=by
  obtain⟨hb',eb,nx,pv,h⟩:=hm
  exact⟨hb',eb,nx,pv,⟨⟨h.own.1,heap_some_lt h.mem⟩,⟨h.own.2.1,h.map.lt⟩,⟨h.own.2.2.1,heap_some_lt h.ring.ends⟩,fun x hx=>by simp at hx⟩,h.mem,h.ring,h.map,h.ok⟩
 clear ht hm hb h1 h2 h3 s1 s2 hsz
 go_wp2_with fail
 go_ret
 exact⟨_,rfl,HB.out,HM.out⟩
end
section
open Go.RowKit
set_option maxRecDepth 100000
structure Px where
 there:Bool
 fits:Bool
 hash:List UInt8
 ent:Value
def Px.cs (x:Px):List Value:= .bool x.there:: .bool x.fits::((x.hash.map bv)++[x.ent])
def Px.ok (x:Px):Prop:=x.hash.length=8∧∃ a n c,x.ent= .slice a n c
def fcs (xs:List Px):List Value:=(xs.map Px.cs).flatten
def FOk (xs:List Px):Prop:=xs.length=4∧∀ x∈xs,x.ok
theorem Px.cs_len {x:Px}(h:x.ok):x.cs.length=11:=by simp [Px.cs,h.1]
theorem Px.cs_one {x:Px}(h:x.ok):∀ v∈x.cs,v.oneCell'=true:=by
 obtain⟨-,a,n,c,e⟩:=h
 intro v hv
 simp only [Px.cs,List.mem_cons,List.mem_append,List.mem_map,List.not_mem_nil,or_false] at hv
 rcases hv with rfl | rfl | ⟨b,-,rfl⟩ | rfl
 ·rfl
 ·rfl
 ·simp [bv,Value.oneCell']
 ·rw [e];rfl
theorem fcs_len {xs:List Px}(h:∀ x∈xs,x.ok):(fcs xs).length=11*xs.length:=by
 induction xs with
 | nil=>rfl
 | cons x xs ih =>
  have:fcs (x::xs)=x.cs++fcs xs:=by simp [fcs]
  rw [this,List.length_append,Px.cs_len (h x (by simp)),ih (fun y hy=>h y (by simp [hy])),List.length_cons]
  omega
theorem fcs_one {xs:List Px}(h:∀ x∈xs,x.ok):∀ v∈fcs xs,v.oneCell'=true:=by
 intro v hv
 unfold fcs at hv
 obtain⟨l,hl,hvl⟩:=List.mem_flatten.1 hv
 obtain⟨x,hx,rfl⟩:=List.mem_map.1 hl
 exact Px.cs_one (h x hx) v hvl
theorem FOk.len {xs:List Px}(h:FOk xs):(fcs xs).length=44:=by rw [fcs_len h.2,h.1]
theorem fcs_at {xs:List Px}(h:∀ x∈xs,x.ok)(k:Nat)(hk:k < xs.length)(j:Nat)(hj:j < 11):(fcs xs)[k*11+j]?=xs[k].cs[j]?:=by
 induction xs generalizing k with
 | nil=>simp at hk
 | cons x xs ih =>
  have e:fcs (x::xs)=x.cs++fcs xs:=by simp [fcs]
  have hl:=Px.cs_len (h x (by simp))
  rw [e]
  cases k with
  | zero =>
   rw [Nat.zero_mul,Nat.zero_add,List.getElem?_append_left (by omega)]
   rfl
  | succ k =>
   rw [List.getElem?_append_right (by omega),hl,show(k+1)*11+j - 11=k*11+j by omega,ih (fun y hy=>h y (by simp [hy])) k (by simpa using hk)]
   rfl
theorem fcs_set {xs:List Px}(h:∀ x∈xs,x.ok)(k:Nat)(hk:k < xs.length)(x:Px)(_:x.ok):fcs (xs.set k x)=(fcs xs).take (k*11)++(x.cs++(fcs xs).drop (k*11+11)):=by
 induction xs generalizing k with
 | nil=>simp at hk
 | cons y xs ih =>
  have e:∀(z:Px) (r:List Px),fcs (z::r)=z.cs++fcs r:=by simp [fcs]
  have hl:=Px.cs_len (h y (by simp))
  cases k with
  | zero =>
   rw [List.set_cons_zero,e,e,Nat.zero_mul,Nat.zero_add,List.take_zero,List.nil_append,← hl,List.drop_left]
  | succ k =>
   rw [List.set_cons_succ,e,e,ih (fun z hz=>h z (by simp [hz])) k (by simpa using hk)]
   rw [show(k+1)*11=y.cs.length+k*11 by omega,List.take_length_add_append,show y.cs.length+k*11+11=y.cs.length+(k*11+11) by omega,List.drop_length_add_append,List.append_assoc]
theorem heap_setCells {w:World}{b:Nat}{old:List Value}{t:TypeId}(vs:List Value)(o:Nat)(h:w.heap[b]?=some (.cells old.toArray t (0,0)))(hs:o+vs.length≤old.length):
  (w.setCells b o vs).heap[b]?=some (.cells (old.take o++(vs++old.drop (o+vs.length))).toArray t (0,0)):=by
 induction vs generalizing w o old with
 | nil =>
  have:w.setCells b o []=w:=rfl
  rw [this,h]
  simp
 | cons v vs ih =>
  have e:w.setCells b o (v::vs)=(w.setCell ⟨b,o,none⟩ v).setCells b (o+1) vs:=rfl
  simp only [List.length_cons] at hs
  have h1:(w.setCell ⟨b,o,none⟩ v).heap[b]?=some (.cells (old.set o v).toArray t (0,0)):=by
   have:=heap_setCell_same w b o old.toArray t v h
   simpa using this
  rw [e,ih (o+1) h1 (by simp;omega)]
  congr 3
  rw [List.set_eq_take_append_cons_drop,if_pos (by omega)]
  have h2:(old.take o).length=o:=by simp;omega
  have h3:o+1=(old.take o).length+1:=by omega
  rw [List.length_cons,show(old.take o++v::old.drop (o+1)).take (o+1)=old.take o++[v] by
   rw [h3,List.take_length_add_append];simp]
  rw [show(old.take o++v::old.drop (o+1)).drop (o+1+vs.length)=old.drop (o+(vs.length+1)) by
   rw [show o+1+vs.length=(old.take o).length+(vs.length+1) by omega,List.drop_length_add_append,List.drop_succ_cons,List.drop_drop]
   congr 1
   omega]
  simp
theorem setCells_away {w:World}{b k:Nat}(vs:List Value)(o:Nat)(h:k≠b):(w.setCells b o vs).heap[k]?=w.heap[k]?:=by
 induction vs generalizing w o with
 | nil=>rfl
 | cons v vs ih =>
  have e:w.setCells b o (v::vs)=(w.setCell ⟨b,o,none⟩ v).setCells b (o+1) vs:=rfl
  rw [e,ih,heap_setCell_other _ _ _ _ h]
theorem setCells_size {w:World}{b:Nat}(vs:List Value)(o:Nat):(w.setCells b o vs).heap.size=w.heap.size:=by
 induction vs generalizing w o with
 | nil=>rfl
 | cons v vs ih =>
  have e:w.setCells b o (v::vs)=(w.setCell ⟨b,o,none⟩ v).setCells b (o+1) vs:=rfl
  rw [e,ih];simp [World.setCell]
theorem setCells_keep {w:World}{b:Nat}(vs:List Value)(o:Nat):(w.setCells b o vs).os=w.os∧(w.setCells b o vs).tape=w.tape∧(w.setCells b o vs).output=w.output:=by
 induction vs generalizing w o with
 | nil=>exact⟨rfl,rfl,rfl⟩
 | cons v vs ih =>
  have e:w.setCells b o (v::vs)=(w.setCell ⟨b,o,none⟩ v).setCells b (o+1) vs:=rfl
  rw [e];exact ih (w:=w.setCell ⟨b,o,none⟩ v) (o+1)
theorem Turn.setCells {O:Nat→Prop}{T:List Nat}{a w:World}(h:Turn O T a w){b:Nat}{c:Array Value}{t:TypeId}{x:Nat×Nat}(hO:Ext O a w b)(e:w.heap[b]?=some (.cells c t x))(ht:t∈T)(vs:List Value)(o:Nat):Turn O T a (w.setCells b o vs):=by
 obtain⟨r1,r2,r3⟩:=setCells_keep (w:=w) (b:=b) vs o
 refine h.trans ⟨r1,r2,r3,by rw [setCells_size];exact Nat.le_refl _,fun k hk=>?_⟩
 by_cases hkb:k=b
 ·subst hkb
  exact .inr ⟨hO,.inl ⟨c,t,x,e,ht⟩⟩
 ·exact .inl (setCells_away vs o hkb)
theorem below_setCells {B b:Nat}{w0 w:World}(hb:Below B w0 w)(hB:B≤b)(vs:List Value)(o:Nat):Below B w0 (w.setCells b o vs):=by
 obtain⟨r1,r2,r3⟩:=setCells_keep (w:=w) (b:=b) vs o
 exact⟨r1.trans hb.os,r2.trans hb.tape,r3.trans hb.output,by rw [setCells_size];exact hb.size,fun k hk=>by rw [setCells_away vs o (by omega)];exact hb.block k hk⟩
abbrev TFile:Nat:=130
abbrev TPiece:Nat:=128
abbrev THash:Nat:=91
def FileAt (w:World)(fb:Nat)(xs:List Px):Prop:=w.heap[fb]?=some (.cells (fcs xs).toArray TFile (0,0))
theorem FileAt.cell {w:World}{fb:Nat}{xs:List Px}(h:FileAt w fb xs)(hx:∀ x∈xs,x.ok){k:Nat}(hk:k < xs.length){j:Nat}(hj:j < 11){v:Value}(hv:xs[k].cs[j]?=some v):
  w.cell? ⟨fb,k*11+j,none⟩=some v∧w.frozen? ⟨fb,k*11+j,none⟩=false :=
 dcell h _ v (by rw [List.getElem?_toArray,fcs_at hx k hk j hj];exact hv)
theorem FileAt.piece {w:World}{fb:Nat}{xs:List Px}(h:FileAt w fb xs)(hx:∀ x∈xs,x.ok){k:Nat}(hk:k < xs.length):w.rangeAt fb (k*11) xs[k].cs:=by
 intro j v hv
 have hj:j < xs[k].cs.length:=(List.getElem?_eq_some_iff.1 hv).1
 rw [Px.cs_len (hx _ (List.getElem_mem hk))] at hj
 exact(h.cell hx hk hj hv).1
theorem FileAt.hash {w:World}{fb:Nat}{xs:List Px}(h:FileAt w fb xs)(hx:∀ x∈xs,x.ok){k:Nat}(hk:k < xs.length):w.rangeAt fb (k*11+2) (xs[k].hash.map bv):=by
 intro j v hv
 have hj:j < (xs[k].hash.map bv).length:=(List.getElem?_eq_some_iff.1 hv).1
 have h8:=(hx _ (List.getElem_mem hk)).1
 simp only [List.length_map] at hj
 rw [Nat.add_assoc]
 refine(h.cell hx hk (j:=2+j) (by omega) ?_).1
 unfold Px.cs
 rw [show 2+j=j+1+1 by omega,List.getElem?_cons_succ,List.getElem?_cons_succ,List.getElem?_append_left (by simpa using hj)]
 exact hv
theorem FileAt.there {w:World}{fb:Nat}{xs:List Px}(h:FileAt w fb xs)(hx:∀ x∈xs,x.ok){k:Nat}(hk:k < xs.length){o n:Nat}(ho:o+n≤11):w.there fb (k*11+o) n:=by
 intro j hj
 have hl:=Px.cs_len (hx _ (List.getElem_mem hk))
 rw [Nat.add_assoc]
 have:=h.cell hx hk (j:=o+j) (by omega) (v:=xs[k].cs[o+j]'(by omega)) (List.getElem?_eq_getElem _)
 exact⟨by rw [this.1];rfl,this.2⟩
theorem FileAt.set {w:World}{fb:Nat}{xs:List Px}(h:FileAt w fb xs)(hx:∀ x∈xs,x.ok){k:Nat}(hk:k < xs.length){x:Px}(hp:x.ok):FileAt (w.setCells fb (k*11) x.cs) fb (xs.set k x):=by
 unfold FileAt
 have hl:=fcs_len hx
 have hc:=Px.cs_len hp
 rw [heap_setCells x.cs (k*11) h (by omega),fcs_set hx k hk x hp,hc]
theorem set_ok {xs:List Px}(hx:∀ x∈xs,x.ok)(k:Nat){x:Px}(hp:x.ok):∀ y∈xs.set k x,y.ok:=fun y hy=>by
 rcases List.mem_or_eq_of_mem_set hy with h | h
 ·exact hx y h
 ·rw [h];exact hp
theorem FileAt.set1 {w:World}{fb:Nat}{xs:List Px}(h:FileAt w fb xs)(hx:∀ x∈xs,x.ok){k:Nat}(hk:k < xs.length){j:Nat}{v:Value}{x:Px}(hj:j < 11)(hp:x.ok)(e:x.cs=xs[k].cs.set j v):FileAt (w.setCell ⟨fb,k*11+j,none⟩ v) fb (xs.set k x):=by
 unfold FileAt
 have h1:(w.setCell ⟨fb,k*11+j,none⟩ v).heap[fb]?=some (.cells ((fcs xs).set (k*11+j) v).toArray TFile (0,0)):=by
  have:=heap_setCell_same w fb (k*11+j) (fcs xs).toArray TFile v h
  simpa using this
 rw [h1,fcs_set hx k hk x hp,e]
 congr 3
 have hl:=fcs_len hx
 have hc:=Px.cs_len (hx _ (List.getElem_mem hk))
 have hsplit:fcs xs=(fcs xs).take (k*11)++(xs[k].cs++(fcs xs).drop (k*11+11)):=by
  have:=fcs_set hx k hk xs[k] (hx _ (List.getElem_mem hk))
  rw [List.set_getElem_self] at this
  exact this
 have ht:((fcs xs).take (k*11)).length=k*11:=by simp;omega
 conv=>lhs;rw [hsplit]
 rw [List.set_append_right _ _ (by omega),ht,Nat.add_sub_cancel_left,List.set_append_left _ _ (by omega)]
end
section
open Go.RowKit
set_option maxRecDepth 100000
def storeM (a v:Value):Sem Unit:=Instr.storeAt 130 a v
theorem storeM_fold (a v:Value):Instr.storeAt 130 a v=storeM a v:=rfl
def loadP (a:Value):Sem Value:=Instr.loadAt 128 a
theorem loadP_fold (a:Value):Instr.loadAt 128 a=loadP a:=rfl
def storeP (a v:Value):Sem Unit:=Instr.storeAt 128 a v
theorem storeP_fold (a v:Value):Instr.storeAt 128 a v=storeP a v:=rfl
def buildP (parts:Array (Nat×Value)):Sem Value:=Instr.build 128 parts
theorem buildP_fold (parts:Array (Nat×Value)):Instr.build 128 parts=buildP parts:=rfl
def buildF (parts:Array (Nat×Value)):Sem Value:=Instr.build 130 parts
theorem buildF_fold (parts:Array (Nat×Value)):Instr.build 130 parts=buildF parts:=rfl
def loadH (a:Value):Sem Value:=Instr.loadAt 91 a
theorem loadH_fold (a:Value):Instr.loadAt 91 a=loadH a:=rfl
def storeH (a v:Value):Sem Unit:=Instr.storeAt 91 a v
theorem storeH_fold (a v:Value):Instr.storeAt 91 a v=storeH a v:=rfl
theorem infoPiece:(Tryz.prog.info? 128).map (·.size)=some 11:=by kernel_rfl
theorem infoH8:(Tryz.prog.info? 91).map (·.size)=some 8:=by kernel_rfl
theorem storeM_of {w:World}{b o:Nat}{cs:List Value}(h:w.there b o 44)(hl:cs.length=44)(h1:∀ v∈cs,v.oneCell'=true):(storeM (.pointer (some ⟨b,o,none⟩)) (.agg cs.toArray)).run Tryz.prog w= .ok () (w.setCells b o cs):=by
 have:=run_storeAt_mid (P:=Tryz.prog) w b o 130 cs.toArray (by rw [List.size_toArray,hl];exact h) (by rw [infoFil,List.size_toArray,hl]) (all_oneCell_toArray h1)
 simpa [storeM] using this
theorem loadP_of {w:World}{b o:Nat}{cs:List Value}(h:w.rangeAt b o cs)(hl:cs.length=11):(loadP (.pointer (some ⟨b,o,none⟩))).run Tryz.prog w= .ok (.agg cs.toArray) w :=
 run_loadAt_mid w b o _ cs _ h Tryz.underlying128 rfl (by rw [infoPiece,hl])
theorem storeP_of {w:World}{b o:Nat}{cs:List Value}(h:w.there b o 11)(hl:cs.length=11)(h1:∀ v∈cs,v.oneCell'=true):(storeP (.pointer (some ⟨b,o,none⟩)) (.agg cs.toArray)).run Tryz.prog w= .ok () (w.setCells b o cs):=by
 have:=run_storeAt_mid (P:=Tryz.prog) w b o 128 cs.toArray (by rw [List.size_toArray,hl];exact h) (by rw [infoPiece,List.size_toArray,hl]) (all_oneCell_toArray h1)
 simpa [storeP] using this
theorem loadH_of {w:World}{b o:Nat}{h:List UInt8}(hr:w.rangeAt b o (h.map bv))(hl:h.length=8):(loadH (.pointer (some ⟨b,o,none⟩))).run Tryz.prog w= .ok (.agg (hv h)) w :=
 run_loadAt_mid w b o _ (h.map bv) _ hr Tryz.underlying91 rfl (by rw [infoH8,List.length_map,hl])
theorem bvu_one {h:List UInt8}:∀ v∈h.map bv,v.oneCell'=true:=fun v hv=>by
 obtain⟨b,-,rfl⟩:=List.mem_map.1 hv
 simp [bv,Value.oneCell']
theorem storeH_of {w:World}{b o:Nat}{h:List UInt8}(ht:w.there b o 8)(hl:h.length=8):(storeH (.pointer (some ⟨b,o,none⟩)) (.agg (hv h))).run Tryz.prog w= .ok () (w.setCells b o (h.map bv)):=by
 have:=run_storeAt_mid (P:=Tryz.prog) w b o 91 (h.map bv).toArray (by rw [List.size_toArray,List.length_map,hl];exact ht) (by rw [infoH8,List.size_toArray,List.length_map,hl]) (all_oneCell_toArray bvu_one)
 simpa [storeH,hv] using this
theorem buildP_leaf (h:List UInt8)(hl:h.length=8)(v:Value)(hv':v.oneCell'=true)(w:World):(buildP #[(0,.bool true),(2,.agg (hv h)),(3,v)]).run Tryz.prog w= .ok (.agg (Px.cs ⟨true,false,h,v⟩).toArray) w:=by
 obtain⟨b0,b1,b2,b3,b4,b5,b6,b7,rfl⟩:=hv8 h hl
 cases v<;>first | (simp [Value.oneCell'] at hv';done) | kernel_rfl
theorem buildP_fit (h:List UInt8)(hl:h.length=8)(w:World):(buildP #[(0,.bool true),(1,.bool true),(2,.agg (hv h))]).run Tryz.prog w= .ok (.agg (Px.cs ⟨true,true,h,.slice none 0 0⟩).toArray) w:=by
 obtain⟨b0,b1,b2,b3,b4,b5,b6,b7,rfl⟩:=hv8 h hl
 kernel_rfl
def Px.no:Px:=⟨false,false,none8,.slice none 0 0⟩
theorem buildP_no (w:World):(buildP #[]).run Tryz.prog w= .ok (.agg Px.no.cs.toArray) w:=by kernel_rfl
theorem buildF_no (w:World):(buildF #[]).run Tryz.prog w= .ok (.agg noV.toArray) w:=by kernel_rfl
def Fx.no:List Px:=[.no,.no,.no,.no]
theorem noV_fcs:noV=fcs Fx.no:=rfl
theorem Px.no_ok:Px.no.ok:=⟨rfl,_,_,_,rfl⟩
theorem Fx.no_ok:FOk Fx.no:=⟨rfl,fun x hx=>by
 simp only [Fx.no,List.mem_cons,List.not_mem_nil,or_false,or_self] at hx
 rw [hx];exact Px.no_ok⟩
end
section
set_option maxHeartbeats 4000000
open Go.RowKit
set_option maxRecDepth 100000
attribute [local go_sem ↓] loadM_fold storeM_fold loadP_fold storeP_fold buildP_fold buildF_fold loadH_fold storeH_fold
def fillN (ys:List Px):Nat→List Px→List Px
 | 0,xs=>xs
 | k+1,xs=>if ((fillN ys k xs).getD k .no).fits then fillN ys k xs else (fillN ys k xs).set k (ys.getD k .no)
def fillX (xs ys:List Px):List Px:=List.zipWith (fun a b=>if a.fits then a else b) xs ys
theorem getD_ok {xs:List Px}(h:FOk xs)(k:Nat):(xs.getD k .no).ok:=by
 rw [List.getD_eq_getElem?_getD]
 by_cases hk:k < xs.length
 ·rw [List.getElem?_eq_getElem hk];exact h.2 _ (List.getElem_mem hk)
 ·rw [List.getElem?_eq_none (by omega)];exact Px.no_ok
theorem fillN_ok {xs ys:List Px}(hx:FOk xs)(hy:FOk ys):∀ k,FOk (fillN ys k xs)
 | 0=>hx
 | k+1=>by
  have:=fillN_ok hx hy k
  unfold fillN
  split
  ·exact this
  ·exact⟨by simp [this.1],set_ok this.2 k (getD_ok hy k)⟩
theorem list4 {α:Type}{xs:List α}(h:xs.length=4):∃ a b c d,xs=[a,b,c,d]:=by
 match xs,h with
 | [a,b,c,d],_=>exact⟨a,b,c,d,rfl⟩
theorem fillN_all {xs ys:List Px}(hx:FOk xs)(hy:FOk ys):fillN ys 4 xs=fillX xs ys:=by
 obtain⟨a,b,c,d,rfl⟩:=list4 hx.1
 obtain⟨a',b',c',d',rfl⟩:=list4 hy.1
 simp only [fillN,fillX,List.zipWith_cons_cons,List.zipWith_nil_right]
 cases ha:a.fits<;>cases hb:b.fits<;>cases hc:c.fits<;>cases hd:d.fits<;>simp [ha,hb,hc,hd]
theorem fill_any (O:Nat→Prop)(fb:Nat)(xs ys:List Px)(hx:FOk xs)(hy:FOk ys)(w:World)(hO:O fb)(h:FileAt w fb xs):
  Calls Tryz.prog 152 #[ptrV fb,.agg (fcs ys).toArray] w fun r w'=>r= .returned (.tuple #[])∧Turn O [TFile] w w'∧FileAt w' fb (fillX xs ys):=by
 have HX:=hide hx
 have HY:=hide hy
 have HO:=hide hO
 have H0:Hid (FileAt (w.alloc (.cells (fcs ys).toArray TFile)) fb xs∧FileAt (w.alloc (.cells (fcs ys).toArray TFile)) w.heap.size ys):=⟨heap_alloc_old h,heap_alloc_last _ _⟩
 have hfl:fb < w.heap.size:=heap_some_lt h
 unfold ptrV
 clear h hx hy hO
 go_enter Tryz.func152,Tryz.ntmps152
 go_wp2_with fail
 go_loopw [5] (fun i wr=>∃ k:Nat,k≤4∧i= .int .i64 k∧Turn O [TFile] w wr∧FileAt wr fb (fillN ys k xs)∧FileAt wr w.heap.size ys) (fun i _=>4 - (intOf i).toNat)
 case atStart=>exact⟨0,by omega,rfl,(Turn.refl O _ w).alloc _,H0.out.1,H0.out.2⟩
 case round =>
  obtain⟨k,hk,rfl,ht,hf,hc⟩:=hrel
  by_cases hlt:k < 4
  ·have hz:=fillN_ok HX.out HY.out k
   have hkl:k < (fillN ys k xs).length:=by rw [hz.1];exact hlt
   have hyl:k < ys.length:=by rw [HY.out.1];exact hlt
   have hg:(fillN ys k xs).getD k .no=(fillN ys k xs)[k]:=by rw [List.getD_eq_getElem?_getD,List.getElem?_eq_getElem hkl];rfl
   have hgy:ys.getD k .no=ys[k]:=by rw [List.getD_eq_getElem?_getD,List.getElem?_eq_getElem hyl];rfl
   have c1:wr.cell? ⟨fb,k*11+1,none⟩=some (.bool ((fillN ys k xs)[k]).fits):=(hf.cell hz.2 hkl (j:=1) (by omega) rfl).1
   have i0:(0:Int)≤(k:Int):=by omega
   have i1:(k:Int) < 4:=by omega
   have HT:=hide ht
   have HF:=hide hf
   have HC:=hide hc
   have HS:Hid (fillN ys (k+1) xs=if ((fillN ys k xs)[k]).fits then fillN ys k xs else (fillN ys k xs).set k ys[k]):=by show _=_;rw [fillN,hg,hgy]
   have hpc:ys[k].ok:=HY.out.2 _ (List.getElem_mem hyl)
   have HPC:=hide hpc
   have HZ:=hide hz
   have HKL:=hide hkl
   have hld:(loadP (.pointer (some ⟨w.heap.size,k*11,none⟩))).run Tryz.prog wr.drew= .ok (.agg ys[k].cs.toArray) wr.drew:=loadP_of (w:=wr.drew) (hc.piece HY.out.2 hyl) (Px.cs_len hpc)
   have hst:(storeP (.pointer (some ⟨fb,k*11,none⟩)) (.agg ys[k].cs.toArray)).run Tryz.prog wr.drew= .ok () (wr.drew.setCells fb (k*11) ys[k].cs):=storeP_of (w:=wr.drew) (hf.there hz.2 hkl (o:=0) (by omega)) (Px.cs_len hpc) (Px.cs_one hpc)
   have HST:Hid (Turn O [TFile] w (wr.drew.setCells fb (k*11) ys[k].cs)∧FileAt (wr.drew.setCells fb (k*11) ys[k].cs) fb ((fillN ys k xs).set k ys[k])∧FileAt (wr.drew.setCells fb (k*11) ys[k].cs) w.heap.size ys):=by
    have hf':FileAt wr.drew fb (fillN ys k xs):=hf
    refine⟨ht.drew.setCells (.inl HO.out) hf' (by simp) _ _,hf'.set hz.2 hkl hpc,?_⟩
    show(wr.drew.setCells _ _ _).heap[w.heap.size]?=_
    rw [setCells_away _ _ (by omega)];exact hc
   have hld2:(loadP (.pointer (some ⟨w.heap.size,k*11,none⟩))).run Tryz.prog (wr.drew.setCells fb (k*11) ys[k].cs)= .ok (.agg ys[k].cs.toArray) (wr.drew.setCells fb (k*11) ys[k].cs):=loadP_of (HST.out.2.2.piece HY.out.2 hyl) (Px.cs_len hpc)
   have HLD:=hide (And.intro hld hld2)
   clear ht hf hc hg hgy hpc hz hld hld2
   generalize (fillN ys k xs)[k]=z at *
   generalize ys[k]=y at *
   cases hzf:z.fits with
   | true =>
    rw [hzf] at c1
    go_wp2_with fail
    go_roundw
    case rel=>exact⟨k+1,by omega,by go_num,HT.out,by rw [HS.out,hzf];exact HF.out,HC.out⟩
    case measure=>simp [intOf];omega
   | false =>
    rw [hzf] at c1
    go_wp2_with fail
    go_region_held3 (fun w'=>(loadP (.pointer (some ⟨w.heap.size,k*11,none⟩))).run Tryz.prog w'= .ok (.agg y.cs.toArray) w') (first | exact HLD.out.1 | exact HLD.out.2) (fail)
    rename_i hheld
    clear hheld
    go_wp2_with fail
    go_roundw
    case rel=>exact⟨k+1,by omega,by go_num,HST.out.1,by rw [HS.out,hzf];exact HST.out.2.1,HST.out.2.2⟩
    case measure=>simp [intOf];omega
  ·obtain rfl:k=4:=by omega
   go_wp2_with fail
   go_end0
   exact⟨rfl,ht,by rw [← fillN_all HX.out HY.out];exact hf⟩
end
section
set_option maxHeartbeats 4000000
open Go.RowKit
set_option maxRecDepth 100000
attribute [local go_sem ↓] loadM_fold storeM_fold loadP_fold storeP_fold buildP_fold buildF_fold loadH_fold storeH_fold
def fitX (xs:List Px):List Px:=fillX xs Fx.no
theorem results_cell1 {P:Program}{fn:Func}{p:Tmp}{ty:TypeId}(h:fn.results=#[.cell p ty])(tmps:Array Value)(w:World)(g:Nat)(t:TypeId)(cs:Array Value)(fr:Nat×Nat)(d:TypeDesc)
  (hp:tmps.getD p undef= .pointer (some ⟨g,0,none⟩)) (hg:w.heap[g]?=some (.cells cs t fr))
  (hu:P.underlying ty=some d) (hd:(match d with | .struct _ | .array _ _=>true | _=>false)=true) (hi:(P.info? ty).map (·.size)=some cs.size) :
  (results fn tmps).run P w= .ok (.agg cs) w:=by
 have hl:=run_loadVar_row (P:=P) w g t ty cs fr d hg hu hd hi
 simp only [Array.getD_eq_getD_getElem?] at hp
 simp [results,h,hp,asAddr,hl]
theorem file_there {w:World}{fb:Nat}{xs:List Px}(h:FileAt w fb xs)(hx:FOk xs):w.there fb 0 44:=by
 intro j hj
 have hl:=hx.len
 have:=dcell h (0+j) ((fcs xs)[j]'(by omega)) (by rw [Nat.zero_add,List.getElem?_toArray];exact List.getElem?_eq_getElem _)
 exact⟨by rw [this.1];rfl,this.2⟩
theorem file_whole {w:World}{fb:Nat}{xs ys:List Px}(h:FileAt w fb xs)(hx:FOk xs)(hy:FOk ys):FileAt (w.setCells fb 0 (fcs ys)) fb ys:=by
 unfold FileAt
 rw [heap_setCells (fcs ys) 0 h (by rw [hx.len,hy.len];exact Nat.le_refl _),hy.len]
 simp [hx.len]
theorem fitting_any (xs:List Px)(hx:FOk xs)(w:World):
  Calls Tryz.prog 149 #[.agg (fcs xs).toArray] w fun r w'=>r= .returned (.agg (fcs (fitX xs)).toArray)∧Below w.heap.size w w':=by
 have HX:=hide hx
 have hN:=Fx.no_ok
 have HN:=hide hN
 clear hx hN
 go_enter Tryz.func149,Tryz.ntmps149
 go_wp2_with fail
 have H0:Hid (Below w.heap.size w ((w.alloc (.cells (fcs xs).toArray TFile)).alloc (.cells noVA TFile))∧FileAt ((w.alloc (.cells (fcs xs).toArray TFile)).alloc (.cells noVA TFile)) w.heap.size xs∧FileAt ((w.alloc (.cells (fcs xs).toArray TFile)).alloc (.cells noVA TFile)) (w.heap.size+1) Fx.no):=by
  refine⟨below_alloc2 _ _ _,heap_alloc_old (heap_alloc_last _ _),?_⟩
  have:=heap_alloc_last (w.alloc (.cells (fcs xs).toArray TFile)) (.cells noVA TFile)
  rw [show(w.alloc (.cells (fcs xs).toArray TFile)).heap.size=w.heap.size+1 by simp] at this
  exact this
 generalize (w.alloc (.cells (fcs xs).toArray TFile)).alloc (.cells noVA TFile)=W0 at *
 go_loopw [4] (fun i wr=>∃ k:Nat,k≤4∧i= .int .i64 k∧Below w.heap.size w wr∧FileAt wr w.heap.size (fillN Fx.no k xs)∧FileAt wr (w.heap.size+1) Fx.no) (fun i _=>4 - (intOf i).toNat)
 case atStart=>exact⟨0,by omega,rfl,H0.out.1,H0.out.2.1,H0.out.2.2⟩
 case round =>
  obtain⟨k,hk,rfl,ht,hf,hc⟩:=hrel
  by_cases hlt:k < 4
  ·have hz:=fillN_ok HX.out HN.out k
   have hkl:k < (fillN Fx.no k xs).length:=by rw [hz.1];exact hlt
   have hg:(fillN Fx.no k xs).getD k .no=(fillN Fx.no k xs)[k]:=by rw [List.getD_eq_getElem?_getD,List.getElem?_eq_getElem hkl];rfl
   have hgy:Fx.no.getD k .no=Px.no:=by
    match k,hlt with
    | 0,_=>rfl
    | 1,_=>rfl
    | 2,_=>rfl
    | 3,_=>rfl
   have c1:wr.cell? ⟨w.heap.size,k*11+1,none⟩=some (.bool ((fillN Fx.no k xs)[k]).fits):=(hf.cell hz.2 hkl (j:=1) (by omega) rfl).1
   have i0:(0:Int)≤(k:Int):=by omega
   have i1:(k:Int) < 4:=by omega
   have HT:=hide ht
   have HF:=hide hf
   have HC:=hide hc
   have HS:Hid (fillN Fx.no (k+1) xs=if ((fillN Fx.no k xs)[k]).fits then fillN Fx.no k xs else (fillN Fx.no k xs).set k .no):=by show _=_;rw [fillN,hg,hgy]
   have hbp:=buildP_no wr
   have hst:(storeP (.pointer (some ⟨w.heap.size,k*11,none⟩)) (.agg Px.no.cs.toArray)).run Tryz.prog wr= .ok () (wr.setCells w.heap.size (k*11) Px.no.cs):=storeP_of (hf.there hz.2 hkl (o:=0) (by omega)) (Px.cs_len Px.no_ok) (Px.cs_one Px.no_ok)
   have HST:Hid (Below w.heap.size w (wr.setCells w.heap.size (k*11) Px.no.cs)∧FileAt (wr.setCells w.heap.size (k*11) Px.no.cs) w.heap.size ((fillN Fx.no k xs).set k .no)∧FileAt (wr.setCells w.heap.size (k*11) Px.no.cs) (w.heap.size+1) Fx.no):=by
    refine⟨below_setCells ht (Nat.le_refl _) _ _,hf.set hz.2 hkl Px.no_ok,?_⟩
    show(wr.setCells _ _ _).heap[w.heap.size+1]?=_
    rw [setCells_away _ _ (by omega)];exact hc
   clear ht hf hc hg hgy hz
   generalize (fillN Fx.no k xs)[k]=z at *
   cases hzf:z.fits with
   | true =>
    rw [hzf] at c1
    go_wp2_with fail
    go_roundw
    case rel=>exact⟨k+1,by omega,by go_num,HT.out,by rw [HS.out,hzf];exact HF.out,HC.out⟩
    case measure=>simp [intOf];omega
   | false =>
    rw [hzf] at c1
    go_wp2_with fail
    go_roundw
    case rel=>exact⟨k+1,by omega,by go_num,HST.out.1,by rw [HS.out,hzf];exact HST.out.2.1,HST.out.2.2⟩
    case measure=>simp [intOf];omega
  ·obtain rfl:k=4:=by omega
   rw [fillN_all HX.out HN.out] at hf
   have hok:FOk (fillX xs Fx.no):=by rw [← fillN_all HX.out HN.out];exact fillN_ok HX.out HN.out 4
   have hld:=loadM_of (range_row hf) hok.len
   have hst:=storeM_of (file_there hc Fx.no_ok) hok.len (fcs_one hok.2)
   have HW:=hide (file_whole hc Fx.no_ok hok)
   have HB:=hide (below_setCells ht (Nat.le_succ w.heap.size) (fcs (fillX xs Fx.no)) 0)
   have HOK:Hid (FOk (fitX xs)):=hok
   clear ht hf hc hok
   go_wp2_with fail
   exact bodyPost_ret (v:= .agg (fcs (fitX xs)).toArray) (results_cell1 Tryz.results149 _ _ (w.heap.size+1) TFile _ (0,0) _ rfl HW.out Tryz.underlying130 rfl (by rw [infoFil,List.size_toArray,HOK.out.len])) rfl ⟨rfl,HB.out⟩
end
end Go.Proofs.YtinhekmmdlhfkaaGreatDoor
