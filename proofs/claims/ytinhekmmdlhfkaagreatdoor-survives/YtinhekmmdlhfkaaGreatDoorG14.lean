import Derived.Test.YtinhekmmdlhfkaaGreatDoorG13
import Derived.Test.YtinhekmmdlhfkaaGreatDoorG02
namespace Go.Proofs.YtinhekmmdlhfkaaGreatDoor
section
set_option maxHeartbeats 4000000
open Go.RowKit
set_option maxRecDepth 100000
theorem zs5 (O:Nat→Prop)(mb hb eb:Nat)(room:Int)(l:Ks)(o n:Option Addr)(w:World)(hO:O mb∧O hb∧O eb)(hmem:w.heap[mb]?=some (.cells #[.int .i64 room,.map (some hb),zt eb] MeP (0,0)))
  (hend:w.heap[eb]?=some (.cells ((.int .i64 0:: .int .i64 0:: .int .i64 0::(noV++[.pointer o,.pointer n])).toArray) LkP (0,0))) (hmap:jc w hb l) :
  Calls Tryz.prog 87 #[zt mb] w fun r w'=>r= .returned (.tuple #[])∧zf O [LkP] w w'∧zct w' O mb room []∧w'.heap.size=w.heap.size:=by
 obtain⟨w1,hrun,hmap1,hgrow⟩:=hmap.clear Tryz.underlying185 0
 have hsz:w1.heap.size=w.heap.size:=by
  obtain⟨es,c,hm⟩:=hmap.isMap
  have e:=hrun
  simp [Builtin.clear_,run_underlying Tryz.underlying185,MapKept.run_getObj_map hm,MapKept.run_setObj_map _ hm,Result.andThen] at e
  rw [← e];simp
 have hmem1:=(hgrow.block mb (zb hmem) (hmap.not hmem)).trans hmem
 have hend1:=(hgrow.block eb (zb hend) (hmap.not hend)).trans hend
 have m1:w.cell? ⟨mb,1,none⟩=some (.map (some hb)):=(zg hmem 1 _ rfl).1
 have m2:w1.cell? ⟨mb,2,none⟩=some (.pointer (some ⟨eb,0,none⟩)):=(zg hmem1 2 _ rfl).1
 have e4:w1.cell? ⟨eb,47,none⟩=some (.pointer o):=(zg hend1 47 (.pointer o) rfl).1
 have g4:w1.frozen? ⟨eb,47,none⟩=false:=(zg hend1 47 (.pointer o) rfl).2
 have e5:w1.cell? ⟨eb,48,none⟩=some (.pointer n):=(zg hend1 48 (.pointer n) rfl).1
 have g5:w1.frozen? ⟨eb,48,none⟩=false:=(zg hend1 48 (.pointer n) rfl).2
 have z0:¬ eb=mb:=fun e=>by
  have h1:some (Obj.cells _ _ _)=some (Obj.cells _ _ _):=hend1.symm.trans (by rw [e];exact hmem1)
  simp only [Option.some.injEq,Obj.cells.injEq] at h1
  exact absurd h1.2.1 (by decide)
 have z1:¬ mb=eb:=fun e=>z0 e.symm
 have HO:=za hO
 have HM1:=za hmap1
 have HT1:Hid (zf O [LkP] w w1):=(zf.refl O [LkP] w).map (.inl hO.2.1) hmap hgrow
 have HE1:=za (And.intro hmem1 hend1)
 have HSZ:=za hsz
 unfold zt
 clear hO hmap hmem hend hmap1 hgrow hmem1 hend1 hsz
 go_enter Tryz.func87,Tryz.ntmps87
 go_wp2_with fail
 go_region_held3 (fun w'=>w'.cell? ⟨mb,2,none⟩=some (.pointer (some ⟨eb,0,none⟩))) (go_keep) (fail)
 rename_i hheld
 clear hheld
 go_wp2_with fail
 go_end0
 have hb4:=qj HE1.o.2 47 (.pointer (some ⟨eb,0,none⟩))
 have hb5:=qj hb4 48 (.pointer (some ⟨eb,0,none⟩))
 refine⟨rfl,((HT1.o.set (.inl HO.o.2.2) HE1.o.2 (by simp) _).set (.inl HO.o.2.2) hb4 (by simp) _).drew,⟨hb,eb,fun _=>eb,fun _=>eb,⟨HO.o.1,HO.o.2.1,HO.o.2.2,fun x hx=>by simp at hx⟩,?_,⟨hb5,fun x hx=>by simp at hx,zkj eb,fun x hx=>by simp at hx⟩,?_,fun x hx=>by simp at hx⟩,?_⟩
 ·show((w1.setCell _ _).setCell _ _).heap[mb]?=_
  rw [heap_setCell_other _ _ _ _ z1,heap_setCell_other _ _ _ _ z1];exact HE1.o.1
 ·refine HM1.o.same ?_
  show((w1.setCell _ _).setCell _ _).heap[hb]?=_
  have zh:hb≠eb:=fun e=>HM1.o.not HE1.o.2 (by rw [e])
  rw [heap_setCell_other _ _ _ _ zh,heap_setCell_other _ _ _ _ zh]
 ·simp [World.setCell,World.drew,HSZ.o]
abbrev z60:Array Value:=#[.int .i64 0,.int .i64 0,.int .i64 0,.bool false,.bool false,.int .u8 0,.int .u8 0,.int .u8 0,.int .u8 0,.int .u8 0,.int .u8 0,.int .u8 0,.int .u8 0,.slice none 0 0,.bool false,.bool false,.int .u8 0,.int .u8 0,.int .u8 0,.int .u8 0,.int .u8 0,.int .u8 0,.int .u8 0,.int .u8 0,.slice none 0 0,.bool false,.bool false,.int .u8 0,.int .u8 0,.int .u8 0,.int .u8 0,.int .u8 0,.int .u8 0,.int .u8 0,.int .u8 0,.slice none 0 0,.bool false,.bool false,.int .u8 0,.int .u8 0,.int .u8 0,.int .u8 0,.int .u8 0,.int .u8 0,.int .u8 0,.int .u8 0,.slice none 0 0,.pointer none,.pointer none]
theorem z3i (room:Int)(w:World):
  Calls Tryz.prog 52 #[.int .i64 room] w fun r w'=>∃ mb,r= .returned (zt mb)∧Below w.heap.size w w'∧zct w' (fun k=>w.heap.size≤k∧k < w'.heap.size) mb room []:=by
 have hmm:=@run_makeMap Tryz.prog
 go_enter Tryz.func52,Tryz.ntmps52
 go_wp2_with fail
 have s1:(w.alloc (.map #[] 0)).heap.size=w.heap.size+1:=by simp
 have h1:=heap_alloc_last w (.map #[] 0)
 have h2:=heap_alloc_last (w.alloc (.map #[] 0)) (.cells z60 LkP)
 rw [s1] at h2
 have s2:((w.alloc (.map #[] 0)).alloc (.cells z60 LkP)).heap.size=w.heap.size+1+1:=by simp
 have h3:=heap_alloc_last ((w.alloc (.map #[] 0)).alloc (.cells z60 LkP)) (.cells #[.int .i64 room,.map (some w.heap.size),.pointer (some ⟨w.heap.size+1,0,none⟩)] MeP)
 rw [s2] at h3
 have hb:Below w.heap.size w (((w.alloc (.map #[] 0)).alloc (.cells z60 LkP)).alloc (.cells #[.int .i64 room,.map (some w.heap.size),.pointer (some ⟨w.heap.size+1,0,none⟩)] MeP)):=je _ _ _ _
 refine(zs5 (fun k=>w.heap.size≤k) (w.heap.size+1+1) w.heap.size (w.heap.size+1) room [] none none _ ⟨by omega,by omega,by omega⟩ h3 (zc h2) (zgh (c:=0) (zc (zc h1)))).mono ?_
 rintro r w1 ⟨rfl,ht,hm,hsz⟩
 have HB:Hid (Below w.heap.size w w1):=hb.trans (ht.below (fun _ h=>h) hb.size)
 have HM:Hid (zct w1 (fun k=>w.heap.size≤k∧k < w1.heap.size) (w.heap.size+1+1) room []):=by
  obtain⟨hb',eb,nx,pv,h⟩:=hm
  exact⟨hb',eb,nx,pv,⟨⟨h.own.1,zb h.mem⟩,⟨h.own.2.1,h.map.lt⟩,⟨h.own.2.2.1,zb h.ring.ends⟩,fun x hx=>by simp at hx⟩,h.mem,h.ring,h.map,h.ok⟩
 clear ht hm hb h1 h2 h3 s1 s2 hsz
 go_wp2_with fail
 go_ret
 exact⟨_,rfl,HB.o,HM.o⟩
end
section
open Go.RowKit
set_option maxRecDepth 100000
structure Px where
 there:Bool
 fits:Bool
 hash:List UInt8
 ent:Value
def Px.cs (x:Px):List Value:= .bool x.there:: .bool x.fits::((x.hash.map bv)++[x.ent])
def Px.ok (x:Px):Prop:=x.hash.length=8∧∃ a n c,x.ent= .slice a n c
def fcs (xs:List Px):List Value:=(xs.map Px.cs).flatten
def FOk (xs:List Px):Prop:=xs.length=4∧∀ x∈xs,x.ok
theorem Px.cs_len {x:Px}(h:x.ok):x.cs.length=11:=by simp [Px.cs,h.1]
theorem Px.cs_one {x:Px}(h:x.ok):∀ v∈x.cs,v.oneCell'=true:=by
 obtain⟨-,a,n,c,e⟩:=h
 intro v hv
 simp only [Px.cs,List.mem_cons,List.mem_append,List.mem_map,List.not_mem_nil,or_false] at hv
 rcases hv with rfl | rfl | ⟨b,-,rfl⟩ | rfl
 ·rfl
 ·rfl
 ·simp [bv,Value.oneCell']
 ·rw [e];rfl
theorem zhm {xs:List Px}(h:∀ x∈xs,x.ok):(fcs xs).length=11*xs.length:=by
 induction xs with
 | nil=>rfl
 | cons x xs ih =>
  have:fcs (x::xs)=x.cs++fcs xs:=by simp [fcs]
  rw [this,List.length_append,Px.cs_len (h x (by simp)),ih (fun y hy=>h y (by simp [hy])),List.length_cons]
  omega
theorem ji {xs:List Px}(h:∀ x∈xs,x.ok):∀ v∈fcs xs,v.oneCell'=true:=by
 intro v hv
 unfold fcs at hv
 obtain⟨l,hl,hvl⟩:=List.mem_flatten.1 hv
 obtain⟨x,hx,rfl⟩:=List.mem_map.1 hl
 exact Px.cs_one (h x hx) v hvl
theorem FOk.len {xs:List Px}(h:FOk xs):(fcs xs).length=44:=by rw [zhm h.2,h.1]
theorem z7v {xs:List Px}(h:∀ x∈xs,x.ok)(k:Nat)(hk:k < xs.length)(j:Nat)(hj:j < 11):(fcs xs)[k*11+j]?=xs[k].cs[j]?:=by
 induction xs generalizing k with
 | nil=>simp at hk
 | cons x xs ih =>
  have e:fcs (x::xs)=x.cs++fcs xs:=by simp [fcs]
  have hl:=Px.cs_len (h x (by simp))
  rw [e]
  cases k with
  | zero =>
   rw [Nat.zero_mul,Nat.zero_add,List.getElem?_append_left (by omega)]
   rfl
  | succ k =>
   rw [List.getElem?_append_right (by omega),hl,show(k+1)*11+j - 11=k*11+j by omega,ih (fun y hy=>h y (by simp [hy])) k (by simpa using hk)]
   rfl
theorem zi7 {xs:List Px}(h:∀ x∈xs,x.ok)(k:Nat)(hk:k < xs.length)(x:Px)(_:x.ok):fcs (xs.set k x)=(fcs xs).take (k*11)++(x.cs++(fcs xs).drop (k*11+11)):=by
 induction xs generalizing k with
 | nil=>simp at hk
 | cons y xs ih =>
  have e:∀(z:Px) (r:List Px),fcs (z::r)=z.cs++fcs r:=by simp [fcs]
  have hl:=Px.cs_len (h y (by simp))
  cases k with
  | zero =>
   rw [List.set_cons_zero,e,e,Nat.zero_mul,Nat.zero_add,List.take_zero,List.nil_append,← hl,List.drop_left]
  | succ k =>
   rw [List.set_cons_succ,e,e,ih (fun z hz=>h z (by simp [hz])) k (by simpa using hk)]
   rw [show(k+1)*11=y.cs.length+k*11 by omega,List.take_length_add_append,show y.cs.length+k*11+11=y.cs.length+(k*11+11) by omega,List.drop_length_add_append,List.append_assoc]
theorem zan {w:World}{b:Nat}{old:List Value}{t:TypeId}(vs:List Value)(o:Nat)(h:w.heap[b]?=some (.cells old.toArray t (0,0)))(hs:o+vs.length≤old.length):
  (w.setCells b o vs).heap[b]?=some (.cells (old.take o++(vs++old.drop (o+vs.length))).toArray t (0,0)):=by
 induction vs generalizing w o old with
 | nil =>
  have:w.setCells b o []=w:=rfl
  rw [this,h]
  simp
 | cons v vs ih =>
  have e:w.setCells b o (v::vs)=(w.setCell ⟨b,o,none⟩ v).setCells b (o+1) vs:=rfl
  simp only [List.length_cons] at hs
  have h1:(w.setCell ⟨b,o,none⟩ v).heap[b]?=some (.cells (old.set o v).toArray t (0,0)):=by
   have:=heap_setCell_same w b o old.toArray t v h
   simpa using this
  rw [e,ih (o+1) h1 (by simp;omega)]
  congr 3
  rw [List.set_eq_take_append_cons_drop,if_pos (by omega)]
  have h2:(old.take o).length=o:=by simp;omega
  have h3:o+1=(old.take o).length+1:=by omega
  rw [List.length_cons,show(old.take o++v::old.drop (o+1)).take (o+1)=old.take o++[v] by
   rw [h3,List.take_length_add_append];simp]
  rw [show(old.take o++v::old.drop (o+1)).drop (o+1+vs.length)=old.drop (o+(vs.length+1)) by
   rw [show o+1+vs.length=(old.take o).length+(vs.length+1) by omega,List.drop_length_add_append,List.drop_succ_cons,List.drop_drop]
   congr 1
   omega]
  simp
theorem xy {w:World}{b k:Nat}(vs:List Value)(o:Nat)(h:k≠b):(w.setCells b o vs).heap[k]?=w.heap[k]?:=by
 induction vs generalizing w o with
 | nil=>rfl
 | cons v vs ih =>
  have e:w.setCells b o (v::vs)=(w.setCell ⟨b,o,none⟩ v).setCells b (o+1) vs:=rfl
  rw [e,ih,heap_setCell_other _ _ _ _ h]
theorem j6 {w:World}{b:Nat}(vs:List Value)(o:Nat):(w.setCells b o vs).heap.size=w.heap.size:=by
 induction vs generalizing w o with
 | nil=>rfl
 | cons v vs ih =>
  have e:w.setCells b o (v::vs)=(w.setCell ⟨b,o,none⟩ v).setCells b (o+1) vs:=rfl
  rw [e,ih];simp [World.setCell]
theorem zel {w:World}{b:Nat}(vs:List Value)(o:Nat):(w.setCells b o vs).os=w.os∧(w.setCells b o vs).tape=w.tape∧(w.setCells b o vs).output=w.output:=by
 induction vs generalizing w o with
 | nil=>exact⟨rfl,rfl,rfl⟩
 | cons v vs ih =>
  have e:w.setCells b o (v::vs)=(w.setCell ⟨b,o,none⟩ v).setCells b (o+1) vs:=rfl
  rw [e];exact ih (w:=w.setCell ⟨b,o,none⟩ v) (o+1)
theorem zf.setCells {O:Nat→Prop}{T:List Nat}{a w:World}(h:zf O T a w){b:Nat}{c:Array Value}{t:TypeId}{x:Nat×Nat}(hO:Ext O a w b)(e:w.heap[b]?=some (.cells c t x))(ht:t∈T)(vs:List Value)(o:Nat):zf O T a (w.setCells b o vs):=by
 obtain⟨r1,r2,r3⟩:=zel (w:=w) (b:=b) vs o
 refine h.trans ⟨r1,r2,r3,by rw [j6];exact Nat.le_refl _,fun k hk=>?_⟩
 by_cases hkb:k=b
 ·subst hkb
  exact .inr ⟨hO,.inl ⟨c,t,x,e,ht⟩⟩
 ·exact .inl (xy vs o hkb)
theorem zu {B b:Nat}{w0 w:World}(hb:Below B w0 w)(hB:B≤b)(vs:List Value)(o:Nat):Below B w0 (w.setCells b o vs):=by
 obtain⟨r1,r2,r3⟩:=zel (w:=w) (b:=b) vs o
 exact⟨r1.trans hb.os,r2.trans hb.tape,r3.trans hb.output,by rw [j6];exact hb.size,fun k hk=>by rw [xy vs o (by omega)];exact hb.block k hk⟩
abbrev zr:Nat:=130
abbrev qr:Nat:=128
abbrev zi5:Nat:=91
def zn (w:World)(fb:Nat)(xs:List Px):Prop:=w.heap[fb]?=some (.cells (fcs xs).toArray zr (0,0))
theorem zn.cell {w:World}{fb:Nat}{xs:List Px}(h:zn w fb xs)(hx:∀ x∈xs,x.ok){k:Nat}(hk:k < xs.length){j:Nat}(hj:j < 11){v:Value}(hv:xs[k].cs[j]?=some v):
  w.cell? ⟨fb,k*11+j,none⟩=some v∧w.frozen? ⟨fb,k*11+j,none⟩=false :=
 zg h _ v (by rw [List.getElem?_toArray,z7v hx k hk j hj];exact hv)
theorem zn.piece {w:World}{fb:Nat}{xs:List Px}(h:zn w fb xs)(hx:∀ x∈xs,x.ok){k:Nat}(hk:k < xs.length):w.rangeAt fb (k*11) xs[k].cs:=by
 intro j v hv
 have hj:j < xs[k].cs.length:=(List.getElem?_eq_some_iff.1 hv).1
 rw [Px.cs_len (hx _ (List.getElem_mem hk))] at hj
 exact(h.cell hx hk hj hv).1
theorem zn.hash {w:World}{fb:Nat}{xs:List Px}(h:zn w fb xs)(hx:∀ x∈xs,x.ok){k:Nat}(hk:k < xs.length):w.rangeAt fb (k*11+2) (xs[k].hash.map bv):=by
 intro j v hv
 have hj:j < (xs[k].hash.map bv).length:=(List.getElem?_eq_some_iff.1 hv).1
 have h8:=(hx _ (List.getElem_mem hk)).1
 simp only [List.length_map] at hj
 rw [Nat.add_assoc]
 refine(h.cell hx hk (j:=2+j) (by omega) ?_).1
 unfold Px.cs
 rw [show 2+j=j+1+1 by omega,List.getElem?_cons_succ,List.getElem?_cons_succ,List.getElem?_append_left (by simpa using hj)]
 exact hv
theorem zn.there {w:World}{fb:Nat}{xs:List Px}(h:zn w fb xs)(hx:∀ x∈xs,x.ok){k:Nat}(hk:k < xs.length){o n:Nat}(ho:o+n≤11):w.there fb (k*11+o) n:=by
 intro j hj
 have hl:=Px.cs_len (hx _ (List.getElem_mem hk))
 rw [Nat.add_assoc]
 have:=h.cell hx hk (j:=o+j) (by omega) (v:=xs[k].cs[o+j]'(by omega)) (List.getElem?_eq_getElem _)
 exact⟨by rw [this.1];rfl,this.2⟩
theorem zn.set {w:World}{fb:Nat}{xs:List Px}(h:zn w fb xs)(hx:∀ x∈xs,x.ok){k:Nat}(hk:k < xs.length){x:Px}(hp:x.ok):zn (w.setCells fb (k*11) x.cs) fb (xs.set k x):=by
 unfold zn
 have hl:=zhm hx
 have hc:=Px.cs_len hp
 rw [zan x.cs (k*11) h (by omega),zi7 hx k hk x hp,hc]
theorem zj8 {xs:List Px}(hx:∀ x∈xs,x.ok)(k:Nat){x:Px}(hp:x.ok):∀ y∈xs.set k x,y.ok:=fun y hy=>by
 rcases List.mem_or_eq_of_mem_set hy with h | h
 ·exact hx y h
 ·rw [h];exact hp
theorem zn.set1 {w:World}{fb:Nat}{xs:List Px}(h:zn w fb xs)(hx:∀ x∈xs,x.ok){k:Nat}(hk:k < xs.length){j:Nat}{v:Value}{x:Px}(hj:j < 11)(hp:x.ok)(e:x.cs=xs[k].cs.set j v):zn (w.setCell ⟨fb,k*11+j,none⟩ v) fb (xs.set k x):=by
 unfold zn
 have h1:(w.setCell ⟨fb,k*11+j,none⟩ v).heap[fb]?=some (.cells ((fcs xs).set (k*11+j) v).toArray zr (0,0)):=by
  have:=heap_setCell_same w fb (k*11+j) (fcs xs).toArray zr v h
  simpa using this
 rw [h1,zi7 hx k hk x hp,e]
 congr 3
 have hl:=zhm hx
 have hc:=Px.cs_len (hx _ (List.getElem_mem hk))
 have hsplit:fcs xs=(fcs xs).take (k*11)++(xs[k].cs++(fcs xs).drop (k*11+11)):=by
  have:=zi7 hx k hk xs[k] (hx _ (List.getElem_mem hk))
  rw [List.set_getElem_self] at this
  exact this
 have ht:((fcs xs).take (k*11)).length=k*11:=by simp;omega
 conv=>lhs;rw [hsplit]
 rw [List.set_append_right _ _ (by omega),ht,Nat.add_sub_cancel_left,List.set_append_left _ _ (by omega)]
end
section
open Go.RowKit
set_option maxRecDepth 100000
def zcd (a v:Value):Sem Unit:=Instr.storeAt 130 a v
theorem yk (a v:Value):Instr.storeAt 130 a v=zcd a v:=rfl
def zta (a:Value):Sem Value:=Instr.loadAt 128 a
theorem yt (a:Value):Instr.loadAt 128 a=zta a:=rfl
def zgm (a v:Value):Sem Unit:=Instr.storeAt 128 a v
theorem yp (a v:Value):Instr.storeAt 128 a v=zgm a v:=rfl
def zp6 (parts:Array (Nat×Value)):Sem Value:=Instr.build 128 parts
theorem yn (parts:Array (Nat×Value)):Instr.build 128 parts=zp6 parts:=rfl
def z2r (parts:Array (Nat×Value)):Sem Value:=Instr.build 130 parts
theorem yo (parts:Array (Nat×Value)):Instr.build 130 parts=z2r parts:=rfl
def vx (a:Value):Sem Value:=Instr.loadAt 91 a
theorem yu (a:Value):Instr.loadAt 91 a=vx a:=rfl
def zcx (a v:Value):Sem Unit:=Instr.storeAt 91 a v
theorem yl (a v:Value):Instr.storeAt 91 a v=zcx a v:=rfl
theorem zhe:(Tryz.prog.info? 128).map (·.size)=some 11:=by kernel_rfl
theorem ze2:(Tryz.prog.info? 91).map (·.size)=some 8:=by kernel_rfl
theorem qc {w:World}{b o:Nat}{cs:List Value}(h:w.there b o 44)(hl:cs.length=44)(h1:∀ v∈cs,v.oneCell'=true):(zcd (.pointer (some ⟨b,o,none⟩)) (.agg cs.toArray)).run Tryz.prog w= .ok () (w.setCells b o cs):=by
 have:=run_storeAt_mid (P:=Tryz.prog) w b o 130 cs.toArray (by rw [List.size_toArray,hl];exact h) (by rw [jk,List.size_toArray,hl]) (all_oneCell_toArray h1)
 simpa [zcd] using this
theorem znu {w:World}{b o:Nat}{cs:List Value}(h:w.rangeAt b o cs)(hl:cs.length=11):(zta (.pointer (some ⟨b,o,none⟩))).run Tryz.prog w= .ok (.agg cs.toArray) w :=
 run_loadAt_mid w b o _ cs _ h Tryz.underlying128 rfl (by rw [zhe,hl])
theorem zbr {w:World}{b o:Nat}{cs:List Value}(h:w.there b o 11)(hl:cs.length=11)(h1:∀ v∈cs,v.oneCell'=true):(zgm (.pointer (some ⟨b,o,none⟩)) (.agg cs.toArray)).run Tryz.prog w= .ok () (w.setCells b o cs):=by
 have:=run_storeAt_mid (P:=Tryz.prog) w b o 128 cs.toArray (by rw [List.size_toArray,hl];exact h) (by rw [zhe,List.size_toArray,hl]) (all_oneCell_toArray h1)
 simpa [zgm] using this
theorem qg {w:World}{b o:Nat}{h:List UInt8}(hr:w.rangeAt b o (h.map bv))(hl:h.length=8):(vx (.pointer (some ⟨b,o,none⟩))).run Tryz.prog w= .ok (.agg (hv h)) w :=
 run_loadAt_mid w b o _ (h.map bv) _ hr Tryz.underlying91 rfl (by rw [ze2,List.length_map,hl])
theorem zxa {h:List UInt8}:∀ v∈h.map bv,v.oneCell'=true:=fun v hv=>by
 obtain⟨b,-,rfl⟩:=List.mem_map.1 hv
 simp [bv,Value.oneCell']
theorem za9 {w:World}{b o:Nat}{h:List UInt8}(ht:w.there b o 8)(hl:h.length=8):(zcx (.pointer (some ⟨b,o,none⟩)) (.agg (hv h))).run Tryz.prog w= .ok () (w.setCells b o (h.map bv)):=by
 have:=run_storeAt_mid (P:=Tryz.prog) w b o 91 (h.map bv).toArray (by rw [List.size_toArray,List.length_map,hl];exact ht) (by rw [ze2,List.size_toArray,List.length_map,hl]) (all_oneCell_toArray zxa)
 simpa [zcx,hv] using this
theorem zse (h:List UInt8)(hl:h.length=8)(v:Value)(hv':v.oneCell'=true)(w:World):(zp6 #[(0,.bool true),(2,.agg (hv h)),(3,v)]).run Tryz.prog w= .ok (.agg (Px.cs ⟨true,false,h,v⟩).toArray) w:=by
 obtain⟨b0,b1,b2,b3,b4,b5,b6,b7,rfl⟩:=hv8 h hl
 cases v<;>first | (simp [Value.oneCell'] at hv';done) | kernel_rfl
theorem zuz (h:List UInt8)(hl:h.length=8)(w:World):(zp6 #[(0,.bool true),(1,.bool true),(2,.agg (hv h))]).run Tryz.prog w= .ok (.agg (Px.cs ⟨true,true,h,.slice none 0 0⟩).toArray) w:=by
 obtain⟨b0,b1,b2,b3,b4,b5,b6,b7,rfl⟩:=hv8 h hl
 kernel_rfl
def Px.no:Px:=⟨false,false,xd,.slice none 0 0⟩
theorem zo5 (w:World):(zp6 #[]).run Tryz.prog w= .ok (.agg Px.no.cs.toArray) w:=by kernel_rfl
theorem zjz (w:World):(z2r #[]).run Tryz.prog w= .ok (.agg noV.toArray) w:=by kernel_rfl
def Fx.no:List Px:=[.no,.no,.no,.no]
theorem zpz:noV=fcs Fx.no:=rfl
theorem Px.no_ok:Px.no.ok:=⟨rfl,_,_,_,rfl⟩
theorem Fx.no_ok:FOk Fx.no:=⟨rfl,fun x hx=>by
 simp only [Fx.no,List.mem_cons,List.not_mem_nil,or_false,or_self] at hx
 rw [hx];exact Px.no_ok⟩
end
section
set_option maxHeartbeats 4000000
open Go.RowKit
set_option maxRecDepth 100000
attribute [local go_sem ↓] yq yk yt yp yn yo yu yl
def j8 (ys:List Px):Nat→List Px→List Px
 | 0,xs=>xs
 | k+1,xs=>if ((j8 ys k xs).getD k .no).fits then j8 ys k xs else (j8 ys k xs).set k (ys.getD k .no)
def zgy (xs ys:List Px):List Px:=List.zipWith (fun a b=>if a.fits then a else b) xs ys
theorem zbk {xs:List Px}(h:FOk xs)(k:Nat):(xs.getD k .no).ok:=by
 rw [List.getD_eq_getElem?_getD]
 by_cases hk:k < xs.length
 ·rw [List.getElem?_eq_getElem hk];exact h.2 _ (List.getElem_mem hk)
 ·rw [List.getElem?_eq_none (by omega)];exact Px.no_ok
theorem zg4 {xs ys:List Px}(hx:FOk xs)(hy:FOk ys):∀ k,FOk (j8 ys k xs)
 | 0=>hx
 | k+1=>by
  have:=zg4 hx hy k
  unfold j8
  split
  ·exact this
  ·exact⟨by simp [this.1],zj8 this.2 k (zbk hy k)⟩
theorem zez {α:Type}{xs:List α}(h:xs.length=4):∃ a b c d,xs=[a,b,c,d]:=by
 match xs,h with
 | [a,b,c,d],_=>exact⟨a,b,c,d,rfl⟩
theorem zhb {xs ys:List Px}(hx:FOk xs)(hy:FOk ys):j8 ys 4 xs=zgy xs ys:=by
 obtain⟨a,b,c,d,rfl⟩:=zez hx.1
 obtain⟨a',b',c',d',rfl⟩:=zez hy.1
 simp only [j8,zgy,List.zipWith_cons_cons,List.zipWith_nil_right]
 cases ha:a.fits<;>cases hb:b.fits<;>cases hc:c.fits<;>cases hd:d.fits<;>simp [ha,hb,hc,hd]
theorem z2w (O:Nat→Prop)(fb:Nat)(xs ys:List Px)(hx:FOk xs)(hy:FOk ys)(w:World)(hO:O fb)(h:zn w fb xs):
  Calls Tryz.prog 152 #[zt fb,.agg (fcs ys).toArray] w fun r w'=>r= .returned (.tuple #[])∧zf O [zr] w w'∧zn w' fb (zgy xs ys):=by
 have HX:=za hx
 have HY:=za hy
 have HO:=za hO
 have H0:Hid (zn (w.alloc (.cells (fcs ys).toArray zr)) fb xs∧zn (w.alloc (.cells (fcs ys).toArray zr)) w.heap.size ys):=⟨zc h,heap_alloc_last _ _⟩
 have hfl:fb < w.heap.size:=zb h
 unfold zt
 clear h hx hy hO
 go_enter Tryz.func152,Tryz.ntmps152
 go_wp2_with fail
 go_loopw [5] (fun i wr=>∃ k:Nat,k≤4∧i= .int .i64 k∧zf O [zr] w wr∧zn wr fb (j8 ys k xs)∧zn wr w.heap.size ys) (fun i _=>4 - (intOf i).toNat)
 case atStart=>exact⟨0,by omega,rfl,(zf.refl O _ w).alloc _,H0.o.1,H0.o.2⟩
 case round =>
  obtain⟨k,hk,rfl,ht,hf,hc⟩:=hrel
  by_cases hlt:k < 4
  ·have hz:=zg4 HX.o HY.o k
   have hkl:k < (j8 ys k xs).length:=by rw [hz.1];exact hlt
   have hyl:k < ys.length:=by rw [HY.o.1];exact hlt
   have hg:(j8 ys k xs).getD k .no=(j8 ys k xs)[k]:=by rw [List.getD_eq_getElem?_getD,List.getElem?_eq_getElem hkl];rfl
   have hgy:ys.getD k .no=ys[k]:=by rw [List.getD_eq_getElem?_getD,List.getElem?_eq_getElem hyl];rfl
   have c1:wr.cell? ⟨fb,k*11+1,none⟩=some (.bool ((j8 ys k xs)[k]).fits):=(hf.cell hz.2 hkl (j:=1) (by omega) rfl).1
   have i0:(0:Int)≤(k:Int):=by omega
   have i1:(k:Int) < 4:=by omega
   have HT:=za ht
   have HF:=za hf
   have HC:=za hc
   have HS:Hid (j8 ys (k+1) xs=if ((j8 ys k xs)[k]).fits then j8 ys k xs else (j8 ys k xs).set k ys[k]):=by show _=_;rw [j8,hg,hgy]
   have hpc:ys[k].ok:=HY.o.2 _ (List.getElem_mem hyl)
   have HPC:=za hpc
   have HZ:=za hz
   have HKL:=za hkl
   have hld:(zta (.pointer (some ⟨w.heap.size,k*11,none⟩))).run Tryz.prog wr.drew= .ok (.agg ys[k].cs.toArray) wr.drew:=znu (w:=wr.drew) (hc.piece HY.o.2 hyl) (Px.cs_len hpc)
   have hst:(zgm (.pointer (some ⟨fb,k*11,none⟩)) (.agg ys[k].cs.toArray)).run Tryz.prog wr.drew= .ok () (wr.drew.setCells fb (k*11) ys[k].cs):=zbr (w:=wr.drew) (hf.there hz.2 hkl (o:=0) (by omega)) (Px.cs_len hpc) (Px.cs_one hpc)
   have HST:Hid (zf O [zr] w (wr.drew.setCells fb (k*11) ys[k].cs)∧zn (wr.drew.setCells fb (k*11) ys[k].cs) fb ((j8 ys k xs).set k ys[k])∧zn (wr.drew.setCells fb (k*11) ys[k].cs) w.heap.size ys):=by
    have hf':zn wr.drew fb (j8 ys k xs):=hf
    refine⟨ht.drew.setCells (.inl HO.o) hf' (by simp) _ _,hf'.set hz.2 hkl hpc,?_⟩
    show(wr.drew.setCells _ _ _).heap[w.heap.size]?=_
    rw [xy _ _ (by omega)];exact hc
   have hld2:(zta (.pointer (some ⟨w.heap.size,k*11,none⟩))).run Tryz.prog (wr.drew.setCells fb (k*11) ys[k].cs)= .ok (.agg ys[k].cs.toArray) (wr.drew.setCells fb (k*11) ys[k].cs):=znu (HST.o.2.2.piece HY.o.2 hyl) (Px.cs_len hpc)
   have HLD:=za (And.intro hld hld2)
   clear ht hf hc hg hgy hpc hz hld hld2
   generalize (j8 ys k xs)[k]=z at *
   generalize ys[k]=y at *
   cases hzf:z.fits with
   | true =>
    rw [hzf] at c1
    go_wp2_with fail
    go_roundw
    case rel=>exact⟨k+1,by omega,by go_num,HT.o,by rw [HS.o,hzf];exact HF.o,HC.o⟩
    case measure=>simp [intOf];omega
   | false =>
    rw [hzf] at c1
    go_wp2_with fail
    go_region_held3 (fun w'=>(zta (.pointer (some ⟨w.heap.size,k*11,none⟩))).run Tryz.prog w'= .ok (.agg y.cs.toArray) w') (first | exact HLD.o.1 | exact HLD.o.2) (fail)
    rename_i hheld
    clear hheld
    go_wp2_with fail
    go_roundw
    case rel=>exact⟨k+1,by omega,by go_num,HST.o.1,by rw [HS.o,hzf];exact HST.o.2.1,HST.o.2.2⟩
    case measure=>simp [intOf];omega
  ·obtain rfl:k=4:=by omega
   go_wp2_with fail
   go_end0
   exact⟨rfl,ht,by rw [← zhb HX.o HY.o];exact hf⟩
end
section
set_option maxHeartbeats 4000000
open Go.RowKit
set_option maxRecDepth 100000
attribute [local go_sem ↓] yq yk yt yp yn yo yu yl
def ztq (xs:List Px):List Px:=zgy xs Fx.no
theorem zhy {P:Program}{fn:Func}{p:Tmp}{ty:TypeId}(h:fn.results=#[.cell p ty])(tmps:Array Value)(w:World)(g:Nat)(t:TypeId)(cs:Array Value)(fr:Nat×Nat)(d:TypeDesc)
  (hp:tmps.getD p undef= .pointer (some ⟨g,0,none⟩)) (hg:w.heap[g]?=some (.cells cs t fr))
  (hu:P.underlying ty=some d) (hd:(match d with | .struct _ | .array _ _=>true | _=>false)=true) (hi:(P.info? ty).map (·.size)=some cs.size) :
  (results fn tmps).run P w= .ok (.agg cs) w:=by
 have hl:=run_loadVar_row (P:=P) w g t ty cs fr d hg hu hd hi
 simp only [Array.getD_eq_getD_getElem?] at hp
 simp [results,h,hp,asAddr,hl]
theorem xg {w:World}{fb:Nat}{xs:List Px}(h:zn w fb xs)(hx:FOk xs):w.there fb 0 44:=by
 intro j hj
 have hl:=hx.len
 have:=zg h (0+j) ((fcs xs)[j]'(by omega)) (by rw [Nat.zero_add,List.getElem?_toArray];exact List.getElem?_eq_getElem _)
 exact⟨by rw [this.1];rfl,this.2⟩
theorem xt {w:World}{fb:Nat}{xs ys:List Px}(h:zn w fb xs)(hx:FOk xs)(hy:FOk ys):zn (w.setCells fb 0 (fcs ys)) fb ys:=by
 unfold zn
 rw [zan (fcs ys) 0 h (by rw [hx.len,hy.len];exact Nat.le_refl _),hy.len]
 simp [hx.len]
theorem zr0 (xs:List Px)(hx:FOk xs)(w:World):
  Calls Tryz.prog 149 #[.agg (fcs xs).toArray] w fun r w'=>r= .returned (.agg (fcs (ztq xs)).toArray)∧Below w.heap.size w w':=by
 have HX:=za hx
 have hN:=Fx.no_ok
 have HN:=za hN
 clear hx hN
 go_enter Tryz.func149,Tryz.ntmps149
 go_wp2_with fail
 have H0:Hid (Below w.heap.size w ((w.alloc (.cells (fcs xs).toArray zr)).alloc (.cells qh zr))∧zn ((w.alloc (.cells (fcs xs).toArray zr)).alloc (.cells qh zr)) w.heap.size xs∧zn ((w.alloc (.cells (fcs xs).toArray zr)).alloc (.cells qh zr)) (w.heap.size+1) Fx.no):=by
  refine⟨zw _ _ _,zc (heap_alloc_last _ _),?_⟩
  have:=heap_alloc_last (w.alloc (.cells (fcs xs).toArray zr)) (.cells qh zr)
  rw [show(w.alloc (.cells (fcs xs).toArray zr)).heap.size=w.heap.size+1 by simp] at this
  exact this
 generalize (w.alloc (.cells (fcs xs).toArray zr)).alloc (.cells qh zr)=W0 at *
 go_loopw [4] (fun i wr=>∃ k:Nat,k≤4∧i= .int .i64 k∧Below w.heap.size w wr∧zn wr w.heap.size (j8 Fx.no k xs)∧zn wr (w.heap.size+1) Fx.no) (fun i _=>4 - (intOf i).toNat)
 case atStart=>exact⟨0,by omega,rfl,H0.o.1,H0.o.2.1,H0.o.2.2⟩
 case round =>
  obtain⟨k,hk,rfl,ht,hf,hc⟩:=hrel
  by_cases hlt:k < 4
  ·have hz:=zg4 HX.o HN.o k
   have hkl:k < (j8 Fx.no k xs).length:=by rw [hz.1];exact hlt
   have hg:(j8 Fx.no k xs).getD k .no=(j8 Fx.no k xs)[k]:=by rw [List.getD_eq_getElem?_getD,List.getElem?_eq_getElem hkl];rfl
   have hgy:Fx.no.getD k .no=Px.no:=by
    match k,hlt with
    | 0,_=>rfl
    | 1,_=>rfl
    | 2,_=>rfl
    | 3,_=>rfl
   have c1:wr.cell? ⟨w.heap.size,k*11+1,none⟩=some (.bool ((j8 Fx.no k xs)[k]).fits):=(hf.cell hz.2 hkl (j:=1) (by omega) rfl).1
   have i0:(0:Int)≤(k:Int):=by omega
   have i1:(k:Int) < 4:=by omega
   have HT:=za ht
   have HF:=za hf
   have HC:=za hc
   have HS:Hid (j8 Fx.no (k+1) xs=if ((j8 Fx.no k xs)[k]).fits then j8 Fx.no k xs else (j8 Fx.no k xs).set k .no):=by show _=_;rw [j8,hg,hgy]
   have hbp:=zo5 wr
   have hst:(zgm (.pointer (some ⟨w.heap.size,k*11,none⟩)) (.agg Px.no.cs.toArray)).run Tryz.prog wr= .ok () (wr.setCells w.heap.size (k*11) Px.no.cs):=zbr (hf.there hz.2 hkl (o:=0) (by omega)) (Px.cs_len Px.no_ok) (Px.cs_one Px.no_ok)
   have HST:Hid (Below w.heap.size w (wr.setCells w.heap.size (k*11) Px.no.cs)∧zn (wr.setCells w.heap.size (k*11) Px.no.cs) w.heap.size ((j8 Fx.no k xs).set k .no)∧zn (wr.setCells w.heap.size (k*11) Px.no.cs) (w.heap.size+1) Fx.no):=by
    refine⟨zu ht (Nat.le_refl _) _ _,hf.set hz.2 hkl Px.no_ok,?_⟩
    show(wr.setCells _ _ _).heap[w.heap.size+1]?=_
    rw [xy _ _ (by omega)];exact hc
   clear ht hf hc hg hgy hz
   generalize (j8 Fx.no k xs)[k]=z at *
   cases hzf:z.fits with
   | true =>
    rw [hzf] at c1
    go_wp2_with fail
    go_roundw
    case rel=>exact⟨k+1,by omega,by go_num,HT.o,by rw [HS.o,hzf];exact HF.o,HC.o⟩
    case measure=>simp [intOf];omega
   | false =>
    rw [hzf] at c1
    go_wp2_with fail
    go_roundw
    case rel=>exact⟨k+1,by omega,by go_num,HST.o.1,by rw [HS.o,hzf];exact HST.o.2.1,HST.o.2.2⟩
    case measure=>simp [intOf];omega
  ·obtain rfl:k=4:=by omega
   rw [zhb HX.o HN.o] at hf
   have hok:FOk (zgy xs Fx.no):=by rw [← zhb HX.o HN.o];exact zg4 HX.o HN.o 4
   have hld:=vy (yv hf) hok.len
   have hst:=qc (xg hc Fx.no_ok) hok.len (ji hok.2)
   have HW:=za (xt hc Fx.no_ok hok)
   have HB:=za (zu ht (Nat.le_succ w.heap.size) (fcs (zgy xs Fx.no)) 0)
   have HOK:Hid (FOk (ztq xs)):=hok
   clear ht hf hc hok
   go_wp2_with fail
   exact bodyPost_ret (v:= .agg (fcs (ztq xs)).toArray) (zhy Tryz.results149 _ _ (w.heap.size+1) zr _ (0,0) _ rfl HW.o Tryz.underlying130 rfl (by rw [jk,List.size_toArray,HOK.o.len])) rfl ⟨rfl,HB.o⟩
end
end Go.Proofs.YtinhekmmdlhfkaaGreatDoor
