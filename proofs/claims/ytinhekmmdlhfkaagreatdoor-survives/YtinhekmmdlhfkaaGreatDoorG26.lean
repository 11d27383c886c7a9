import Derived.Test.YtinhekmmdlhfkaaGreatDoorG13
import Derived.Test.YtinhekmmdlhfkaaGreatDoorG14
import Derived.Test.YtinhekmmdlhfkaaGreatDoorG25
import Derived.Test.YtinhekmmdlhfkaaGreatDoorG20
namespace Go.Proofs.YtinhekmmdlhfkaaGreatDoor
section
set_option maxHeartbeats 4000000
open Go.RowKit
set_option maxRecDepth 100000
theorem zrl (O:Nat→Prop)(mb hb eb:Nat)(room:Int)(l:Ks)(o n:Option Addr)(w:World)(hO:O mb∧O hb∧O eb)(hmem:w.heap[mb]?=some (.cells #[.int .i64 room,.map (some hb),zt eb] MeN (0,0)))
  (hend:w.heap[eb]?=some (.cells #[.int .i64 0,.int .i64 0,.int .i64 0,.pointer none,.pointer o,.pointer n] LkN (0,0))) (hmap:jc w hb l) :
  Calls Tryz.prog 88 #[zt mb] w fun r w'=>r= .returned (.tuple #[])∧zf O [LkN] w w'∧vt w' O mb room []∧w'.heap.size=w.heap.size:=by
 obtain⟨w1,hrun,hmap1,hgrow⟩:=hmap.clear Tryz.underlying191 0
 have hsz:w1.heap.size=w.heap.size:=by
  obtain⟨es,c,hm⟩:=hmap.isMap
  have e:=hrun
  simp [Builtin.clear_,run_underlying Tryz.underlying191,MapKept.run_getObj_map hm,MapKept.run_setObj_map _ hm,Result.andThen] at e
  rw [← e];simp
 have hmem1:=(hgrow.block mb (zb hmem) (hmap.not hmem)).trans hmem
 have hend1:=(hgrow.block eb (zb hend) (hmap.not hend)).trans hend
 have m1:w.cell? ⟨mb,1,none⟩=some (.map (some hb)):=(zg hmem 1 _ rfl).1
 have m2:w1.cell? ⟨mb,2,none⟩=some (.pointer (some ⟨eb,0,none⟩)):=(zg hmem1 2 _ rfl).1
 have e4:w1.cell? ⟨eb,4,none⟩=some (.pointer o):=(zg hend1 4 _ rfl).1
 have g4:w1.frozen? ⟨eb,4,none⟩=false:=(zg hend1 4 _ rfl).2
 have e5:w1.cell? ⟨eb,5,none⟩=some (.pointer n):=(zg hend1 5 _ rfl).1
 have g5:w1.frozen? ⟨eb,5,none⟩=false:=(zg hend1 5 _ rfl).2
 have z0:¬ eb=mb:=fun e=>by
  have h1:some (Obj.cells _ _ _)=some (Obj.cells _ _ _):=hend1.symm.trans (by rw [e];exact hmem1)
  simp only [Option.some.injEq,Obj.cells.injEq] at h1
  exact absurd h1.2.1 (by decide)
 have z1:¬ mb=eb:=fun e=>z0 e.symm
 have HO:=za hO
 have HM1:=za hmap1
 have HT1:Hid (zf O [LkN] w w1):=(zf.refl O [LkN] w).map (.inl hO.2.1) hmap hgrow
 have HE1:=za (And.intro hmem1 hend1)
 have HSZ:=za hsz
 unfold zt
 clear hO hmap hmem hend hmap1 hgrow hmem1 hend1 hsz
 go_enter Tryz.func88,Tryz.ntmps88
 go_wp2_with fail
 go_region_held3 (fun w'=>w'.cell? ⟨mb,2,none⟩=some (.pointer (some ⟨eb,0,none⟩))) (go_keep) (fail)
 rename_i hheld
 clear hheld
 go_wp2_with fail
 go_end0
 have hb4:=qj HE1.o.2 4 (.pointer (some ⟨eb,0,none⟩))
 have hb5:=qj hb4 5 (.pointer (some ⟨eb,0,none⟩))
 refine⟨rfl,((HT1.o.set (.inl HO.o.2.2) HE1.o.2 (by simp) _).set (.inl HO.o.2.2) hb4 (by simp) _).drew,⟨hb,eb,fun _=>eb,fun _=>eb,⟨HO.o.1,HO.o.2.1,HO.o.2.2,fun x hx=>by simp at hx⟩,?_,⟨hb5,fun x hx=>by simp at hx,zkj eb⟩,?_,fun x hx=>by simp at hx⟩,?_⟩
 ·show((w1.setCell _ _).setCell _ _).heap[mb]?=_
  rw [heap_setCell_other _ _ _ _ z1,heap_setCell_other _ _ _ _ z1];exact HE1.o.1
 ·refine HM1.o.same ?_
  show((w1.setCell _ _).setCell _ _).heap[hb]?=_
  have zh:hb≠eb:=fun e=>HM1.o.not HE1.o.2 (by rw [e])
  rw [heap_setCell_other _ _ _ _ zh,heap_setCell_other _ _ _ _ zh]
 ·simp [World.setCell,World.drew,HSZ.o]
theorem z1q (room:Int)(w:World):
  Calls Tryz.prog 53 #[.int .i64 room] w fun r w'=>∃ mb,r= .returned (zt mb)∧Below w.heap.size w w'∧vt w' (fun k=>w.heap.size≤k∧k < w'.heap.size) mb room []:=by
 have hmm:=@run_makeMap Tryz.prog
 go_enter Tryz.func53,Tryz.ntmps53
 go_wp2_with fail
 have s1:(w.alloc (.map #[] 0)).heap.size=w.heap.size+1:=by simp
 have h1:=heap_alloc_last w (.map #[] 0)
 have h2:=heap_alloc_last (w.alloc (.map #[] 0)) (.cells #[.int .i64 0,.int .i64 0,.int .i64 0,.pointer none,.pointer none,.pointer none] LkN)
 rw [s1] at h2
 have s2:((w.alloc (.map #[] 0)).alloc (.cells #[.int .i64 0,.int .i64 0,.int .i64 0,.pointer none,.pointer none,.pointer none] LkN)).heap.size=w.heap.size+1+1:=by simp
 have h3:=heap_alloc_last ((w.alloc (.map #[] 0)).alloc (.cells #[.int .i64 0,.int .i64 0,.int .i64 0,.pointer none,.pointer none,.pointer none] LkN)) (.cells #[.int .i64 room,.map (some w.heap.size),.pointer (some ⟨w.heap.size+1,0,none⟩)] MeN)
 rw [s2] at h3
 have hb:Below w.heap.size w (((w.alloc (.map #[] 0)).alloc (.cells #[.int .i64 0,.int .i64 0,.int .i64 0,.pointer none,.pointer none,.pointer none] LkN)).alloc (.cells #[.int .i64 room,.map (some w.heap.size),.pointer (some ⟨w.heap.size+1,0,none⟩)] MeN)):=je _ _ _ _
 refine(zrl (fun k=>w.heap.size≤k) (w.heap.size+1+1) w.heap.size (w.heap.size+1) room [] none none _ ⟨by omega,by omega,by omega⟩ h3 (zc h2) (zgh (c:=0) (zc (zc h1)))).mono ?_
 rintro r w1 ⟨rfl,ht,hm,hsz⟩
 have HB:Hid (Below w.heap.size w w1):=hb.trans (ht.below (fun _ h=>h) hb.size)
 have HM:Hid (vt w1 (fun k=>w.heap.size≤k∧k < w1.heap.size) (w.heap.size+1+1) room []):=by
  obtain⟨hb',eb,nx,pv,h⟩:=hm
  exact⟨hb',eb,nx,pv,⟨⟨h.own.1,zb h.mem⟩,⟨h.own.2.1,h.map.lt⟩,⟨h.own.2.2.1,zb h.ring.ends⟩,fun x hx=>by simp at hx⟩,h.mem,h.ring,h.map,h.ok⟩
 clear ht hm hb h1 h2 h3 s1 s2 hsz
 go_wp2_with fail
 go_ret
 exact⟨_,rfl,HB.o,HM.o⟩
end
section
set_option maxHeartbeats 8000000
open Go.RowKit
set_option maxRecDepth 100000
attribute [local go_sem ↓] yq yk yt yp yn yo yu yl
def zfq (xs:List Px):Option (List UInt8):=match xs with
 | [a,b,c,d]=>if a.fits&&b.fits&&c.fits&&d.fits then some (xa (xa a.hash b.hash) (xa c.hash d.hash)) else none
 | _=>none
def z7t (xs:List Px)(k:Nat):Prop:=∀ j,j < k→(xs.getD j .no).fits=true
theorem zxu {xs:List Px}(h:xs.length=4)(hf:z7t xs 4):zfq xs=some (xa (xa (xs.getD 0 .no).hash (xs.getD 1 .no).hash) (xa (xs.getD 2 .no).hash (xs.getD 3 .no).hash)):=by
 obtain⟨a,b,c,d,rfl⟩:=zez h
 have h0:=hf 0 (by omega)
 have h1:=hf 1 (by omega)
 have h2:=hf 2 (by omega)
 have h3:=hf 3 (by omega)
 simp at h0 h1 h2 h3
 simp [zfq,h0,h1,h2,h3]
theorem z1j {xs:List Px}(h:xs.length=4){k:Nat}(hk:k < 4)(hf:(xs.getD k .no).fits=false):zfq xs=none:=by
 obtain⟨a,b,c,d,rfl⟩:=zez h
 match k,hk with
 | 0,_=>simp at hf;simp [zfq,hf]
 | 1,_=>simp at hf;simp [zfq,hf]
 | 2,_=>simp at hf;simp [zfq,hf]
 | 3,_=>simp at hf;simp [zfq,hf]
theorem jb {w:World}{b:Nat}{cs:List Value}{t:TypeId}(h:w.heap[b]?=some (.cells cs.toArray t (0,0))):w.there b 0 cs.length:=by
 intro j hj
 have:=zg h (0+j) (cs[j]'hj) (by rw [Nat.zero_add,List.getElem?_toArray];exact List.getElem?_eq_getElem _)
 exact⟨by rw [this.1];rfl,this.2⟩
theorem qz {w:World}{b:Nat}{cs ds:List Value}{t:TypeId}(h:w.heap[b]?=some (.cells cs.toArray t (0,0)))(hl:ds.length=cs.length):(w.setCells b 0 ds).heap[b]?=some (.cells ds.toArray t (0,0)):=by
 rw [zan ds 0 h (by omega),hl]
 simp
abbrev jg:Array Value:=#[.int .u8 0,.int .u8 0,.int .u8 0,.int .u8 0,.int .u8 0,.int .u8 0,.int .u8 0,.int .u8 0]
def z04 (parts:Array (Nat×Value)):Sem Value:=Instr.build 91 parts
theorem zf3 (parts:Array (Nat×Value)):Instr.build 91 parts=z04 parts:=rfl
theorem zjv (w:World):(z04 #[]).run Tryz.prog w= .ok (.agg (hv xd)) w:=by kernel_rfl
attribute [local go_sem ↓] zf3
theorem z0o (xs:List Px)(hx:FOk xs)(w:World):
  Calls Tryz.prog 185 #[.agg (fcs xs).toArray] w fun r w'=>Below w.heap.size w w'∧((∃ h,zfq xs=some h∧r= .returned (.tuple #[.agg (hv h),.bool true]))∨(zfq xs=none∧r= .returned (.tuple #[.agg (hv xd),.bool false]))):=by
 have HX:=za hx
 clear hx
 go_enter Tryz.func185,Tryz.ntmps185
 go_wp2_with fail
 have H0:Hid (Below w.heap.size w ((w.alloc (.cells (fcs xs).toArray zr)).alloc (.cells jg zi5))∧zn ((w.alloc (.cells (fcs xs).toArray zr)).alloc (.cells jg zi5)) w.heap.size xs∧((w.alloc (.cells (fcs xs).toArray zr)).alloc (.cells jg zi5)).heap[w.heap.size+1]?=some (.cells (xd.map bv).toArray zi5 (0,0))):=by
  refine⟨zw _ _ _,zc (heap_alloc_last _ _),?_⟩
  have:=heap_alloc_last (w.alloc (.cells (fcs xs).toArray zr)) (.cells jg zi5)
  rw [show(w.alloc (.cells (fcs xs).toArray zr)).heap.size=w.heap.size+1 by simp] at this
  exact this
 generalize (w.alloc (.cells (fcs xs).toArray zr)).alloc (.cells jg zi5)=W0 at *
 go_loopw [5] (fun i wr=>∃ k:Nat,k≤4∧i= .int .i64 k∧z7t xs k∧wr=W0) (fun i _=>4 - (intOf i).toNat)
 case atStart=>exact⟨0,by omega,rfl,fun j hj=>by omega,rfl⟩
 case round =>
  obtain⟨k,hk,rfl,hfit,rfl⟩:=hrel
  by_cases hlt:k < 4
  ·have hkl:k < xs.length:=by rw [HX.o.1];exact hlt
   have hg:xs.getD k .no=xs[k]:=by rw [List.getD_eq_getElem?_getD,List.getElem?_eq_getElem hkl];rfl
   have c1:wr.cell? ⟨w.heap.size,k*11+1,none⟩=some (.bool (xs[k]).fits):=(H0.o.2.1.cell HX.o.2 hkl (j:=1) (by omega) rfl).1
   have i0:(0:Int)≤(k:Int):=by omega
   have i1:(k:Int) < 4:=by omega
   have HG:=za hg
   have HFT:=za hfit
   have hst:(zcx (.pointer (some ⟨w.heap.size+1,0,none⟩)) (.agg (hv xd))).run Tryz.prog wr= .ok () (wr.setCells (w.heap.size+1) 0 (xd.map bv)):=za9 (jb H0.o.2.2) rfl
   have HW:=za (qz (ds:=xd.map bv) H0.o.2.2 rfl)
   have HB:=za (zu H0.o.1 (Nat.le_succ w.heap.size) (xd.map bv) 0)
   have hbh:=zjv wr
   clear hg hfit
   generalize xs[k]=z at *
   cases hzf:z.fits with
   | true =>
    rw [hzf] at c1
    go_wp2_with fail
    go_roundw
    case rel=>exact⟨k+1,by omega,by go_num,fun j hj=>by
     rcases Nat.lt_or_ge j k with h | h
     ·exact HFT.o j h
     ·obtain rfl:j=k:=by omega
      rw [HG.o];exact hzf,by first | rfl | trivial⟩
    case measure=>simp [intOf];omega
   | false =>
    rw [hzf] at c1
    go_wp2_with fail
    refine bodyPost_ret (v:= .tuple #[.agg (hv xd),.bool false]) (zy Tryz.results185 _ _ (w.heap.size+1) zi5 _ (0,0) _ rfl HW.o Tryz.underlying91 rfl ze2 _ rfl) rfl ⟨HB.o,.inr ⟨z1j HX.o.1 hlt (by rw [HG.o];exact hzf),rfl⟩⟩
  ·obtain rfl:k=4:=by omega
   have HR:=za (zxu HX.o.1 hfit)
   obtain⟨a,b,c,d,he⟩:=zez HX.o.1
   have HE:=za he
   have a8:=(HX.o.2 a (by rw [he];simp)).1
   have b8:=(HX.o.2 b (by rw [he];simp)).1
   have c8:=(HX.o.2 c (by rw [he];simp)).1
   have d8:=(HX.o.2 d (by rw [he];simp)).1
   have HS:Hid (∀ w',zn w' w.heap.size xs→((vx (.pointer (some ⟨w.heap.size,2,none⟩))).run Tryz.prog w'= .ok (.agg (hv a.hash)) w'∧(vx (.pointer (some ⟨w.heap.size,13,none⟩))).run Tryz.prog w'= .ok (.agg (hv b.hash)) w'∧(vx (.pointer (some ⟨w.heap.size,24,none⟩))).run Tryz.prog w'= .ok (.agg (hv c.hash)) w'∧(vx (.pointer (some ⟨w.heap.size,35,none⟩))).run Tryz.prog w'= .ok (.agg (hv d.hash)) w')):=by
    intro w' hf
    rw [he] at hf
    have hx:∀ x∈[a,b,c,d],x.ok:=by rw [← he];exact HX.o.2
    exact⟨qg (hf.hash hx (k:=0) (by simp)) a8,qg (hf.hash hx (k:=1) (by simp)) b8,qg (hf.hash hx (k:=2) (by simp)) c8,qg (hf.hash hx (k:=3) (by simp)) d8⟩
   have HN1:Hid (∃ N,N=xa a.hash b.hash∧N.length=8∧∀ w',Calls Tryz.prog 86 #[.agg (hv a.hash),.agg (hv b.hash)] w' fun r w''=>r= .returned (.agg (hv N))∧Below w'.heap.size w' w''):=⟨_,rfl,qf _ _,fun w'=>zaw _ _ w' a8 b8⟩
   have HN2:Hid (∃ N,N=xa c.hash d.hash∧N.length=8∧∀ w',Calls Tryz.prog 86 #[.agg (hv c.hash),.agg (hv d.hash)] w' fun r w''=>r= .returned (.agg (hv N))∧Below w'.heap.size w' w''):=⟨_,rfl,qf _ _,fun w'=>zaw _ _ w' c8 d8⟩
   obtain⟨N1,e1,l1,k1⟩:=HN1.o
   obtain⟨N2,e2,l2,k2⟩:=HN2.o
   have HN3:Hid (∃ N,N=xa N1 N2∧N.length=8∧∀ w',Calls Tryz.prog 86 #[.agg (hv N1),.agg (hv N2)] w' fun r w''=>r= .returned (.agg (hv N))∧Below w'.heap.size w' w''):=⟨_,rfl,qf _ _,fun w'=>zaw _ _ w' l1 l2⟩
   obtain⟨N3,e3,l3,k3⟩:=HN3.o
   have K1:=za k1
   have K2:=za k2
   have K3:=za k3
   have L3:=za l3
   rw [he] at HR
   have HR3:Hid (zfq xs=some N3):=by
    show _=_
    rw [he,e3,e2,e1];exact HR.o
   clear HR k1 k2 k3 e1 e2 e3 l1 l2 l3 HN1 HN2 HN3
   have HST:Hid (∀ w',Below wr.heap.size wr w'→∀ h:List UInt8,h.length=8→(zcx (.pointer (some ⟨w.heap.size+1,0,none⟩)) (.agg (hv h))).run Tryz.prog w'= .ok () (w'.setCells (w.heap.size+1) 0 (h.map bv))):=by
    intro w' hb h h8
    have:=(hb.block _ (zb H0.o.2.2)).trans H0.o.2.2
    exact za9 (jb this) h8
   have HBK:Hid (∀ w',Below wr.heap.size wr w'→∀ h:List UInt8,h.length=8→(w'.setCells (w.heap.size+1) 0 (h.map bv)).heap[w.heap.size+1]?=some (.cells (hv h) zi5 (0,0))∧Below w.heap.size w (w'.setCells (w.heap.size+1) 0 (h.map bv))):=by
    intro w' hb h h8
    have:=(hb.block _ (zb H0.o.2.2)).trans H0.o.2.2
    exact⟨qz this (by simp [h8,xd]),zu (H0.o.1.trans (hb.mono H0.o.1.size)) (Nat.le_succ _) _ _⟩
   have HF1:Hid (∀ w',Below wr.heap.size wr w'→zn w' w.heap.size xs):=fun w' hb=>(hb.block _ (zb H0.o.2.1)).trans H0.o.2.1
   have HF2:Hid (∀ w',Below wr.heap.size wr w'→∀ h,zn (w'.setCells (w.heap.size+1) 0 h) w.heap.size xs):=by
    intro w' hb h
    show(w'.setCells _ _ _).heap[w.heap.size]?=_
    rw [xy _ _ (by omega)];exact HF1.o w' hb
   have hcur:Below wr.heap.size wr wr.drew:=(Below.refl _ _).drew
   clear he hfit
   go_wp2_with fail
   go_region_held3 (fun w'=>(vx (.pointer (some ⟨w.heap.size,2,none⟩))).run Tryz.prog w'= .ok (.agg (hv a.hash)) w'∧(vx (.pointer (some ⟨w.heap.size,13,none⟩))).run Tryz.prog w'= .ok (.agg (hv b.hash)) w'∧(vx (.pointer (some ⟨w.heap.size,24,none⟩))).run Tryz.prog w'= .ok (.agg (hv c.hash)) w'∧(vx (.pointer (some ⟨w.heap.size,35,none⟩))).run Tryz.prog w'= .ok (.agg (hv d.hash)) w') (first | exact HS.o _ (HF1.o _ hcur) | exact HS.o _ (HF2.o _ hcur _)) (first
    | (go_at_call 86;(first | refine(K1.out _).mono ?_ | refine(K2.out _).mono ?_ | refine(K3.out _).mono ?_);rintro r w1 ⟨rfl,hb⟩;have hnew:=hcur.trans (hb.mono hcur.size);clear hcur hb;have hcur:=hnew;clear hnew;have hst:=HST.o _ hcur N3 L3.out))
   rename_i hheld
   clear hheld
   have HK:=za (HBK.o _ hcur N3 L3.out)
   clear hcur hst
   go_wp2_with fail
   refine bodyPost_ret (v:= .tuple #[.agg (hv N3),.bool true]) (zy Tryz.results185 _ _ (w.heap.size+1) zi5 _ (0,0) _ rfl HK.o.1 Tryz.underlying91 rfl (by rw [ze2];simp [hv,L3.out]) _ rfl) rfl ⟨HK.o.2,.inl ⟨N3,HR3.o,rfl⟩⟩
end
section
open Go.RowKit
set_option maxRecDepth 100000
def qo {α β:Type}(R:α→β→Prop):List α→List β→Prop
 | [],[]=>True
 | a::l,b::m=>R a b∧qo R l m
 | _,_=>False
theorem qo.nil {α β:Type}{R:α→β→Prop}:qo R [] []:=trivial
theorem qo.cons {α β:Type}{R:α→β→Prop}{a:α}{b:β}{l:List α}{m:List β}(h:R a b)(t:qo R l m):qo R (a::l) (b::m):=⟨h,t⟩
theorem qo.ind {α β:Type}{R:α→β→Prop}{motive:(l:List α)→(m:List β)→qo R l m→Prop}(nil:motive [] [] qo.nil)(cons:∀ {a:α} {b:β} {l:List α} {m:List β} (h:R a b) (t:qo R l m),motive l m t→motive (a::l) (b::m) (qo.cons h t)):∀ {l:List α} {m:List β} (h:qo R l m),motive l m h
 | [],[],_=>nil
 | _::_,_::_,h=>cons h.1 h.2 (qo.ind nil cons h.2)
 | [],_::_,h=>False.elim h
 | _::_,[],h=>False.elim h
theorem qo.empty {α β:Type}{R:α→β→Prop}{l:List α}(h:qo R l ([]:List β)):l=[]:=by
 cases l with
 | nil=>rfl
 | cons a l=>exact False.elim h
theorem qo.len {α β:Type}{R:α→β→Prop}{l:List α}{m:List β}(h:qo R l m):l.length=m.length:=by
 induction h using qo.ind with
 | nil=>rfl
 | cons _ _ ih=>simp [ih]
theorem qo.mono {α β:Type}{R R':α→β→Prop}{l:List α}{m:List β}(h:qo R l m)(hr:∀ a∈l,∀ b,R a b→R' a b):qo R' l m:=by
 induction h using qo.ind with
 | nil=>exact .nil
 | cons h1 _ ih=>exact .cons (hr _ (by simp) _ h1) (ih fun a ha b=>hr a (by simp [ha]) b)
theorem qo.append {α β:Type}{R:α→β→Prop}{l l':List α}{m m':List β}(h:qo R l m)(h':qo R l' m'):qo R (l++l') (m++m'):=by
 induction h using qo.ind with
 | nil=>exact h'
 | cons h1 _ ih=>exact .cons h1 ih
theorem qo.snoc {α β:Type}{R:α→β→Prop}{l:List α}{m:List β}(h:qo R l m){a:α}{b:β}(hr:R a b):qo R (l++[a]) (m++[b]):=h.append (.cons hr .nil)
theorem qo.filter {α β:Type}{R:α→β→Prop}{l:List α}{m:List β}(h:qo R l m)(p:α→Bool)(q:β→Bool)(hpq:∀ a b,R a b→p a=q b):qo R (l.filter p) (m.filter q):=by
 induction h using qo.ind with
 | nil=>exact .nil
 | cons h1 _ ih =>
  rename_i a b l m _
  have e:=hpq a b h1
  cases hp:p a with
  | true=>rw [List.filter_cons_of_pos hp,List.filter_cons_of_pos (by rw [← e];exact hp)];exact .cons h1 ih
  | false=>rw [List.filter_cons_of_neg (by simp [hp]),List.filter_cons_of_neg (by rw [← e];simp [hp])];exact ih
theorem qo.find {α β:Type}{R:α→β→Prop}{l:List α}{m:List β}(h:qo R l m)(p:α→Bool)(q:β→Bool)(hpq:∀ a b,R a b→p a=q b):(l.find? p=none∧m.find? q=none)∨∃ a b,l.find? p=some a∧m.find? q=some b∧R a b∧a∈l∧b∈m:=by
 induction h using qo.ind with
 | nil=>exact .inl ⟨rfl,rfl⟩
 | cons h1 _ ih =>
  rename_i a b l m _
  have e:=hpq a b h1
  cases hp:p a with
  | true=>exact .inr ⟨a,b,List.find?_cons_of_pos hp,List.find?_cons_of_pos (by rw [← e];exact hp),h1,by simp,by simp⟩
  | false =>
   rw [List.find?_cons_of_neg (by simp [hp]),List.find?_cons_of_neg (by rw [← e];simp [hp])]
   rcases ih with ih | ⟨a',b',g1,g2,g3,g4,g5⟩
   ·exact .inl ih
   ·exact .inr ⟨a',b',g1,g2,g3,by simp [g4],by simp [g5]⟩
theorem qo.mem {α β:Type}{R:α→β→Prop}{l:List α}{m:List β}(h:qo R l m):∀ a∈l,∃ b∈m,R a b:=by
 induction h using qo.ind with
 | nil=>simp
 | cons h1 _ ih =>
  intro a ha
  rcases List.mem_cons.1 ha with rfl | ha
  ·exact⟨_,by simp,h1⟩
  ·obtain⟨b,hb,hr⟩:=ih a ha
   exact⟨b,by simp [hb],hr⟩
theorem qo.map {α β γ:Type}{R:α→β→Prop}{l:List α}{m:List β}(h:qo R l m)(f:α→γ)(g:β→γ)(e:∀ a b,R a b→f a=g b):l.map f=m.map g:=by
 induction h using qo.ind with
 | nil=>rfl
 | cons h1 _ ih=>simp [ih,e _ _ h1]
theorem qo.tail {α β:Type}{R:α→β→Prop}{l:List α}{m:List β}(h:qo R l m):qo R l.tail m.tail:=by
 induction h using qo.ind with
 | nil=>exact .nil
 | cons _ h _=>exact h
abbrev zbe:Int:=9223372036854775807
def zs2 (w:World)(A:Nat→Prop)(v:Value)(f:Fl):Prop:=∃ fb xs,v=zt fb∧A fb∧zn w fb xs∧FOk xs∧j4 w xs f
def NdR (w:World)(A:Nat→Prop)(x:Nat×Pl×Value)(y:Pl×Fl):Prop:=x.2.1=y.1∧zs2 w A x.2.2 y.2
def zf0 (w:World)(A:Nat→Prop)(nm:Nat)(nd:Mm):Prop:=∃ LN,vt w A nm zbe LN∧qo (NdR w A) LN nd∧(LN.map (·.2.2)).Nodup
def PrR (w:World)(x:Nat×Pl×List Value)(y:Pl×Fl):Prop:=x.2.1=y.1∧∃ xs,x.2.2=fcs xs∧FOk xs∧j4 w xs y.2
def zgl (w:World)(OP:Nat→Prop)(pm:Nat)(room:Int)(pr:Mm):Prop:=∃ LP,zct w OP pm room LP∧qo (PrR w) LP pr
theorem zrz {a b:Nat}(h:zt a=zt b):a=b:=by
 unfold zt at h
 injection h with h
 injection h with h
 injection h
theorem zf0.get {w:World}{A:Nat→Prop}{nd:Mm}{LN:LsN}(h:qo (NdR w A) LN nd)(p:Pl):(LN.get p=none∧nd.get p=none)∨∃ b v f,LN.get p=some (b,v)∧nd.get p=some f∧zs2 w A v f∧(b,p,v)∈LN:=by
 rcases h.find (fun x=>decide (x.2.1=p)) (fun x=>decide (x.1=p)) (fun a b hr=>by rw [hr.1]) with ⟨h1,h2⟩ | ⟨a,b,h1,h2,h3,h4,h5⟩
 ·exact .inl ⟨by unfold LsN.get;rw [h1],by unfold Mm.get;rw [h2]⟩
 ·have:=List.find?_some h1
  simp only [decide_eq_true_eq] at this
  subst this
  exact .inr ⟨a.1,a.2.2,b.2,by unfold LsN.get;rw [h1],by unfold Mm.get;rw [h2],h3.2,h4⟩
theorem zgl.get {w:World}{LP:LsP}{pr:Mm}(h:qo (PrR w) LP pr)(p:Pl):(LP.get p=none∧pr.get p=none)∨∃ b xs f,LP.get p=some (b,fcs xs)∧pr.get p=some f∧FOk xs∧j4 w xs f:=by
 rcases h.find (fun x=>decide (x.2.1=p)) (fun x=>decide (x.1=p)) (fun a b hr=>by rw [hr.1]) with ⟨h1,h2⟩ | ⟨a,b,h1,h2,h3,h4,h5⟩
 ·exact .inl ⟨by unfold LsP.get;rw [h1],by unfold Mm.get;rw [h2]⟩
 ·obtain⟨h3,xs,e,h6,h7⟩:=h3
  exact .inr ⟨a.1,xs,b.2,by unfold LsP.get;rw [h1];show some (a.1,a.2.2)=_;rw [e],by unfold Mm.get;rw [h2],h6,h7⟩
theorem zs2.turn {w w':World}{O A A':Nat→Prop}{T:List Nat}{v:Value}{f:Fl}(h:zs2 w A v f)(ht:zf O T w w')(h1:zr∉T)(h2:5∉T)(hA:∀ k,A k→A' k):zs2 w' A' v f:=by
 obtain⟨fb,xs,e,h3,h4,h5,h6⟩:=h
 exact⟨fb,xs,e,hA _ h3,ht.keep h4 h1,h5,h6.turn ht h2⟩
theorem PrR.turn {w w':World}{O:Nat→Prop}{T:List Nat}{x:Nat×Pl×List Value}{y:Pl×Fl}(h:PrR w x y)(ht:zf O T w w')(h2:5∉T):PrR w' x y:=by
 obtain⟨h1,xs,e,h5,h6⟩:=h
 exact⟨h1,xs,e,h5,h6.turn ht h2⟩
theorem zgl.stay {w w':World}{O OP OP':Nat→Prop}{T:List Nat}{pm:Nat}{room:Int}{pr:Mm}(h:zgl w OP pm room pr)(ht:zf O T w w')(h1:∀ k,OP k→¬ O k)(h2:5∉T)(h3:∀ k,OP k→OP' k):zgl w' OP' pm room pr:=by
 obtain⟨LP,g1,g2⟩:=h
 exact⟨LP,g1.stay ht h1 h3,g2.mono fun a _ b hr=>hr.turn ht h2⟩
theorem zf0.stay {w w':World}{O A A':Nat→Prop}{T:List Nat}{nm:Nat}{nd:Mm}(h:zf0 w A nm nd)(ht:zf O T w w')(h1:∀ k,A k→¬ O k)(h2:5∉T)(h4:zr∉T)(h3:∀ k,A k→A' k):zf0 w' A' nm nd:=by
 obtain⟨LN,g1,g2,g3⟩:=h
 exact⟨LN,g1.stay ht h1 h3,g2.mono fun a _ b hr=>⟨hr.1,hr.2.turn ht h4 h2 h3⟩,g3⟩
structure CCs (C:Array Value)(nb pm nm:Nat):Prop where
 net:C[2]?=some (znk nb)
 prv:C[13]?=some (zt pm)
 nee:C[14]?=some (zt nm)
structure CS (W0 w:World)(O A OP:Nat→Prop)(cb nb db pm nm:Nat)(C:Array Value)(d:Dk)(room:Int)(pr:Mm)(m:Ms Nt)(k:Nat):Prop where
 base:Below W0.heap.size W0 w
 own:∀ b,O b∨A b→W0.heap.size≤b
 apart:∀ b,O b→¬ A b
 lt:∀ b,O b∨A b∨OP b→b < w.heap.size
 disk:zm w O db d
 net:j5 w O nb db m.net
 st:NSt d m.net
 few:m.net.fetches+2*k < 4611686018427387904
 cli:w.heap[cb]?=some (.cells C qw (0,0))
 cells:CCs C nb pm nm
 prv:zgl w OP pm room pr
 away:∀ b,OP b→¬(O b∨A b)
 nee:zf0 w A nm m.needed
 short:m.needed.length+k≤1000000000
abbrev qT:List Nat:=[85,3,LkN,zr]
def z7r (at_:Nat→Addr)(w':World)(o:Sum (List UInt8) Pc)(r:Ending):Prop :=
 (∃ x c,o= .inr c∧x.ok∧zcq w' x c∧r= .returned (.tuple #[.agg x.cs.toArray,.nilIface])) ∨
 (∃ p g,o= .inl p∧w'.heap[g]?=some (.cells #[txv p,jo at_ 5] 115 (0,0))∧r= .returned (.tuple #[.agg Px.no.cs.toArray,xm g]))
end
end Go.Proofs.YtinhekmmdlhfkaaGreatDoor
