import Derived.Test.YtinhekmmdlhfkaaGreatDoorG04
import Derived.Test.YtinhekmmdlhfkaaGreatDoorG03
import Derived.Deep.RegionWith
import Derived.Laws.ResultCell
namespace Go.Proofs.YtinhekmmdlhfkaaGreatDoor
section
open Go.RowKit
set_option maxRecDepth 100000
end
section
open Go.RowKit
set_option maxRecDepth 100000
theorem zmq:(Tryz.prog.info? 5).map (fun i=>(i.zero,i.size,i.bytes))=some (some (.int .u8 0),1,1):=by kernel_rfl
def OB (w:World)(B:Nat)(x:Value)(l:List UInt8):Prop:=w.ownsRow B 5 1 x l.length (l.map bv)∧x≠ .slice none 0 0
theorem OB.form {w:World}{B:Nat}{x:Value}{l:List UInt8}(h:OB w B x l):∃ g cap,x= .slice (some ⟨g,0,none⟩) l.length cap∧B≤g∧g < w.heap.size∧∀ i (hi:i < l.length),w.cell? ⟨g,i,none⟩=some (bv l[i]):=by
 rcases h.1.2 with h0 | ⟨g,cap,cur,rfl,hB,hg,hn,hm,hs,ht⟩
 ·exact absurd h0.1 h.2
 ·refine⟨g,cap,rfl,hB,xe hg,fun i hi=>?_⟩
  rw [cell_of_row _ _ _ _ _ _ hg]
  have e:(l.map bv)[i]?=some (bv l[i]):=by simp [hi]
  rw [← ht,List.getElem?_take,if_pos (by omega)] at e
  simpa using e
theorem OB.conv {w:World}{B:Nat}{x:Value}{l:List UInt8}(h:OB w B x l):(convert 76 9 x).run Tryz.prog w= .ok (txt l) w:=by
 obtain⟨g,cap,rfl,-,-,hc⟩:=h.form
 refine run_convert_bytes_back w _ _ 5 ⟨g,0,none⟩ cap l Tryz.underlying76 Tryz.underlying5 Tryz.underlying9 (fun j hj=>?_)
 rw [Addr.add_mid,Nat.zero_add]
 exact hc j hj
theorem OB.below {w w':World}{B:Nat}{x:Value}{l:List UInt8}(h:OB w B x l)(hb:Below w.heap.size w w'):OB w' B x l:=⟨yd h.1 hb,h.2⟩
theorem EB.cells {w:World}{B:Nat}{x:Value}{l:List UInt8}(h:EB w B x l):∃ g cap,x= .slice (some ⟨g,0,none⟩) l.length cap∧∀ i (hi:i < l.length),w.cell? ⟨g,i,none⟩=some (bv l[i]):=by
 obtain⟨g,cap,C,fr,rfl,hB,hg,hc,hf⟩:=h
 exact⟨g,cap,rfl,fun i hi=>by rw [cell_of_row _ _ _ _ _ _ hg];exact hc i hi⟩
theorem z7j {ls:List (List UInt8)}(h:4 < ls.length):okB ls=false:=by
 unfold okB;rw [show decide (ls.length≤4)=false by simp;omega];simp
theorem zs6 {ls:List (List UInt8)}(h:ls.length=0):okB ls=false:=by
 unfold okB;rw [h];rfl
theorem z26 {ls:List (List UInt8)}(k:Nat)(hk:k < ls.length)(h:20 < ls[k].length):okB ls=false:=by
 have:ls.all (fun l=>decide (l.length≤20))=false:=by
  rw [List.all_eq_false]
  exact⟨ls[k],List.getElem_mem hk,by simp;omega⟩
 unfold okB;rw [this];simp
theorem zub {ls:List (List UInt8)}(h1:1≤ls.length)(h4:ls.length≤4)(h:∀ j (hj:j < ls.length),ls[j].length≤20):okB ls=true:=by
 simp only [okB,Bool.and_eq_true,decide_eq_true_eq,List.all_eq_true]
 refine⟨h1,h4,fun s hs=>?_⟩
 obtain⟨j,hj,rfl⟩:=List.getElem_of_mem hs
 exact h j hj
theorem z1b (ls:List (List UInt8))(k:Nat)(hk:k < ls.length)(h:ls[k].length≤20):
  (zce (ls.take (k+1))).length=(zce (ls.take k)).length+1+ls[k].length∧(zce (ls.take (k+1))).map bv=(zce (ls.take k)).map bv++[.int .u8 (ls[k].length:Int)]++ls[k].map bv:=by
 rw [List.take_succ_eq_append_getElem hk,zeb,zjb,zsa]
 refine⟨by simp;omega,?_⟩
 have e:bv (UInt8.ofNat ls[k].length)= .int .u8 (ls[k].length:Int):=by
  unfold bv
  congr 1
  rw [UInt8.toNat_ofNat']
  omega
 rw [List.map_append,List.map_cons,e]
 simp
theorem zyw {w w2:World}{g:Nat}{l:List UInt8}(hs:∀ i (hi:i < l.length),w.cell? ⟨g,i,none⟩=some (bv l[i]))(hg:0 < l.length→g < w.heap.size)(hb:Below w.heap.size w w2)(j:Nat)(u:Value)(hj:(l.map bv)[j]?=some u):w2.cell? ((⟨g,0,none⟩:Addr).add j)=some u:=by
 have hjl:j < l.length:=by simpa using (List.getElem?_eq_some_iff.1 hj).1
 rw [Addr.add_mid,Nat.zero_add,hb.cell (p:=⟨g,j,none⟩) (hg (by omega)),hs j hjl]
 simpa [hjl] using hj
theorem z43 (l:List UInt8):∀ u∈l.map bv,u.oneCell'=true:=by
 intro u hu
 obtain⟨t,_,rfl⟩:=List.mem_map.1 hu
 rfl
end
section
open Go.RowKit
set_option maxRecDepth 100000
end
section
open Go.RowKit
set_option maxRecDepth 100000
def tb (l:List UInt8):ByteArray:=⟨l.toArray⟩
end
section
set_option maxHeartbeats 2000000
open Go.RowKit
set_option maxRecDepth 100000
theorem zew (a:Addr)(n c:Nat)(l:List UInt8)(w:World)(hl:l.length=n)(hn:n≤1000000)(hc:∀ j u,(l.map bv)[j]?=some u→w.cell? (a.add j)=some u):
  Calls Tryz.prog 49 #[.slice (some a) n c] w fun r w'=>∃ x,r= .returned x∧OB w' w.heap.size x l∧Below w.heap.size w w':=by
 obtain⟨i,hi,hi'⟩:=Option.map_eq_some_iff.1 zmq
 obtain⟨hz0,hz1,hz2⟩:i.zero=some (.int .u8 0)∧i.size=1∧i.bytes=1:=by simpa using hi'
 clear hi'
 have HI:=za hi
 have HZ:=za (And.intro hz0 (And.intro hz1 hz2))
 clear hi hz0 hz1 hz2
 have q:∀(w:World) (a:Option Addr) (n c n' c':Nat),(binOp .eql 76 (.slice a n c) (.slice none n' c')).run Tryz.prog w= .ok (.bool a.isNone) w:=fun w a n c n' c'=>Lib.run_eql_slice_nil w _ _ a n c n' c' Tryz.underlying76
 have HC:=za hc
 clear hc
 go_enter Tryz.func49,Tryz.ntmps49
 go_wp2_with (at_builtin;refine wpList_append_own _ rfl _ _ 76 rfl w.heap.size 5 i (.int .u8 0) 1 1 Tryz.underlying76 HI.o HZ.o.1 HZ.o.2.1 HZ.o.2.2 rfl (by decide) (.slice (some ⟨w.heap.size,0,none⟩) 0 0) 0 [] rfl (World.ownsRow_made w #[] 0 (Nat.le_refl _) (Nat.zero_le _) rfl) a n c (l.map bv) rfl (by simp;omega) (fun j u hj=>Lib.cell?_alloc_some _ (HC.o j u hj)) (z43 l) (by unfold maxLen;omega) (by omega) (by simp) ?_;intro v' w1 hown hgrow hnil;have HO:=za hown;have HG:=za hgrow;have HN:=za hnil;clear hown hgrow hnil)
 go_ret
 refine⟨v',rfl,⟨by have:=HO.o;rw [hl];simpa using this,fun e=>absurd (HN.o.1 e).1 (by simp)⟩,?_⟩
 exact((Below.refl _ w).alloc (Nat.le_refl _) _).grown HG.o (by simp) (by intro k hk;simp [Value.ownBlock] at hk;omega)
theorem OB.grown {w w':World}{B B':Nat}{x v:Value}{l:List UInt8}{n:Nat}{xs:List Value}(h:OB w B x l)(ho:w.ownsRow B' 76 1 v n xs)(hg':w.grownBy w' v.ownBlock):OB w' B x l:=by
 refine⟨⟨h.1.1,?_⟩,h.2⟩
 rcases h.1.2 with h0 | ⟨g,cap,cur,rfl,hB,hg,r⟩
 ·exact .inl h0
 ·refine .inr ⟨g,cap,cur,rfl,hB,?_,r⟩
  rw [hg'.block g (xe hg) ?_]
  ·exact hg
  ·intro hq
   rcases ho.2 with ⟨rfl,_⟩ | ⟨g',c',cur',rfl,_,hg2,_⟩
   ·simp [Value.ownBlock] at hq
   ·simp only [Value.ownBlock,Option.some.injEq] at hq
    subst hq
    rw [hg] at hg2
    simp at hg2
theorem OB.weaken {w:World}{B B':Nat}{x:Value}{l:List UInt8}(h:OB w B x l)(hB:B'≤B):OB w B' x l:=by
 refine⟨⟨h.1.1,?_⟩,h.2⟩
 rcases h.1.2 with h0 | ⟨g,cap,cur,rfl,hg,r⟩
 ·exact .inl h0
 ·exact .inr ⟨g,cap,cur,rfl,Nat.le_trans hB hg,r⟩
def OBs (w:World)(B:Nat)(v:Value)(ls:List (List UInt8)):Prop :=
 ∃ xs:List Value,w.ownsRow B 76 1 v ls.length xs∧∀ j (h:j < ls.length),∃ x,xs[j]?=some x∧OB w B x ls[j]
theorem OBs.nil (w:World)(B:Nat):OBs w B (.slice none 0 0) []:=⟨[],⟨rfl,.inl ⟨rfl,rfl⟩⟩,fun j hj=>by simp at hj⟩
theorem zmt {wr w1 w2:World}{B:Nat}{u x:Value}{xs:List Value}{ls:List (List UInt8)}{l:List UInt8}{g cap':Nat}{o:Obj}(hB:B≤wr.heap.size)(ho:wr.ownsRow B 76 1 u ls.length xs)
  (hx:∀ j (h:j < ls.length),∃ x,xs[j]?=some x∧OB wr B x ls[j])
  (hb1:Below wr.heap.size wr w1) (hl:OB w1 wr.heap.size x l)
  (hown:w2.ownsRow B 76 1 (.slice (some ⟨g,0,none⟩) (ls.length+1) cap') (ls.length+1) (xs++[x]))
  (hgrow:(w1.alloc o).grownBy w2 u.ownBlock) :
  OBs w2 B (.slice (some ⟨g,0,none⟩) (ls.length+1) cap') (ls++[l]):=by
 have hxl:xs.length=ls.length:=by rw [ho.1,Nat.mul_one]
 have ho1:(w1.alloc o).ownsRow B 76 1 u ls.length xs:=yd (yd ho hb1) (ze _ _)
 refine⟨xs++[x],by simpa using hown,fun j hj=>?_⟩
 by_cases hjl:j < ls.length
 ·obtain⟨y,e,hb⟩:=hx j hjl
  refine⟨y,by rw [List.getElem?_append_left (by omega)];exact e,?_⟩
  rw [List.getElem_append_left hjl]
  exact((hb.below hb1).below (ze _ _)).grown ho1 hgrow
 ·obtain rfl:j=ls.length:=by simp at hj;omega
  refine⟨x,by rw [List.getElem?_append_right (by omega),hxl];simp,?_⟩
  rw [List.getElem_append_right (Nat.le_refl _)]
  simp only [Nat.sub_self,List.getElem_cons_zero]
  exact((hl.weaken hB).below (ze _ _)).grown ho1 hgrow
theorem z56 {x:Value}{p q:Bool}(h:p=q):Ending.returned (.tuple #[x,.bool p])= .returned (.tuple #[x,.bool q]):=by rw [h]
def z4c (w:World)(v:Value)(r:List UInt8):Prop:=∃ a cap,v= .slice (some a) r.length cap∧r.length≤cap∧a.spot=none∧∀ i (h:i < r.length),w.cell? ⟨a.block,a.off+i,none⟩=some (bv r[i])
theorem zlq {w:World}{B:Nat}{x:Value}{l:List UInt8}(h:OB w B x l):∀ u∈[x],u.oneCell'=true:=by
 intro u hu
 obtain rfl:u=x:=by simpa using hu
 obtain⟨g,cap,rfl,-⟩:=h.form
 rfl
theorem z16 {wr:World}{a:Addr}{rr:List UInt8}(h:rr.length=0)(n:Nat):∀ j u,((rr.take n).map bv)[j]?=some u→wr.drew.cell? (a.add j)=some u:=by
 intro j u hj
 obtain rfl:rr=[]:=List.length_eq_zero_iff.1 h
 simp at hj
theorem zgb {w:World}{B:Nat}{x:Value}{l:List UInt8}(h:OB w B x l):∃ g c n,x= .slice (some ⟨g,0,none⟩) n c:=by
 obtain⟨g,cap,rfl,-⟩:=h.form
 exact⟨g,cap,_,rfl⟩
theorem z4l {acc:List (List UInt8)}{l:List UInt8}(h:∀ l∈acc,l.length≤20)(hl:l.length≤20):∀ m∈acc++[l],m.length≤20:=by
 intro m hm
 rcases List.mem_append.1 hm with h' | h'
 ·exact h m h'
 ·obtain rfl:m=l:=by simpa using h'
  exact hl
def z9n:Value→Nat
 | .slice _ n _=>n
 | _=>0
theorem zpp {w:World}{b off:Nat}{rr:List UInt8}(hs:∀ i (h:i < rr.length),w.cell? ⟨b,off+1+i,none⟩=some (bv rr[i]))(n cap' o':Nat)(hcap:rr.length - n≤cap')(ho:n < rr.length→o'=off+1+n):
  z4c w (.slice (some ⟨b,o',none⟩) (rr.length - n) cap') (rr.drop n):=by
 refine⟨⟨b,o',none⟩,cap',by rw [List.length_drop],by rw [List.length_drop];exact hcap,rfl,fun i hi=>?_⟩
 rw [List.length_drop] at hi
 obtain rfl:=ho (by omega)
 rw [List.getElem_drop]
 show w.cell? ⟨b,off+1+n+i,none⟩=_
 rw [Nat.add_assoc (off+1)]
 exact hs (n+i) (by omega)
theorem z3h {w:World}{b o:Nat}{l:List UInt8}(h:l.length=0):z4c w (.slice (some ⟨b,o,none⟩) 0 0) l :=
 ⟨⟨b,o,none⟩,0,by rw [h],by rw [h];exact Nat.le_refl _,rfl,fun i hi=>by omega⟩
theorem zl1 {w wr:World}{b off:Nat}{rr:List UInt8}(hs:∀ i (h:i < rr.length),w.cell? ⟨b,off+1+i,none⟩=some (bv rr[i]))(hb:Below w.heap.size w wr)(n:Nat):∀ j u,((rr.take n).map bv)[j]?=some u→wr.drew.cell? ((⟨b,off+1,none⟩:Addr).add j)=some u:=by
 intro j u hj
 have hjl:j < (rr.take n).length:=by simpa using (List.getElem?_eq_some_iff.1 hj).1
 have hjr:j < rr.length:=by simp at hjl;omega
 have hx:=hs j hjr
 rw [Addr.add_mid]
 show wr.cell? ⟨b,off+1+j,none⟩=_
 rw [hb.cell (p:=⟨b,off+1+j,none⟩) (zj (p:=⟨b,off+1+j,none⟩) hx),hx]
 rw [List.getElem?_map,List.getElem?_eq_getElem hjl,List.getElem_take] at hj
 simpa using hj
theorem z61 (v:Value)(d:List UInt8)(w:World)(h:z4c w v d):
  Calls Tryz.prog 119 #[v] w fun r w'=>∃ x,r= .returned (.tuple #[x,.bool (zch d).isSome])∧Below w.heap.size w w'∧OBs w' w.heap.size x ((zch d).getD []):=by
 obtain⟨i,hi,hi'⟩:=Option.map_eq_some_iff.1 zg5
 obtain⟨hz0,hz1,hz2⟩:i.zero=some (.slice none 0 0)∧i.size=1∧i.bytes=24:=by simpa using hi'
 clear hi'
 have HI:=za hi
 have HZ:=za (And.intro hz0 (And.intro hz1 hz2))
 clear hi hz0 hz1 hz2
 have HR0:=za h
 clear h
 go_enter Tryz.func119,Tryz.ntmps119
 go_wp2_with fail
 go_loopw [0,4] (fun t u wr=>∃(r:List UInt8) (acc:List (List UInt8)),z4c w t r∧Un d acc r∧Below w.heap.size w wr∧OBs wr w.heap.size u acc∧acc.length≤4∧∀ l∈acc,l.length≤20) (fun t _ _=>z9n t)
 case atStart=>exact⟨d,[],HR0.o,Un.start _,Below.refl _ _,OBs.nil _ _,Nat.zero_le _,fun l hl=>by simp at hl⟩
 case round =>
  obtain⟨r,acc,⟨⟨b,off,spot⟩,cap,rfl,hcap,hspot,hcell⟩,hun,hbe,hobs,h4,hall⟩:=hrel
  obtain rfl:spot=none:=hspot
  have HU:=za hun
  have HB:=za hbe
  have HA:=za hall
  have HC:=za hcell
  obtain⟨xs,ho,hxs⟩:=hobs
  have HO:=za ho
  have HX:=za hxs
  obtain⟨ae,ce,hue⟩:∃ ae ce,u4= .slice ae acc.length ce:=by
   rcases ho.2 with ⟨e,e0⟩ | ⟨g,cap,cur,e,_⟩
   ·exact⟨none,0,by rw [e,e0]⟩
   ·exact⟨_,_,e⟩
  subst hue
  have hlen:=hun.2
  clear hun hbe hall hcell ho hxs
  cases r with
  | nil =>
   by_cases h1:1≤acc.length
   ·have n1:(0:Int) < (acc.length:Int):=by omega
    have HR:=za (HU.o.end_ok (zub h1 h4 (fun j hj=>HA.o _ (List.getElem_mem hj)))).1
    have HD:=za (show decide (0 < acc.length)=true by simp;omega)
    go_wp2
    go_ret2
    exact⟨_,by rw [HR.o];exact z56 HD.o,HB.o,by rw [HR.o];exact⟨xs,HO.o,HX.o⟩⟩
   ·have h0:acc.length=0:=by omega
    have HR:=za (HU.o.end_not (zs6 h0))
    obtain rfl:acc=[]:=List.length_eq_zero_iff.1 h0
    go_wp2
    go_ret2
    exact⟨_,by rw [HR.o];rfl,HB.o,by rw [HR.o];exact⟨xs,HO.o,HX.o⟩⟩
  | cons c rr =>
   simp only [List.length_cons] at hcap hlen ⊢
   have hc0:=HC.o 0 (by simp)
   rw [Nat.add_zero] at hc0
   simp only [List.getElem_cons_zero] at hc0
   rw [← HB.o.cell (zj (p:=⟨b,off,none⟩) hc0)] at hc0
   unfold bv at hc0
   have hcl:=c.toNat_lt
   have HS:Hid (∀ i (h:i < rr.length),w.cell? ⟨b,off+1+i,none⟩=some (bv rr[i])):=fun i h=>by
    have:=HC.o (i+1) (by simp;omega)
    rw [show off+(i+1)=off+1+i by omega] at this
    simpa using this
   clear HC
   by_cases e4:acc.length=4
   ·have HR:=za (HU.o.many (by omega))
    have n4:((acc.length:Int)==4)=true:=by rw [beq_iff_eq];omega
    clear e4
    by_cases ec:cap=1
    ·subst ec
     go_wp2_with fail
     go_region
     all_goals go_wp2
     all_goals go_ret2
     all_goals exact⟨_,by rw [HR.o];rfl,HB.o.drew,by rw [HR.o];exact OBs.nil _ _⟩
    ·go_wp2_with fail
     go_region
     all_goals go_wp2
     all_goals go_ret2
     all_goals exact⟨_,by rw [HR.o];rfl,HB.o.drew,by rw [HR.o];exact OBs.nil _ _⟩
   ·have n4:((acc.length:Int)==4)=false:=by rw [beq_eq_false_iff_ne];omega
    by_cases e20:20 < c.toNat
    ·have HR:=za (HU.o.long e20)
     have n20:(20:Int) < (c.toNat:Int):=by omega
     by_cases ec:cap=1
     ·subst ec
      go_wp2_with fail
      go_region
      all_goals go_wp2
      all_goals go_ret2
      all_goals exact⟨_,by rw [HR.o];rfl,HB.o.drew,by rw [HR.o];exact OBs.nil _ _⟩
     ·go_wp2_with fail
      go_region
      all_goals go_wp2
      all_goals go_ret2
      all_goals exact⟨_,by rw [HR.o];rfl,HB.o.drew,by rw [HR.o];exact OBs.nil _ _⟩
    ·have n20:¬(20:Int) < (c.toNat:Int):=by omega
     by_cases hfit:c.toNat≤rr.length
     ·have nf:¬(rr.length:Int) < (c.toNat:Int):=by omega
      by_cases ec:cap=1
      ·have hr0:rr.length=0:=by omega
       have hc00:c.toNat=0:=by omega
       subst ec
       go_wp2_with fail
       go_region
       go_wp2_with fail
       refine(zew ⟨b,off,none⟩ 0 0 (rr.take c.toNat) wr.drew (by simp;omega) (by omega) (z16 (by omega) _)).mono ?_
       rintro r w1 ⟨x,rfl,hob,hb1⟩
       obtain⟨gx,cx,nx,rfl⟩:=zgb hob
       have HOB:=za hob
       have HB1:Hid (Below wr.heap.size wr w1):=Below.trans (Below.refl _ _).drew hb1
       have HOO:Hid (∀ o,(w1.alloc o).ownsRow w.heap.size 76 1 (.slice ae acc.length ce) acc.length xs):=fun o=>yd (yd HO.o HB1.o) (ze w1 o)
       have hsz:Hid (w.heap.size≤w1.heap.size):=Nat.le_trans HB.o.size HB1.o.size
       clear hob hb1
       go_wp2_with (at_builtin;(refine wpList_append_lies _ rfl _ _ _ rfl w.heap.size 76 i (.slice none 0 0) 1 24 Tryz.underlying107 HI.o HZ.o.1 HZ.o.2.1 HZ.o.2.2 rfl (by omega) (.slice ae acc.length ce) acc.length xs rfl (HOO.o _) ⟨w1.heap.size,0,none⟩ 1 1 [.slice (some ⟨gx,0,none⟩) nx cx] rfl rfl (World.news_of_block (heap_alloc_last _ _)) (zlq HOB.o) (by omega) (by unfold maxLen;omega) (by omega) (by have:=hsz.out;simp;omega) (w1.heap.size+1) (by simp) ?_;intro g' cap' w2 hown hgrow hat hltg;have HST:=za (zmt HB.o.size HO.o HX.o HB1.o HOB.o hown hgrow);have HB2:Hid (Below w.heap.size w w2):=((HB.o.trans (HB1.o.mono HB.o.size)).trans ((ze w1 _).mono hsz.out)).grown hgrow (by have:=hsz.out;simp;omega) (js HO.o);clear hgrow hat hltg hown))
       refine⟨⟨rr.drop c.toNat,acc++[rr.take c.toNat],z3h (by simp;omega),HU.o.step hfit,HB2.o,HST.o,by simp;omega,z4l HA.o (by simp;omega)⟩,by show 0 < _;simp [z9n]⟩
      ·by_cases ec2:cap - 1=c.toNat
       ·go_wp2_with fail
        go_region
        go_wp2_with fail
        refine(zew ⟨b,off+1,none⟩ c.toNat c.toNat (rr.take c.toNat) wr.drew (by simp;omega) (by omega) (zl1 HS.o HB.o _)).mono ?_
        rintro r w1 ⟨x,rfl,hob,hb1⟩
        obtain⟨gx,cx,nx,rfl⟩:=zgb hob
        have HOB:=za hob
        have HB1:Hid (Below wr.heap.size wr w1):=Below.trans (Below.refl _ _).drew hb1
        have HOO:Hid (∀ o,(w1.alloc o).ownsRow w.heap.size 76 1 (.slice ae acc.length ce) acc.length xs):=fun o=>yd (yd HO.o HB1.o) (ze w1 o)
        have hsz:Hid (w.heap.size≤w1.heap.size):=Nat.le_trans HB.o.size HB1.o.size
        clear hob hb1
        go_wp2_with (at_builtin;(refine wpList_append_lies _ rfl _ _ _ rfl w.heap.size 76 i (.slice none 0 0) 1 24 Tryz.underlying107 HI.o HZ.o.1 HZ.o.2.1 HZ.o.2.2 rfl (by omega) (.slice ae acc.length ce) acc.length xs rfl (HOO.o _) ⟨w1.heap.size,0,none⟩ 1 1 [.slice (some ⟨gx,0,none⟩) nx cx] rfl rfl (World.news_of_block (heap_alloc_last _ _)) (zlq HOB.o) (by omega) (by unfold maxLen;omega) (by omega) (by have:=hsz.out;simp;omega) (w1.heap.size+1) (by simp) ?_;intro g' cap' w2 hown hgrow hat hltg;have HST:=za (zmt HB.o.size HO.o HX.o HB1.o HOB.o hown hgrow);have HB2:Hid (Below w.heap.size w w2):=((HB.o.trans (HB1.o.mono HB.o.size)).trans ((ze w1 _).mono hsz.out)).grown hgrow (by have:=hsz.out;simp;omega) (js HO.o);clear hgrow hat hltg hown))
        refine⟨⟨rr.drop c.toNat,acc++[rr.take c.toNat],zpp HS.o c.toNat _ _ (by omega) (fun h=>by omega),HU.o.step hfit,HB2.o,HST.o,by simp;omega,z4l HA.o (by simp;omega)⟩,by show rr.length - c.toNat < rr.length+1;omega⟩
       ·go_wp2_with fail
        go_region
        go_wp2_with fail
        refine(zew ⟨b,off+1,none⟩ c.toNat (cap - 1) (rr.take c.toNat) wr.drew (by simp;omega) (by omega) (zl1 HS.o HB.o _)).mono ?_
        rintro r w1 ⟨x,rfl,hob,hb1⟩
        obtain⟨gx,cx,nx,rfl⟩:=zgb hob
        have HOB:=za hob
        have HB1:Hid (Below wr.heap.size wr w1):=Below.trans (Below.refl _ _).drew hb1
        have HOO:Hid (∀ o,(w1.alloc o).ownsRow w.heap.size 76 1 (.slice ae acc.length ce) acc.length xs):=fun o=>yd (yd HO.o HB1.o) (ze w1 o)
        have hsz:Hid (w.heap.size≤w1.heap.size):=Nat.le_trans HB.o.size HB1.o.size
        clear hob hb1
        go_wp2_with (at_builtin;(refine wpList_append_lies _ rfl _ _ _ rfl w.heap.size 76 i (.slice none 0 0) 1 24 Tryz.underlying107 HI.o HZ.o.1 HZ.o.2.1 HZ.o.2.2 rfl (by omega) (.slice ae acc.length ce) acc.length xs rfl (HOO.o _) ⟨w1.heap.size,0,none⟩ 1 1 [.slice (some ⟨gx,0,none⟩) nx cx] rfl rfl (World.news_of_block (heap_alloc_last _ _)) (zlq HOB.o) (by omega) (by unfold maxLen;omega) (by omega) (by have:=hsz.out;simp;omega) (w1.heap.size+1) (by simp) ?_;intro g' cap' w2 hown hgrow hat hltg;have HST:=za (zmt HB.o.size HO.o HX.o HB1.o HOB.o hown hgrow);have HB2:Hid (Below w.heap.size w w2):=((HB.o.trans (HB1.o.mono HB.o.size)).trans ((ze w1 _).mono hsz.out)).grown hgrow (by have:=hsz.out;simp;omega) (js HO.o);clear hgrow hat hltg hown))
        refine⟨⟨rr.drop c.toNat,acc++[rr.take c.toNat],zpp HS.o c.toNat _ _ (by omega) (fun h=>by omega),HU.o.step hfit,HB2.o,HST.o,by simp;omega,z4l HA.o (by simp;omega)⟩,by show rr.length - c.toNat < rr.length+1;omega⟩
     ·have nf:(rr.length:Int) < (c.toNat:Int):=by omega
      have HR:=za (HU.o.fail hfit)
      by_cases ec:cap=1
      ·subst ec
       go_wp2_with fail
       go_region
       all_goals go_wp2
       all_goals go_ret2
       all_goals exact⟨_,by rw [HR.o];rfl,HB.o.drew,by rw [HR.o];exact OBs.nil _ _⟩
      ·go_wp2_with fail
       go_region
       all_goals go_wp2
       all_goals go_ret2
       all_goals exact⟨_,by rw [HR.o];rfl,HB.o.drew,by rw [HR.o];exact OBs.nil _ _⟩
end
section
set_option maxHeartbeats 1000000
open Go.RowKit
set_option maxRecDepth 100000
structure Lg where
 key:List UInt8
 es:List (List UInt8)
 put:Nat
 live:Bool
def stV (db:Nat)(live:Bool):Value:=if live then .iface 25 (vv db) else .nilIface
def zck (db:Nat)(ev:Value)(l:Lg):Array Value:=#[stV db l.live,txv l.key,ev,.int .i64 l.put]
def xk (w:World)(O:Nat→Prop)(db b:Nat)(l:Lg):Prop :=
 ∃ ev,O b∧w.heap[b]?=some (.cells (zck db ev l) 109 (0,0))∧OBs w 0 ev l.es∧∀ g,ev.ownBlock=some g→O g
theorem zes {d:Dk}{p:List UInt8}{w:World}{v:Value}(h:(bad d=false∧∃ x,zx d.fs p=some x∧Bq w v x)∨((bad d=true∨zx d.fs p=none)∧v= .slice none 0 0)):∃ a n c,v= .slice a n c:=by
 rcases h with ⟨-,x,-,g,cap,C,fr,rfl,-⟩ | ⟨-,rfl⟩
 ·exact⟨_,_,_,rfl⟩
 ·exact⟨_,_,_,rfl⟩
theorem z2t (n:Nat)(v:Value)(w:World):(method (n+1) 25 v "Get").run Tryz.prog w= .ok (233,v) w:=by kernel_rfl
theorem z12 (n:Nat)(v:Value)(w:World):(method (n+1) 25 v "Put").run Tryz.prog w= .ok (234,v) w:=by kernel_rfl
theorem zx5 (n:Nat)(v:Value)(w:World):(method (n+1) 25 v "Swap").run Tryz.prog w= .ok (235,v) w:=by kernel_rfl
theorem z33 (O:Nat→Prop)(db lb B1 B2 B3:Nat)(d:Dk)(p:List UInt8)(u:Value)(w:World)(hn:d.fs.length≤1000000000)(hl:∀ f∈d.fs,f.2.length≤1000000000)(h:zm w O db d)
  (h1:w.cell? ⟨B1,0,none⟩=some (.pointer (some ⟨lb,0,none⟩))) (h2:w.cell? ⟨B2,0,none⟩=some (txv p)) (h3:w.heap[B3]?=some (.cells #[u] 76 (0,0))) (hst:w.cell? ⟨lb,0,none⟩=some (stV db true)) :
  Calls Tryz.prog 117 #[.pointer (some ⟨B1,0,none⟩),.pointer (some ⟨B2,0,none⟩),.pointer (some ⟨B3,0,none⟩)] w fun r w2=>∃ v e w',r= .returned e∧w2=w'.setCell ⟨B3,0,none⟩ v∧zcc (bad d) w.heap.size e w'∧zf O dT1 w w'∧zm w' O db (ye d) ∧
   ((bad d=false∧∃ x,zx d.fs p=some x∧Bq w' v x)∨((bad d=true∨zx d.fs p=none)∧v= .slice none 0 0)):=by
 unfold stV vv at hst
 simp only [if_true] at hst
 unfold txv at h2
 obtain⟨k3,z3⟩:=zg h3 0 u rfl
 have HD:=za h
 have H3:=za h3
 have HL:=za hl
 clear h h3 hl
 go_enter Tryz.func117,Tryz.ntmps117
 go_wp2_with fail
 have hm:=z2t
 go_region_with (go_at_call 233;refine(z6o O db d p _ hn HL.o (by exact HD.o)).mono ?_;rintro r w1 ⟨v,e,rfl,ho,ht,hd,hv⟩;obtain⟨a,n,c,rfl⟩:=zes hv;have HO:=za ho;have HT:=za ht;have HDD:=za hd;have HV:=za hv;obtain⟨k4,z4⟩:=zg (ht.keep (k:=B3) H3.o (by decide)) 0 u rfl;clear ho ht hd hv)
 all_goals go_wp2
 all_goals go_ret
 all_goals exact⟨_,_,w1,rfl,rfl,HO.o,HT.o.undrew,HDD.o,HV.o⟩
def zvv (w:World)(g:Nat)(p:List UInt8):Prop:=∃ g',w.heap[g]?=some (.cells #[txv p,zar g'] 115 (0,0))∧zng w g'
def zbd (e:Bool)(p:List UInt8)(B:Nat)(r:Value)(w:World):Prop:=(e=false∧r= .nilIface)∨(e=true∧∃ g,r=xm g∧B≤g∧zvv w g p)
theorem zng.turn {w w':World}{O:Nat→Prop}{T:List Nat}{g:Nat}(h:zng w g)(ht:zf O T w w')(hT:353∉T):zng w' g:=by
 obtain⟨c,h⟩:=h
 exact⟨c,ht.keep h hT⟩
theorem zvv.turn {w w':World}{O:Nat→Prop}{T:List Nat}{g:Nat}{p:List UInt8}(h:zvv w g p)(ht:zf O T w w')(hT:353∉T)(hT':115∉T):zvv w' g p:=by
 obtain⟨g',h,h'⟩:=h
 exact⟨g',ht.keep h hT',h'.turn ht hT⟩
theorem zkl {e:Bool}{B:Nat}{r:Value}{w:World}(h:zcc e B r w):r= .nilIface∨∃ g,r=zar g:=by
 rcases h with ⟨-,rfl⟩ | ⟨-,g,rfl,-⟩
 ·exact .inl rfl
 ·exact .inr ⟨g,rfl⟩
abbrev cT:List Nat:=[76,70]
theorem vq {w:World}{b:Nat}{cs:Array Value}{t:TypeId}(hb:w.heap[b]?=some (.cells cs t (0,0)))(ht:t∈cT)(u:Value):zf (fun _=>True) cT w (w.setCell ⟨b,0,none⟩ u):=(zf.refl _ _ w).set (.inl trivial) hb ht u
theorem zp2 (w:World)(o1 o2 o3:Obj):(((w.alloc o1).alloc o2).alloc o3).heap.size=w.heap.size+3∧(((w.alloc o1).alloc o2).alloc o3).heap[w.heap.size]?=some o1∧(((w.alloc o1).alloc o2).alloc o3).heap[w.heap.size+1]?=some o2∧(((w.alloc o1).alloc o2).alloc o3).heap[w.heap.size+1+1]?=some o3∧Below w.heap.size w (((w.alloc o1).alloc o2).alloc o3):=by
 have e1:(w.alloc o1).heap.size=w.heap.size+1:=by simp
 have e2:((w.alloc o1).alloc o2).heap.size=w.heap.size+1+1:=by simp
 refine⟨by simp,zc (zc (heap_alloc_last _ _)),?_,?_,?_⟩
 ·rw [← e1];exact zc (heap_alloc_last _ _)
 ·rw [← e2];exact heap_alloc_last _ _
 ·exact((ze w o1).trans ((ze _ o2).mono (by simp))).trans ((ze _ o3).mono (by simp;omega))
theorem zd7 {w:World}{b k:Nat}{u:Value}{o:Obj}(h:w.heap[k]?=some o)(hne:k≠b):(w.setCell ⟨b,0,none⟩ u).heap[k]?=some o:=by rw [heap_setCell_other _ _ _ _ hne];exact h
theorem zjm (O:Nat→Prop)(db lb:Nat)(d:Dk)(p:List UInt8)(w:World)(hn:d.fs.length≤1000000000)(hl:∀ f∈d.fs,f.2.length≤1000000000)(h:zm w O db d)(hst:w.cell? ⟨lb,0,none⟩=some (stV db true)):
  Calls Tryz.prog 69 #[.pointer (some ⟨lb,0,none⟩),txv p] w fun r w'=>∃ v e,r= .returned (.tuple #[v,e])∧zbd (bad d) p w.heap.size e w'∧zf O dT1 w w'∧zm w' O db (ye d) ∧
   ((bad d=false∧∃ x,zx d.fs p=some x∧Bq w' v x)∨((bad d=true∨zx d.fs p=none)∧v= .slice none 0 0)):=by
 have hmf:∀(fn:Fn) (first cap:Array Value) (w:World),(Instr.makeFunc fn first cap).run Tryz.prog w= .ok (.func fn first cap) w:=fun _ _ _ _=>rfl
 have eg:∀ args w,(callFunc 117 args).run Tryz.prog w= .ok (.enter 117 args) w:=enters_of Tryz.func117 (by kernel_rfl) rfl
 have HD:=za h
 have HL:=za hl
 have HS:=za hst
 clear h hl hst
 have htx:txv p= .string ⟨p.toArray⟩:=rfl
 rw [htx]
 go_enter Tryz.func69,Tryz.ntmps69
 go_wp2_with fail
 obtain⟨s3,p1,p2,p3,hb3⟩:=zp2 w (.cells #[.pointer (some ⟨lb,0,none⟩)] 68) (.cells #[.string ⟨p.toArray⟩] 9) (.cells #[.slice none 0 0] 76)
 generalize (((w.alloc (.cells #[.pointer (some ⟨lb,0,none⟩)] 68)).alloc (.cells #[.string ⟨p.toArray⟩] 9)).alloc (.cells #[.slice none 0 0] 76))=W3 at *
 have HB3:=za hb3
 have P3:=za p3
 have S3:=za s3
 have hcall:=z33 O db lb w.heap.size (w.heap.size+1) (w.heap.size+1+1) d p (.slice none 0 0) (W3.alloc (.cells #[.nilIface] 70)) hn HL.o
  (HD.o.stay (O1:=fun _=>False) (T:=[]) ((zf.of_below hb3).alloc _) (by simp) (by simp))
  (zg (zc p1) 0 _ rfl).1 (zg (zc p2) 0 _ rfl).1 (zc p3) (by rw [zk _ _ ⟨_,0,none⟩ (Nat.lt_of_lt_of_le (zj HS.o) hb3.size),hb3.cell (p:=⟨lb,0,none⟩) (zj HS.o)];exact HS.o)
 have H0:Hid ((W3.alloc (.cells #[.nilIface] 70)).heap[W3.heap.size]?=some (.cells #[.nilIface] 70 (0,0))):=heap_alloc_last _ _
 have hW:Hid ((W3.alloc (.cells #[.nilIface] 70)).heap.size=W3.heap.size+1):=by show _=_;simp
 have hbl:Hid (Below w.heap.size w (W3.alloc (.cells #[.nilIface] 70))):=hb3.alloc (by omega) _
 have P4:Hid ((W3.alloc (.cells #[.nilIface] 70)).heap[w.heap.size+1+1]?=some (.cells #[.slice none 0 0] 76 (0,0))):=zc p3
 refine(zq1 p 117 _ W3 (fun e w2=>∃ v w',w2=w'.setCell ⟨w.heap.size+1+1,0,none⟩ v∧zcc (bad d) (W3.alloc (.cells #[.nilIface] 70)).heap.size e w'∧zf O dT1 (W3.alloc (.cells #[.nilIface] 70)) w'∧zm w' O db (ye d)∧((bad d=false∧∃ x,zx d.fs p=some x∧Bq w' v x)∨((bad d=true∨zx d.fs p=none)∧v= .slice none 0 0))) eg
  (hcall.mono (by rintro r w2 ⟨v,e,w',rfl,h⟩;exact⟨e,rfl,v,w',h⟩)) ?_).mono ?_
 ·rintro e w2 ⟨v,w',rfl,ho,ht,-⟩
  exact⟨zkl ho,zd7 (ht.keep H0.o (by decide)) (by have:=S3.out;omega)⟩
 clear hcall p1 p2 p3 hb3 s3
 generalize W3.alloc (.cells #[.nilIface] 70)=W4 at *
 rintro r w5 ⟨e,w2,⟨v,w',rfl,ho,ht,hd,hv⟩,h⟩
 obtain⟨a,n,c,rfl⟩:=zes hv
 have q3:=ht.keep P4.out (by decide)
 have q0:=ht.keep H0.o (by decide)
 have tw:zf O dT1 w w':=(zf.of_below hbl.out).trans (ht.mono (fun _ h=> .inl h) (fun _ h=>h))
 have hsz:W3.heap.size≠w.heap.size+1+1:=by have:=S3.out;omega
 have hsz':w.heap.size≤W3.heap.size:=by have:=S3.out;omega
 have r3:=qj q3 0 (.slice a n c)
 have r0:=zd7 (u:= .slice a n c) q0 hsz
 have tA:zf (fun _=>True) cT w' (w'.setCell ⟨w.heap.size+1+1,0,none⟩ (.slice a n c)):=vq q3 (by decide) _
 rcases h with ⟨rfl,rfl,rfl⟩ | ⟨⟨g',rfl⟩,rfl,rfl⟩
 ·have hbd:bad d=false:=by
   rcases ho with ⟨h,-⟩ | ⟨-,g,h,-⟩
   ·exact h
   ·simp [zar] at h
  have tB:=vq r0 (by decide) .nilIface
  have r3':=zd7 (u:= .nilIface) r3 (Ne.symm hsz)
  have tC:=vq r3' (by decide) (.slice a n c)
  have rf:=qj r3' 0 (.slice a n c)
  have HFIN:Hid (zbd (bad d) p w.heap.size .nilIface (((w'.setCell ⟨w.heap.size+1+1,0,none⟩ (.slice a n c)).setCell ⟨W3.heap.size,0,none⟩ .nilIface).setCell ⟨w.heap.size+1+1,0,none⟩ (.slice a n c))∧zf O dT1 w (((w'.setCell ⟨w.heap.size+1+1,0,none⟩ (.slice a n c)).setCell ⟨W3.heap.size,0,none⟩ .nilIface).setCell ⟨w.heap.size+1+1,0,none⟩ (.slice a n c))∧zm (((w'.setCell ⟨w.heap.size+1+1,0,none⟩ (.slice a n c)).setCell ⟨W3.heap.size,0,none⟩ .nilIface).setCell ⟨w.heap.size+1+1,0,none⟩ (.slice a n c)) O db (ye d) ∧
   ((bad d=false∧∃ x,zx d.fs p=some x∧Bq (((w'.setCell ⟨w.heap.size+1+1,0,none⟩ (.slice a n c)).setCell ⟨W3.heap.size,0,none⟩ .nilIface).setCell ⟨w.heap.size+1+1,0,none⟩ (.slice a n c)) (.slice a n c) x)∨((bad d=true∨zx d.fs p=none)∧Value.slice a n c= .slice none 0 0))):=by
   refine⟨.inl ⟨hbd,rfl⟩,((tw.setNew (by omega) _ _).setNew hsz' _ _).setNew (by omega) _ _,((hd.stay tA (by decide) (by decide)).stay tB (by decide) (by decide)).stay tC (by decide) (by decide),?_⟩
   rcases hv with ⟨h1,x,h2,h3⟩ | h
   ·exact .inl ⟨h1,x,h2,((h3.turn tA (by decide)).turn tB (by decide)).turn tC (by decide)⟩
   ·exact .inr h
  obtain⟨kc,kz⟩:=zg r3' 0 (.slice a n c) rfl
  have HRF:=za (zg rf 0 (.slice a n c) rfl).1
  clear tA tB tC tw ho ht hd hv q3 q0 r3 r0 r3' rf hbl H0 P4 P3 HB3 HS HL HD
  go_wp2_with fail
  refine bodyPost_ret (v:= .tuple #[.slice a n c,.nilIface]) ?_ rfl ⟨_,_,rfl,HFIN.o⟩
  simp [results,Tryz.results69,go_sem,HRF.o]
 ·have hbd:bad d=true:=by
   rcases ho with ⟨-,h⟩ | ⟨h,-⟩
   ·simp [zar] at h
   ·exact h
  have herr:zng w' g':=by
   rcases ho with ⟨-,h⟩ | ⟨-,g,h,-,h'⟩
   ·simp [zar] at h
   ·simp [zar] at h
    exact h▸h'
  have hsw:(w'.setCell ⟨w.heap.size+1+1,0,none⟩ (.slice a n c)).heap.size=w'.heap.size:=by simp [World.setCell]
  rw [hsw]
  have hpe:((w'.setCell ⟨w.heap.size+1+1,0,none⟩ (.slice a n c)).alloc (.cells #[txv p,zar g'] 115)).heap[w'.heap.size]?=some (.cells #[txv p,zar g'] 115 (0,0)):=by rw [← hsw];exact heap_alloc_last _ _
  have tP:zf (fun _=>True) cT (w'.setCell ⟨w.heap.size+1+1,0,none⟩ (.slice a n c)) ((w'.setCell ⟨w.heap.size+1+1,0,none⟩ (.slice a n c)).alloc (.cells #[txv p,zar g'] 115)):=(zf.refl _ _ _).alloc _
  have r0':=zc (o:= .cells #[txv p,zar g'] 115) r0
  have r3a:=zc (o:= .cells #[txv p,zar g'] 115) r3
  have tB:=vq r0' (by decide) (xm w'.heap.size)
  have r3':=zd7 (u:=xm w'.heap.size) r3a (Ne.symm hsz)
  have tC:=vq r3' (by decide) (.slice a n c)
  have rf:=qj r3' 0 (.slice a n c)
  have hlw:w.heap.size≤w'.heap.size:=tw.size
  have HFIN:Hid (zbd (bad d) p w.heap.size (xm w'.heap.size) ((((w'.setCell ⟨w.heap.size+1+1,0,none⟩ (.slice a n c)).alloc (.cells #[txv p,zar g'] 115)).setCell ⟨W3.heap.size,0,none⟩ (xm w'.heap.size)).setCell ⟨w.heap.size+1+1,0,none⟩ (.slice a n c))∧zf O dT1 w ((((w'.setCell ⟨w.heap.size+1+1,0,none⟩ (.slice a n c)).alloc (.cells #[txv p,zar g'] 115)).setCell ⟨W3.heap.size,0,none⟩ (xm w'.heap.size)).setCell ⟨w.heap.size+1+1,0,none⟩ (.slice a n c))∧zm ((((w'.setCell ⟨w.heap.size+1+1,0,none⟩ (.slice a n c)).alloc (.cells #[txv p,zar g'] 115)).setCell ⟨W3.heap.size,0,none⟩ (xm w'.heap.size)).setCell ⟨w.heap.size+1+1,0,none⟩ (.slice a n c)) O db (ye d) ∧
   ((bad d=false∧∃ x,zx d.fs p=some x∧Bq ((((w'.setCell ⟨w.heap.size+1+1,0,none⟩ (.slice a n c)).alloc (.cells #[txv p,zar g'] 115)).setCell ⟨W3.heap.size,0,none⟩ (xm w'.heap.size)).setCell ⟨w.heap.size+1+1,0,none⟩ (.slice a n c)) (.slice a n c) x)∨((bad d=true∨zx d.fs p=none)∧Value.slice a n c= .slice none 0 0))):=by
   refine⟨.inr ⟨hbd,w'.heap.size,rfl,hlw,g',?_,?_⟩,(((tw.setNew (by omega) _ _).alloc _).setNew hsz' _ _).setNew (by omega) _ _,(((hd.stay tA (by decide) (by decide)).stay tP (by decide) (by decide)).stay tB (by decide) (by decide)).stay tC (by decide) (by decide),?_⟩
   ·exact tC.keep (tB.keep hpe (by decide)) (by decide)
   ·exact(((herr.turn tA (by decide)).turn tP (by decide)).turn tB (by decide)).turn tC (by decide)
   ·rcases hv with ⟨h1,x,h2,h3⟩ | h
    ·rw [hbd] at h1;simp at h1
    ·exact .inr h
  obtain⟨kc,kz⟩:=zg r3' 0 (.slice a n c) rfl
  have HRF:=za (zg rf 0 (.slice a n c) rfl).1
  clear tA tB tC tP tw ho ht hd hv q3 q0 r3 r0 r3' r3a r0' rf hbl H0 P4 P3 HB3 HS HL HD hpe herr hsw
  unfold txv xm zar at *
  go_wp2_with fail
  refine bodyPost_ret (v:= .tuple #[.slice a n c,.iface 113 (.pointer (some ⟨w'.heap.size,0,none⟩))]) ?_ rfl ⟨_,_,rfl,HFIN.o⟩
  simp [results,Tryz.results69,go_sem,HRF.o]
end
end Go.Proofs.YtinhekmmdlhfkaaGreatDoor
