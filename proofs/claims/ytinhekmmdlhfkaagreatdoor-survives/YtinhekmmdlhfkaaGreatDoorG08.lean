import Derived.Test.YtinhekmmdlhfkaaGreatDoorG07
import Derived.Test.YtinhekmmdlhfkaaGreatDoorG06
import Derived.Test.YtinhekmmdlhfkaaGreatDoorG03
import Derived.Test.YtinhekmmdlhfkaaGreatDoorG02
import Derived.WalkSmall
import Derived.Lib.ItoaLen
import Derived.Test.YtinhekmmdlhfkaaGreatDoorG05
namespace Go.Proofs.YtinhekmmdlhfkaaGreatDoor
section
open Go.RowKit
set_option maxRecDepth 100000
theorem zql:Tryz.prog.globalNamed "internal/strconv.uint64pow10"=some 13:=by kernel_rfl
structure Env (w:World):Prop where
 tab:Lib.TabIs Tryz.prog w "internal/strconv.uint64pow10" .u64 Lib.pow10Tab
 syn:∃ tp p,w.cell? ⟨8,0,none⟩=some (.iface tp p)
 rng:∃ tp p,w.cell? ⟨9,0,none⟩=some (.iface tp p)
 max:∃ m,w.cell? ⟨12,0,none⟩=some (.int .i64 m)
theorem z78 {w:World}{n:String}{g:Nat}{cs:Array Value}(hg:Tryz.prog.globalNamed n=some g)(h:w.var? Tryz.prog n=some cs):g < w.heap.size:=by
 unfold World.var? at h
 rw [hg] at h
 simp only [Option.bind_some] at h
 rcases Nat.lt_or_ge g w.heap.size with h' | h'
 ·exact h'
 ·simp [Array.getElem?_eq_none h'] at h
theorem Env.below {w w':World}(h:Env w)(hb:Below w.heap.size w w'):Env w':=by
 obtain⟨tp,p,hs⟩:=h.syn
 obtain⟨tp',p',hr⟩:=h.rng
 obtain⟨m,hm⟩:=h.max
 exact⟨var?_below hb zql (z78 zql h.tab) h.tab,⟨tp,p,by rw [hb.cell (zj hs)];exact hs⟩,⟨tp',p',by rw [hb.cell (zj hr)];exact hr⟩,⟨m,by rw [hb.cell (zj hm)];exact hm⟩⟩
theorem zvm (w:World)(k:Nat)(os:Array Obj):Below w.heap.size w (Sort.grow (w.drewN k) os) :=
 ⟨rfl,rfl,rfl,by simp [Sort.grow,World.drewN],fun j hj=>by
  show(w.heap++os)[j]?=w.heap[j]?
  rw [Array.getElem?_append_left hj]⟩
theorem zry (w:World)(e:TypeId)(s:ByteArray):Below w.heap.size w (Lib.bytesWorld w e s) :=
 ⟨rfl,rfl,rfl,by rw [Lib.bytesWorld_size];omega,fun j hj=>Lib.bytesWorld_at_old w e s j hj⟩
theorem zbc (n:Int)(h0:0≤n)(h1:n≤9223372036854775807)(w:World)(E:Env w):
  Calls Tryz.prog 118 #[.int .i64 n] w fun r w'=>r= .returned (.string ⟨(dec n.toNat).toArray⟩)∧Below w.heap.size w w':=by
 refine(show Calls Tryz.prog 118 #[.int .i64 n] w _ from Any.strconv_Itoa Tryz.laysM171 n (by omega) h1 w E.tab).mono ?_
 rintro r w' ⟨rfl,k,os,rfl⟩
 refine⟨?_,zvm w k os⟩
 rw [Lib.itoa,if_neg (by omega)]
 rfl
theorem zyl (l:List UInt8)(hl:l.length≤1000000000)(w:World)(E:Env w):
  Calls Tryz.prog 138 #[.string ⟨l.toArray⟩] w fun r w'=>∃ v e,r= .returned (.tuple #[.int .i64 v,e])∧((e= .nilIface∧v=zeu l)∨((∃ t p,e= .iface t p)∧zeu l=-1))∧Below w.heap.size w w':=by
 have hsz:(⟨l.toArray⟩:ByteArray).size=l.length:=rfl
 cases h:Lib.atoiAll l
 ·rename_i v
  refine(show Calls Tryz.prog 138 #[.string ⟨l.toArray⟩] w _ from Any.strconv_Atoi_ok Tryz.laysC172 ⟨l.toArray⟩ (by omega) v h w).mono ?_
  rintro r w' ⟨rfl,hw⟩
  refine⟨v,.nilIface,rfl,.inl ⟨rfl,by unfold zeu;rw [h]⟩,?_⟩
  rcases hw with rfl | ⟨t,rfl⟩
  ·exact Below.refl _ _
  ·exact zry w _ t
 ·obtain⟨tp,p,hs⟩:=E.syn
  refine(show Calls Tryz.prog 138 #[.string ⟨l.toArray⟩] w _ from Any.strconv_Atoi_syntax Tryz.laysC172 ⟨l.toArray⟩ (by omega) h (.iface tp p) w hs (.inr ⟨tp,p,rfl⟩)).mono ?_
  rintro r w' ⟨N,rfl,-,-,hb⟩
  exact⟨_,_,rfl,.inr ⟨⟨_,_,rfl⟩,by unfold zeu;rw [h]⟩,hb⟩
 ·obtain⟨tp,p,hs⟩:=E.rng
  refine(show Calls Tryz.prog 138 #[.string ⟨l.toArray⟩] w _ from Any.strconv_Atoi_range Tryz.laysC172 ⟨l.toArray⟩ (by omega) h (.iface tp p) w hs (.inr ⟨tp,p,rfl⟩)).mono ?_
  rintro r w' ⟨N,rfl,-,-,hb⟩
  exact⟨_,_,rfl,.inr ⟨⟨_,_,rfl⟩,by unfold zeu;rw [h]⟩,hb⟩
theorem ztr (l:List UInt8)(hl:l.length≤1000000000)(w:World)(E:Env w):
  Calls Tryz.prog 94 #[.string ⟨l.toArray⟩] w fun r w'=>r= .returned (.int .i64 (zeu l))∧Below w.heap.size w w':=by
 have HE:=za E
 clear E
 go_enter Tryz.func94,Tryz.ntmps94
 go_wp2_with fail
 refine(zyl l hl w HE.o).mono ?_
 rintro r w' ⟨v,e,rfl,he,hb⟩
 have HB:=za hb
 clear hb
 rcases he with ⟨rfl,rfl⟩ | ⟨⟨t,p,rfl⟩,hn⟩
 ·go_wp2
  go_ret
  exact⟨rfl,HB.o⟩
 ·have HN:=za hn
  clear hn
  go_wp2
  go_ret
  exact⟨by rw [HN.o];rfl,HB.o⟩
end
section
set_option maxHeartbeats 1000000
open Go.RowKit
set_option maxRecDepth 100000
theorem zbf (n:Int)(h0:0≤n)(h1:n≤9223372036854775807):(dec n.toNat).length≤21:=by
 have:=Lib.itoa_length_le n (by omega) h1
 rw [Lib.itoa,if_neg (by omega)] at this
 exact this
theorem zji {a b:ByteArray}(h:a=b):Ending.returned (.string a)= .returned (.string b):=by rw [h]
theorem z3g (l i w:Int)(hb:jz l i w)(W:World):
  Calls Tryz.prog 70 #[.int .i64 l,.int .i64 i,.int .i64 w] W fun r w'=>r= .returned (.string ⟨(yr l i w).toArray⟩)∧Below W.heap.size W w':=by
 rw [zzg hb]
 unfold jz at hb
 go_enter Tryz.func70,Tryz.ntmps70
 go_wp2_with fail
 all_goals first | (go_ret;exact⟨rfl,Below.refl _ _⟩) | (exfalso;omega)
theorem zis (l i w:Int)(hi:i≤9223372036854775807)(W:World)(E:Env W):
  Calls Tryz.prog 70 #[.int .i64 l,.int .i64 i,.int .i64 w] W fun r w'=>r= .returned (.string ⟨(yr l i w).toArray⟩)∧Below W.heap.size W w':=by
 by_cases hb:jz l i w
 ·exact z3g l i w hb W
 have HN:=za (zdq hb)
 have hb':=hb
 unfold jz at hb'
 have n1:¬ l < -1:=by omega
 have n2:¬ 20 < l:=by omega
 have n3:¬ i < 0:=by omega
 have n4:¬ w < 1:=by omega
 have n5:¬ 4 < w:=by omega
 have HE:=za E
 have hdi:=zbf i (by omega) hi
 have hdw:=zbf w (by omega) (by omega)
 clear hb hb' E
 by_cases hl:l=-1
 ·subst hl
  have Hh:=za zhh
  by_cases hw:w < 4
  ·skip
   have Ht:Hid (zcp w=zeq++dec w.toNat):=by show _=_;unfold zcp;rw [if_pos hw]
   go_enter Tryz.func70,Tryz.ntmps70
   go_wp2_with fail
   refine(zbc i (by omega) hi W HE.o).mono ?_
   rintro r w1 ⟨rfl,hb1⟩
   have HB1:Hid (Below W.heap.size W w1):=hb1
   clear hb1
   generalize dec i.toNat=di at *
   have b1:¬ 9223372036854775807 < 8+di.length:=by omega
   go_wp2_with fail
   refine(zbc w (by omega) (by omega) w1 (HE.o.below HB1.o)).mono ?_
   rintro r w2 ⟨rfl,hb2⟩
   have HB2:Hid (Below W.heap.size W w2):=HB1.o.trans (hb2.mono HB1.o.size)
   clear hb2
   generalize dec w.toNat=dw at *
   have b2:¬ 9223372036854775807 < 3+dw.length:=by omega
   have b3:¬ 9223372036854775807 < 8+di.length+(3+dw.length):=by omega
   go_wp2_with fail
   go_ret
   refine⟨?_,HB2.o⟩
   rw [HN.o,Hh.o,Ht.o]
   exact zji (by unfold zld zeq;apply ByteArray.ext;simp)
  ·skip
   have Ht:Hid (zcp w=[]):=by show _=_;unfold zcp;rw [if_neg hw]
   go_enter Tryz.func70,Tryz.ntmps70
   go_wp2_with fail
   refine(zbc i (by omega) hi W HE.o).mono ?_
   rintro r w1 ⟨rfl,hb1⟩
   have HB1:Hid (Below W.heap.size W w1):=hb1
   clear hb1
   generalize dec i.toNat=di at *
   have b1:¬ 9223372036854775807 < 8+di.length:=by omega
   go_wp2_with fail
   go_ret
   refine⟨?_,HB1.o⟩
   rw [HN.o,Hh.o,Ht.o]
   exact zji (by unfold zld;apply ByteArray.ext;simp)
 ·have Hh:=za (zil l hl)
  have hdl:=zbf l (by omega) (by omega)
  have nl:(l != -1)=true:=by rw [bne_iff_ne];exact hl
  by_cases hw:w < 4
  ·skip
   have Ht:Hid (zcp w=zeq++dec w.toNat):=by show _=_;unfold zcp;rw [if_pos hw]
   go_enter Tryz.func70,Tryz.ntmps70
   go_wp2_with fail
   refine(zbc l (by omega) (by omega) W HE.o).mono ?_
   rintro r w0 ⟨rfl,hb0⟩
   have HB0:=za hb0
   clear hb0
   generalize dec l.toNat=dl at *
   have b0:¬ 9223372036854775807 < 5+dl.length:=by omega
   have b00:¬ 9223372036854775807 < 5+dl.length+1:=by omega
   go_wp2_with fail
   refine(zbc i (by omega) hi w0 (HE.o.below HB0.o)).mono ?_
   rintro r w1 ⟨rfl,hb1⟩
   have HB1:Hid (Below W.heap.size W w1):=HB0.o.trans (hb1.mono HB0.o.size)
   clear hb1
   generalize dec i.toNat=di at *
   have b1:¬ 9223372036854775807 < 5+dl.length+1+di.length:=by omega
   go_wp2_with fail
   refine(zbc w (by omega) (by omega) w1 (HE.o.below HB1.o)).mono ?_
   rintro r w2 ⟨rfl,hb2⟩
   have HB2:Hid (Below W.heap.size W w2):=HB1.o.trans (hb2.mono HB1.o.size)
   clear hb2
   generalize dec w.toNat=dw at *
   have b2:¬ 9223372036854775807 < 3+dw.length:=by omega
   have b3:¬ 9223372036854775807 < 5+dl.length+1+di.length+(3+dw.length):=by omega
   go_wp2_with fail
   go_ret
   refine⟨?_,HB2.o⟩
   rw [HN.o,Hh.o,Ht.o]
   exact zji (by unfold zd4 zeq;apply ByteArray.ext;simp)
  ·skip
   have Ht:Hid (zcp w=[]):=by show _=_;unfold zcp;rw [if_neg hw]
   go_enter Tryz.func70,Tryz.ntmps70
   go_wp2_with fail
   refine(zbc l (by omega) (by omega) W HE.o).mono ?_
   rintro r w0 ⟨rfl,hb0⟩
   have HB0:=za hb0
   clear hb0
   generalize dec l.toNat=dl at *
   have b0:¬ 9223372036854775807 < 5+dl.length:=by omega
   have b00:¬ 9223372036854775807 < 5+dl.length+1:=by omega
   go_wp2_with fail
   refine(zbc i (by omega) hi w0 (HE.o.below HB0.o)).mono ?_
   rintro r w1 ⟨rfl,hb1⟩
   have HB1:Hid (Below W.heap.size W w1):=HB0.o.trans (hb1.mono HB0.o.size)
   clear hb1
   generalize dec i.toNat=di at *
   have b1:¬ 9223372036854775807 < 5+dl.length+1+di.length:=by omega
   go_wp2_with fail
   go_ret
   refine⟨?_,HB1.o⟩
   rw [HN.o,Hh.o,Ht.o]
   exact zji (by unfold zd4;apply ByteArray.ext;simp)
end
section
set_option maxHeartbeats 1000000
open Go.RowKit
set_option maxRecDepth 100000
theorem Bq.rest {w:World}{v:Value}{l:List UInt8}(h:Bq w v l):z4c w v l:=by
 obtain⟨g,cap,C,fr,rfl,hl,hg,hc⟩:=h
 refine⟨⟨g,0,none⟩,cap,rfl,hl,rfl,fun i hi=>?_⟩
 show w.cell? ⟨g,0+i,none⟩=_
 rw [Nat.zero_add,cell_of_row _ _ _ _ _ _ hg]
 exact hc i hi
theorem zdb {w:World}{B:Nat}{y:Value}{es:List (List UInt8)}(h:OBs w B y es):∃ a c,y= .slice a es.length c:=by
 obtain⟨xs,ho,-⟩:=h
 rcases ho.2 with ⟨e,e0⟩ | ⟨g,cap,cur,e,_⟩
 ·exact⟨none,0,by rw [e,e0]⟩
 ·exact⟨_,_,e⟩
theorem ztp (w:World):
  Calls Tryz.prog 119 #[.slice none 0 0] w fun r w'=>r= .returned (.tuple #[.slice none 0 0,.bool false])∧w'=w:=by
 go_enter Tryz.func119,Tryz.ntmps119
 go_wp2_with fail
 refine wp_loop_rounds 1 ?_
 rw [rounds_succ]
 go_wp2
 go_ret2
 exact⟨rfl,rfl⟩
def zei (x:Option (List UInt8))(w:Nat):Option (List (List UInt8)):=match x with
 | some d=>(match zch d with | some es=>if es.length=w then some es else none | none=>none)
 | none=>none
def zfd (w:World)(v:Value)(x:Option (List UInt8)):Prop:=(∃ d,x=some d∧Bq w v d)∨(x=none∧v= .slice none 0 0)
theorem zhc (n:Nat)(v:Value)(x:Option (List UInt8))(w:World)(h:zfd w v x):
  Calls Tryz.prog 71 #[.int .i64 n,v] w fun r w'=>Below w.heap.size w w'∧((∃ es y,zei x n=some es∧r= .returned (.tuple #[y,.bool true])∧OBs w' w.heap.size y es)∨(zei x n=none∧r= .returned (.tuple #[.slice none 0 0,.bool false]))):=by
 rcases h with ⟨d,rfl,hq⟩ | ⟨rfl,rfl⟩
 ·have HQ:=za hq
  clear hq
  go_enter Tryz.func71,Tryz.ntmps71
  go_wp2_with fail
  refine(z61 v d w HQ.o.rest).mono ?_
  rintro r w1 ⟨y,rfl,hb1,ho⟩
  have HB:=za hb1
  clear hb1
  cases e:zch d with
  | none =>
   have HR:Hid (zei (some d) n=none):=by show zei (some d) n=none;unfold zei;simp only [e]
   obtain⟨a,c,rfl⟩:=zdb ho
   clear e ho
   go_wp2_with fail
   go_ret2
   exact⟨HB.o,.inr ⟨HR.o,rfl⟩⟩
  | some es =>
   rw [e] at ho
   simp only [Option.getD_some,Option.isSome_some] at ho ⊢
   obtain⟨a,c,rfl⟩:=zdb ho
   have HO:=za ho
   clear ho
   by_cases hl:es.length=n
   ·have HR:Hid (zei (some d) n=some es):=by show zei (some d) n=_;unfold zei;simp only [e,if_pos hl]
    have q1:((es.length:Int)==(n:Int))=true:=by rw [beq_iff_eq];omega
    clear e hl
    go_wp2_with fail
    go_ret2
    exact⟨HB.o,.inl ⟨es,_,HR.o,rfl,HO.o⟩⟩
   ·have HR:Hid (zei (some d) n=none):=by show zei (some d) n=_;unfold zei;simp only [e,if_neg hl]
    have q1:((es.length:Int)==(n:Int))=false:=by rw [beq_eq_false_iff_ne];omega
    clear e hl
    go_wp2_with fail
    go_ret2
    exact⟨HB.o,.inr ⟨HR.o,rfl⟩⟩
 ·go_enter Tryz.func71,Tryz.ntmps71
  go_wp2_with fail
  refine(ztp w).mono ?_
  rintro r w1 ⟨rfl,rfl⟩
  go_wp2_with fail
  go_ret2
  exact⟨Below.refl _ _,.inr ⟨rfl,rfl⟩⟩
theorem z6n (lk:Lk)(j w:Nat):zei (lk (yr (-1) j w)) w=zb8 lk j w:=rfl
theorem zu0 {d:Dk}{p:List UInt8}{w:World}{v:Value}(hb:bad d=false)(h:(bad d=false∧∃ x,zx d.fs p=some x∧Bq w v x)∨((bad d=true∨zx d.fs p=none)∧v= .slice none 0 0)):zfd w v (zx d.fs p):=by
 rcases h with ⟨-,x,h1,h2⟩ | ⟨h1,h2⟩
 ·exact .inl ⟨x,h1,h2⟩
 ·rcases h1 with h1 | h1
  ·rw [hb] at h1;simp at h1
  ·exact .inr ⟨h1,h2⟩
theorem zfg {w:World}{v:Value}{x:Option (List UInt8)}(h:zfd w v x):(x=none∧v= .slice none 0 0)∨∃ d g n c,x=some d∧v= .slice (some g) n c:=by
 rcases h with ⟨d,e,g,cap,C,fr,rfl,-⟩ | ⟨h1,h2⟩
 ·exact .inr ⟨d,_,_,_,e,rfl⟩
 ·exact .inl ⟨h1,h2⟩
theorem Env.turn {w w':World}{O:Nat→Prop}{T:List Nat}{W:World}(h:Env W)(hb:Below W.heap.size W w)(ht:zf O T w w')(hO:∀ k,O k→W.heap.size≤k):Env w'∧Below W.heap.size W w':=by
 have:=hb.trans (ht.below hO hb.size)
 exact⟨h.below this,this⟩
theorem z9d (f:Nat→Bool)(hv k:Nat)(h1:hv < k)(h4:k≤4)(hk:f k=true)(hno:∀ j:Nat,k < j→j≤4→hv < j→f j=false):[4,3,2,1].find? (fun w=>decide (hv < w)&&f w)=some k:=by
 have e:k=4∨k=3∨k=2∨k=1:=by omega
 rcases e with rfl | rfl | rfl | rfl
 ·simp [List.find?,h1,hk]
 ·simp [List.find?,h1,hk,hno 4 (by omega) (by omega) (by omega)]
 ·simp [List.find?,h1,hk,hno 3 (by omega) (by omega) (by omega),hno 4 (by omega) (by omega) (by omega)]
 ·simp [List.find?,h1,hk,hno 2 (by omega) (by omega) (by omega),hno 3 (by omega) (by omega) (by omega),hno 4 (by omega) (by omega) (by omega)]
theorem z1l (f:Nat→Bool)(hv:Nat)(hno:∀ j:Nat,j≤4→hv < j→f j=false):[4,3,2,1].find? (fun w=>decide (hv < w)&&f w)=none:=by
 rw [List.find?_eq_none]
 intro w hw
 have:w≤4:=by simp at hw;omega
 by_cases h:hv < w
 ·simp [hno w this h]
 ·simp [h]
theorem z8f {lk:Lk}{i hv k:Nat}(h1:hv < k)(h4:k≤4)(hk:(lk (yr (-1) i (k:Nat))).isSome=true)(hno:∀ j:Nat,k < j→j≤4→hv < j→(lk (yr (-1) i (j:Nat))).isSome=false):wdF lk i hv=some k :=
 z9d (fun w=>(lk (yr (-1) i (w:Nat))).isSome) hv k h1 h4 hk hno
theorem z8q {lk:Lk}{i hv:Nat}(hno:∀ j:Nat,j≤4→hv < j→(lk (yr (-1) i (j:Nat))).isSome=false):wdF lk i hv=none :=
 z1l (fun w=>(lk (yr (-1) i (w:Nat))).isSome) hv hno
theorem jf {b:Bool}{p:List UInt8}{B:Nat}{e:Value}{w:World}(h:zbd b p B e w):(b=false∧e= .nilIface)∨(b=true∧∃ g,e= .iface 113 (.pointer (some ⟨g,0,none⟩))):=by
 rcases h with h | ⟨h,g,rfl,-⟩
 ·exact .inl h
 ·exact .inr ⟨h,g,rfl⟩
theorem zbd.weaken {b:Bool}{p:List UInt8}{B B':Nat}{e:Value}{w:World}(h:zbd b p B e w)(hB:B'≤B):zbd b p B' e w:=by
 rcases h with h | ⟨h,g,e,hg,r⟩
 ·exact .inl h
 ·exact .inr ⟨h,g,e,Nat.le_trans hB hg,r⟩
theorem zm8 (O:Nat→Prop)(W:World)(hE:Env W)(hOW:∀ k,O k→W.heap.size≤k)(db lb:Nat)(d:Dk)(i hv:Nat)(w:World)(hn:d.fs.length≤1000000000)(hl:∀ f∈d.fs,f.2.length≤1000000000)(hi:i≤1000000)(hv4:hv < 4)(hc:zau d)(hW:Below W.heap.size W w)(h:zm w O db d)(cs:Array Value)(hsb:w.heap[lb]?=some (.cells cs 109 (0,0)))(hsc:cs[0]?=some (stV db true)):
  Calls Tryz.prog 72 #[.pointer (some ⟨lb,0,none⟩),.int .i64 i,.int .i64 (hv+1:Nat)] w fun r w'=>∃(d':Dk) (n:Nat) (v e:Value),r= .returned (.tuple #[.int .i64 n,v,e])∧zf O dT1 w w'∧zm w' O db d'∧d'.fs=d.fs∧tk d'=tk d ∧
   ((d'.hit=true∧∃ p,zbd true p w.heap.size e w')∨(zau d'∧e= .nilIface∧((wdF (zx d.fs) i hv=none∧n=0∧v= .slice none 0 0)∨(wdF (zx d.fs) i hv=some n∧∃ x,zx d.fs (yr (-1) i n)=some x∧Bq w' v x)))):=by
 have HL:=za hl
 have HD:=za h
 have HS:Hid (w.cell? ⟨lb,0,none⟩=some (stV db true)):=(zg hsb 0 _ hsc).1
 have HSB:=za hsb
 have HSC:=za hsc
 have HW:=za hW
 have HC:=za hc
 have HO:=za hOW
 have hEE:=za hE
 clear hl h hsb hsc hW hc hOW hE
 go_enter Tryz.func72,Tryz.ntmps72
 go_wp2_with fail
 go_loopw [9,10,11] (fun s9 _ _ wr=>∃(k:Nat) (d1:Dk),s9= .int .i64 k∧hv≤k∧k≤4∧zf O dT1 w wr∧zm wr O db d1∧d1.fs=d.fs∧tk d1=tk d∧zau d1∧∀ j,k < j→j≤4→hv < j→(zx d.fs (yr (-1) i (j:Nat))).isSome=false) (fun s9 _ _ _=>(intOf s9).toNat)
 case atStart=>exact⟨4,d,rfl,by omega,by omega,zf.refl _ _ _,HD.o,rfl,rfl,HC.o,fun j h1 h2=>by omega⟩
 case round =>
  obtain⟨k,d1,rfl,hk1,hk2,ht,hd,hfs,htu,hcm,hno⟩:=hrel
  have HT:=za ht
  have HD1:=za hd
  have HF:=za (And.intro hfs htu)
  have HCM:=za hcm
  have HN:=za hno
  have hew:=Env.turn hEE.out HW.o ht HO.o
  have HSR:Hid (wr.cell? ⟨lb,0,none⟩=some (stV db true)):=by
   have:=zg (ht.keep HSB.o (by decide)) 0 _ HSC.o
   exact this.1
  have HEW:=za hew
  clear ht hd hfs htu hcm hno hew
  by_cases hlt:hv < k
  ·go_wp2_with fail
   refine(zis (-1) i k (by omega) wr HEW.o.1).mono ?_
   rintro r w1 ⟨rfl,hb1⟩
   have HB1:=za hb1
   have hst1:w1.cell? ⟨lb,0,none⟩=some (stV db true):=by rw [hb1.cell (p:=⟨lb,0,none⟩) (Nat.lt_of_lt_of_le (zj HS.o) HT.o.size)];exact HSR.o
   go_wp2_with fail
   refine(zjm O db lb d1 (yr (-1) i k) w1 (by rw [HF.o.1];exact hn) (by rw [HF.o.1];exact HL.o) (HD1.o.stay (O1:=fun _=>False) (T:=[]) (.of_below hb1) (by simp) (by simp)) hst1).mono ?_
   rintro r w2 ⟨v,e,rfl,hge,ht2,hd2,hv2⟩
   have HT2:Hid (zf O dT1 w w2):=(HT.o.then_below hb1).trans (ht2.mono (fun _ h=> .inl h) (fun _ h=>h))
   have HD2:=za hd2
   have hsz:w.heap.size≤w1.heap.size:=(HT.o.then_below hb1).size
   have HGE:=za (hge.weaken hsz)
   clear hb1 hst1 ht2 hd2 hsz
   rcases jf hge with ⟨hbd,rfl⟩ | ⟨hbd,g,rfl⟩
   ·have hK0:xc d1=0:=by
     have:=(zet d1).1
     have h2:¬ 0 < xc d1:=by simpa [bad] using hbd
     omega
    have HC2:Hid (zau (ye d1)):=by
     rcases za4 HCM.o with ⟨-,h⟩ | ⟨h,-⟩
     ·exact h
     ·omega
    have HG:=za (zu0 hbd hv2)
    clear hge hbd hv2 hK0
    rcases zfg HG.o with ⟨hx,rfl⟩ | ⟨x,a,n,c,hx,rfl⟩
    ·go_wp2_with fail
     go_roundw
     case rel =>
      repeat apply Exists.intro
      refine⟨⟨k - 1,ye d1,by congr 1;omega,by omega,by omega,HT2.o,HD2.o,(yg d1).trans HF.o.1,(za8 d1).trans HF.o.2,HC2.o,fun j h1 h2 h3=>?_⟩,rfl⟩
      by_cases hj:k < j
      ·exact HN.o j hj h2 h3
      ·obtain rfl:j=k:=by omega
       rw [← HF.o.1,hx]
       rfl
     case measure=>simp [intOf];omega
    ·have HWD:Hid (wdF (zx d.fs) i hv=some k):=z8f hlt hk2 (by rw [← HF.o.1,hx];rfl) HN.o
     go_wp2_with fail
     go_ret3
     refine⟨ye d1,k,_,_,rfl,HT2.o,HD2.o,(yg d1).trans HF.o.1,(za8 d1).trans HF.o.2,.inr ⟨HC2.o,rfl,.inr ⟨HWD.o,x,by rw [← HF.o.1];exact hx,?_⟩⟩⟩
     rcases HG.o with ⟨x',e,hb⟩ | ⟨-,e⟩
     ·rw [hx] at e
      obtain rfl:x=x':=by simpa using e
      exact hb
     ·simp at e
   ·have HH:Hid ((ye d1).hit=true):=by
     rcases za4 HCM.o with ⟨h,-⟩ | ⟨-,h⟩
     ·rw [bad,h] at hbd;simp at hbd
     ·exact h
    rw [hbd] at HGE
    obtain⟨a,n,c,rfl⟩:=zes hv2
    clear hge hbd hv2
    go_wp2_with fail
    go_ret3
    exact⟨ye d1,k,_,_,rfl,HT2.o,HD2.o,(yg d1).trans HF.o.1,(za8 d1).trans HF.o.2,.inl ⟨HH.o,_,HGE.o⟩⟩
  ·go_wp2_with fail
   go_ret3
   exact⟨d1,0,_,_,rfl,HT.o,HD1.o,HF.o.1,HF.o.2,.inr ⟨HCM.o,rfl,.inl ⟨z8q (fun j h1 h2=>HN.o j (by omega) h1 h2),rfl,rfl⟩⟩⟩
end
end Go.Proofs.YtinhekmmdlhfkaaGreatDoor
