import Derived.Test.YtndkblnpbjffhaaGreatDoorG08
import Derived.Test.YtndkblnpbjffhaaGreatDoorG09
set_option maxHeartbeats 4000000
set_option maxRecDepth 100000
open Go.RowKit
namespace Go.Proofs.YtndkblnpbjffhaaGreatDoor
theorem yas:∀ c:Fin 256,97≤c.val→c.val≤102→bits BinOp.or IntKind.u8 (c.val:Int) 32=(c.val:Int):=by decide +kernel
theorem z25 (c:UInt8)(h1:97≤c.toNat)(h2:c.toNat≤102):bits BinOp.or IntKind.u8 (c.toNat:Int) 32=(c.toNat:Int):=yas ⟨c.toNat,by have:=c.toNat_lt;omega⟩ h1 h2
theorem zis (w:World)(s:ByteArray)(h:Nat)(k:Nat)(A:k < s.size):(w.alloc (.cells (bytesRow s h) 5 ((bytesRow s h).size,(bytesRow s h).size+1))).cell? ⟨w.heap.size,k,none⟩=some (bv s[k]):=by
 have r:k < s.data.size:=A;rw [cell_of_row _ _ _ _ _ _ (heap_alloc_last _ _),bytesRow,Array.getElem?_append_left (by simpa using r),Array.getElem?_map,Array.getElem?_eq_getElem r];rfl
theorem zqg (l:List UInt8)(h1:1≤l.length)(h2:l.length≤16)(W:∀ c∈l,zjq c)(w:World):
  Calls Tryz.prog 129 #[.string ⟨l.toArray⟩,.int .i64 16,.int .i64 64] w fun r w'=>r= .returned (.tuple #[.int .u64 (zer 0 l:Nat),.nilIface])∧Below w.heap.size w w':=by
 have U:=za W;obtain⟨c0,r0,A⟩:∃ c r,l=c::r:=by
  cases l with
  | nil=>simp at h1
  | cons c r=>exact⟨c,r,rfl⟩
 have ad:(l==[])=false:=by rw [A];rfl
 have aa:l.isEmpty=false:=by rw [A];rfl
 clear A W;have L:=run_bytes_of_string (P:=Tryz.prog) w 9 100 5 ⟨l.toArray⟩ Tryz.underlying9 Tryz.underlying100 Tryz.underlying5;have HC:Hid (∀ k (Q:k < l.length),(w.alloc (.cells (bytesRow ⟨l.toArray⟩ (grownCap w l.length 0 5)) 5 ((bytesRow ⟨l.toArray⟩ (grownCap w l.length 0 5)).size,(bytesRow ⟨l.toArray⟩ (grownCap w l.length 0 5)).size+1))).cell? ⟨w.heap.size,k,none⟩=some (.int .u8 (l[k].toNat:Int))):=fun k Q=>by
  rw [zis w ⟨l.toArray⟩ _ k Q];rfl
 have Z:=za (ze w (.cells (bytesRow ⟨l.toArray⟩ (grownCap w l.length 0 5)) 5 ((bytesRow ⟨l.toArray⟩ (grownCap w l.length 0 5)).size,(bytesRow ⟨l.toArray⟩ (grownCap w l.length 0 5)).size+1)));have ac:IntKind.u64.wrap (IntKind.u64.wrap 18446744073709551616 - 1)=18446744073709551615:=by decide
 go_enter Tryz.func129,Tryz.ntmps129;go_wp2_with fail;generalize w.alloc (.cells (bytesRow ⟨l.toArray⟩ (grownCap w l.length 0 5)) 5 ((bytesRow ⟨l.toArray⟩ (grownCap w l.length 0 5)).size,(bytesRow ⟨l.toArray⟩ (grownCap w l.length 0 5)).size+1))=W0 at *
 generalize grownCap w l.length 0 5=cp at *
 clear L;go_loopw [12,13,101] (fun R S i wr=>∃(k:Nat) (a:Int),k≤l.length∧i= .int .i64 k∧R= .bool false∧S= .int .u64 a∧Hid (a=(zer 0 (l.take k):Nat))∧wr=W0.drew) (fun _ _ i _=>l.length - (intOf i).toNat)
 case atStart=>exact⟨0,0,Nat.zero_le _,rfl,rfl,rfl,rfl,rfl⟩
 case round =>
  obtain⟨k,a,Q,rfl,rfl,rfl,E,rfl⟩:=hrel;by_cases D:k < l.length
  ·have hx:=HC.o k D;have X:=U.o l[k] (List.getElem_mem D);have H:zer 0 (l.take k) < 1152921504606846976:=by
    have:=zyr (l.take k) (fun c hc=>U.o c (List.mem_of_mem_take hc)) 0 0 (by decide);have e:(l.take k).length≤15:=by simp;omega
    have:=Nat.lt_of_lt_of_le this (Nat.pow_le_pow_right (n:=16) (by decide) (show 0+(l.take k).length≤15 by omega));exact this
   have I:zer 0 (l.take (k+1))=zer 0 (l.take k)*16+nv l[k]:=by
    rw [List.take_succ_eq_append_getElem D,zrp];rfl
   have h:=E.out;have i0:0≤a:=by omega
   have i1:a < 1152921504606846976:=by omega
   generalize l[k]=c at *
   unfold zjq at X;rcases X with ⟨V,K⟩ | ⟨V,K⟩
   ·have J:Hid (a*16+((c.toNat:Int) - 48)=(zer 0 (l.take (k+1)):Nat)):=by
     show _=_;rw [I];unfold nv;rw [if_pos K];omega
    have e1:((c.toNat:Int)==95)=false:=by rw [beq_eq_false_iff_ne];omega
    clear H I h E;go_wp2;refine⟨⟨k+1,a*16+((c.toNat:Int) - 48),by omega,(by first | rfl | go_num),rfl,(by first | rfl | (congr 1;omega)),J,trivial⟩,by simp [intOf];omega⟩
   ·have J:Hid (a*16+((c.toNat:Int) - 97+10)=(zer 0 (l.take (k+1)):Nat)):=by
     show _=_;rw [I];unfold nv;rw [if_neg (by omega)];omega
    have e1:((c.toNat:Int)==95)=false:=by rw [beq_eq_false_iff_ne];omega
    have ho:=z25 c V K;clear H I h E;go_wp2;refine⟨⟨k+1,a*16+((c.toNat:Int) - 97+10),by omega,(by first | rfl | go_num),rfl,(by first | rfl | (congr 1;omega)),J,trivial⟩,by simp [intOf];omega⟩
  ·have h:=E.out;rw [List.take_of_length_le (by omega)] at h;have Y:=za h;clear h E;go_wp2_with fail;go_ret2;exact⟨by rw [Y.o];rfl,Z.o.drew⟩
theorem zud (l:List UInt8)(h2:l.length≤1000000000)(w:World):
  Calls Tryz.prog 129 #[.string ⟨l.toArray⟩,.int .i64 16,.int .i64 64] w fun r w'=>∃ v e,r= .returned (.tuple #[.int .u64 v,e])∧0≤v∧v≤18446744073709551615∧(e= .nilIface∨e= .iface 298 (.int .i64 1)∨e= .iface 298 (.int .i64 2))∧Below w.heap.size w w':=by
 cases l with
 | nil =>
  go_enter Tryz.func129,Tryz.ntmps129;go_wp2_with fail;go_ret2;exact⟨_,_,rfl,by decide,by decide,.inr (.inr rfl),Below.refl _ _⟩
 | cons h r0 =>
  have D:=run_bytes_of_string (P:=Tryz.prog) w 9 100 5 ⟨(h::r0).toArray⟩ Tryz.underlying9 Tryz.underlying100 Tryz.underlying5;have S:(h::r0==[])=false:=rfl;have Q:(h::r0).isEmpty=false:=rfl;generalize h::r0=l at *
  have K:Hid (∀ k (E:k < l.length),(w.alloc (.cells (bytesRow ⟨l.toArray⟩ (grownCap w l.length 0 5)) 5 ((bytesRow ⟨l.toArray⟩ (grownCap w l.length 0 5)).size,(bytesRow ⟨l.toArray⟩ (grownCap w l.length 0 5)).size+1))).cell? ⟨w.heap.size,k,none⟩=some (.int .u8 (l[k].toNat:Int))):=fun k E=>by
   rw [zis w ⟨l.toArray⟩ _ k E];rfl
  have A:=za (ze w (.cells (bytesRow ⟨l.toArray⟩ (grownCap w l.length 0 5)) 5 ((bytesRow ⟨l.toArray⟩ (grownCap w l.length 0 5)).size,(bytesRow ⟨l.toArray⟩ (grownCap w l.length 0 5)).size+1)));have R:IntKind.u64.wrap (IntKind.u64.wrap 18446744073709551616 - 1)=18446744073709551615:=by decide
  go_enter Tryz.func129,Tryz.ntmps129;go_wp2_with fail;generalize w.alloc (.cells (bytesRow ⟨l.toArray⟩ (grownCap w l.length 0 5)) 5 ((bytesRow ⟨l.toArray⟩ (grownCap w l.length 0 5)).size,(bytesRow ⟨l.toArray⟩ (grownCap w l.length 0 5)).size+1))=L at *
  generalize grownCap w l.length 0 5=cp at *
  clear D;go_loopw [12,13,101] (fun I J i wr=>∃(k:Nat) (a:Int),k≤l.length∧i= .int .i64 k∧I= .bool false∧J= .int .u64 a∧0≤a∧a≤18446744073709551615∧wr=L.drew) (fun _ _ i _=>l.length - (intOf i).toNat)
  case atStart=>exact⟨0,0,Nat.zero_le _,rfl,rfl,rfl,by decide,by decide,rfl⟩
  case round =>
   obtain⟨k,a,E,rfl,rfl,rfl,Y,Z,rfl⟩:=hrel;by_cases H:k < l.length
   ·have hx:=K.o k H;have hc:=(l[k]).toNat_lt;generalize l[k]=c at *
    have W:=bits_lo_u8 .or (c.toNat:Int) 32;have X:=bits_hi_u8 .or (c.toNat:Int) 32;have U:=bits_lo_u8 .or 95 32;have V:=bits_hi_u8 .or 95 32;go_wp2;all_goals first
     | (go_ret2;exact⟨_,_,rfl,by decide,by decide,.inr (.inr rfl),A.o.drew⟩)
     | (go_ret2;exact⟨_,_,rfl,by decide,by decide,.inr (.inl rfl),A.o.drew⟩)
     | (refine⟨⟨k+1,_,by omega,(by first | rfl | go_num),rfl,rfl,by omega,by omega,trivial⟩,by simp [intOf];omega⟩)
   ·go_wp2_with fail;go_ret2;exact⟨_,_,rfl,Y,Z,.inl rfl,A.o.drew⟩
end Go.Proofs.YtndkblnpbjffhaaGreatDoor
namespace Go.Proofs
open Go.Shelf
def Tryz.laysC245_ren:Go.Shelf.Ren:=⟨fun | 245=>130 | 279=>180 | 280=>181 | 281=>182 | 282=>183 | 316=>211 | 171=>132 | 205=>212 | 243=>185 | 246=>214 | 283=>226 | 284=>227 | 285=>228 | 286=>229 | 129=>156 | 317=>236 | 318=>237 | 319=>238 | 320=>138 | 337=>188 | 338=>189 | n=>n,fun | 9=>9 | 3=>3 | 75=>68 | 167=>298 | 4=>4 | 168=>300 | 210=>329 | 37=>100 | 0=>0 | 127=>343 | 145=>346 | 143=>344 | 2=>2 | 171=>347 | 53=>178 | 5=>5 | 173=>349 | 212=>360 | 51=>110 | 20=>20 | 213=>361 | 46=>179 | 232=>334 | 233=>335 | 80=>363 | n=>n,fun | 15=>8 | 16=>9 | 17=>15 | 18=>10 | 19=>11 | n=>n⟩
theorem Tryz.laysC245:Go.Proofs.LaysC.n245 Tryz.prog Tryz.laysC245_ren:={
 mixed:=by kernel_rfl
 f129:=Tryz.func156.trans (congrArg some (by kernel_rfl))
 f171:=Tryz.func132.trans (congrArg some (by kernel_rfl))
 f205:=Tryz.func212.trans (congrArg some (by kernel_rfl))
 f243:=Tryz.func185.trans (congrArg some (by kernel_rfl))
 f245:=Tryz.func130.trans (congrArg some (by kernel_rfl))
 f246:=Tryz.func214.trans (congrArg some (by kernel_rfl))
 f279:=Tryz.func180.trans (congrArg some (by kernel_rfl))
 f280:=Tryz.func181.trans (congrArg some (by kernel_rfl))
 f281:=Tryz.func182.trans (congrArg some (by kernel_rfl))
 f282:=Tryz.func183.trans (congrArg some (by kernel_rfl))
 f283:=Tryz.func226.trans (congrArg some (by kernel_rfl))
 f284:=Tryz.func227.trans (congrArg some (by kernel_rfl))
 f285:=Tryz.func228.trans (congrArg some (by kernel_rfl))
 f286:=Tryz.func229.trans (congrArg some (by kernel_rfl))
 f316:=Tryz.func211.trans (congrArg some (by kernel_rfl))
 f317:=Tryz.func236.trans (congrArg some (by kernel_rfl))
 f318:=Tryz.func237.trans (congrArg some (by kernel_rfl))
 f319:=Tryz.func238.trans (congrArg some (by kernel_rfl))
 f320:=Tryz.func138.trans (congrArg some (by kernel_rfl))
 f337:=Tryz.func188.trans (congrArg some (by kernel_rfl))
 f338:=Tryz.func189.trans (congrArg some (by kernel_rfl))
 t0:=Tryz.underlying0
 a0:=Tryz.isAgg0
 z0:=Tryz.sizeOf0
 v0:=Tryz.zeroValue0
 t2:=Tryz.underlying2
 a2:=Tryz.isAgg2
 z2:=Tryz.sizeOf2
 v2:=Tryz.zeroValue2
 t3:=Tryz.underlying3
 a3:=Tryz.isAgg3
 z3:=Tryz.sizeOf3
 v3:=Tryz.zeroValue3
 t4:=Tryz.underlying4
 a4:=Tryz.isAgg4
 z4:=Tryz.sizeOf4
 v4:=Tryz.zeroValue4
 t5:=Tryz.underlying5
 a5:=Tryz.isAgg5
 z5:=Tryz.sizeOf5
 v5:=Tryz.zeroValue5
 t9:=Tryz.underlying9
 a9:=Tryz.isAgg9
 z9:=Tryz.sizeOf9
 v9:=Tryz.zeroValue9
 t20:=Tryz.underlying20
 a20:=Tryz.isAgg20
 z20:=Tryz.sizeOf20
 v20:=Tryz.zeroValue20
 t37:=Tryz.underlying100
 a37:=Tryz.isAgg100
 z37:=Tryz.sizeOf100
 v37:=Tryz.zeroValue100
 t46:=Tryz.underlying179
 a46:=Tryz.isAgg179
 z46:=Tryz.sizeOf179
 v46:=Tryz.zeroValue179
 t51:=Tryz.underlying110
 a51:=Tryz.isAgg110
 z51:=Tryz.sizeOf110
 v51:=Tryz.zeroValue110
 t53:=Tryz.underlying178
 a53:=Tryz.isAgg178
 z53:=Tryz.sizeOf178
 v53:=Tryz.zeroValue178
 t75:=Tryz.underlying68
 a75:=Tryz.isAgg68
 z75:=Tryz.sizeOf68
 v75:=Tryz.zeroValue68
 t127:=Tryz.underlying343
 a127:=Tryz.isAgg343
 z127:=Tryz.sizeOf343
 v127:=Tryz.zeroValue343
 t143:=Tryz.underlying344
 a143:=Tryz.isAgg344
 z143:=Tryz.sizeOf344
 v143:=Tryz.zeroValue344
 t145:=Tryz.underlying346
 a145:=Tryz.isAgg346
 z145:=Tryz.sizeOf346
 v145:=Tryz.zeroValue346
 t167:=Tryz.underlying298
 a167:=Tryz.isAgg298
 z167:=Tryz.sizeOf298
 v167:=Tryz.zeroValue298
 t168:=Tryz.underlying300
 a168:=Tryz.isAgg300
 z168:=Tryz.sizeOf300
 v168:=Tryz.zeroValue300
 t171:=Tryz.underlying347
 a171:=Tryz.isAgg347
 z171:=Tryz.sizeOf347
 v171:=Tryz.zeroValue347
 t173:=Tryz.underlying349
 a173:=Tryz.isAgg349
 z173:=Tryz.sizeOf349
 v173:=Tryz.zeroValue349
 t210:=Tryz.underlying329
 a210:=Tryz.isAgg329
 z210:=Tryz.sizeOf329
 v210:=Tryz.zeroValue329
 t212:=Tryz.underlying360
 a212:=Tryz.isAgg360
 z212:=Tryz.sizeOf360
 v212:=Tryz.zeroValue360
 t213:=Tryz.underlying361
 a213:=Tryz.isAgg361
 z213:=Tryz.sizeOf361
 t232:=Tryz.underlying334
 a232:=Tryz.isAgg334
 z232:=Tryz.sizeOf334
 v232:=Tryz.zeroValue334
 t233:=Tryz.underlying335
 a233:=Tryz.isAgg335
 z233:=Tryz.sizeOf335
 v233:=Tryz.zeroValue335
 g15:=by kernel_rfl
 g16:=by kernel_rfl
 g17:=by kernel_rfl
 g18:=by kernel_rfl
 g19:=by kernel_rfl
 t80:=Tryz.underlying363
 a80:=Tryz.isAgg363
 z80:=Tryz.sizeOf363
 v80:=Tryz.zeroValue363
 i0:=by kernel_rfl
 i2:=by kernel_rfl
 i3:=by kernel_rfl
 i4:=by kernel_rfl
 i5:=by kernel_rfl
 i9:=by kernel_rfl
 i20:=by kernel_rfl
 i37:=by kernel_rfl
 i46:=by kernel_rfl
 i51:=by kernel_rfl
 i53:=by kernel_rfl
 i75:=by kernel_rfl
 i80:=by kernel_rfl
 i127:=by kernel_rfl
 i143:=by kernel_rfl
 i145:=by kernel_rfl
 i167:=by kernel_rfl
 i168:=by kernel_rfl
 i171:=by kernel_rfl
 i173:=by kernel_rfl
 i210:=by kernel_rfl
 i212:=by kernel_rfl
 i232:=by kernel_rfl
 i233:=by kernel_rfl
 m15:=by kernel_rfl
 m16:=by kernel_rfl
 m17:=by kernel_rfl
 m18:=by kernel_rfl
 m19:=by kernel_rfl
 c0:=by kernel_rfl
 c2:=by kernel_rfl
 c3:=by kernel_rfl
 c4:=by kernel_rfl
 c5:=by kernel_rfl
 c9:=by kernel_rfl
 c20:=by kernel_rfl
 c37:=by kernel_rfl
 c46:=by kernel_rfl
 c51:=by kernel_rfl
 c53:=by kernel_rfl
 c75:=by kernel_rfl
 c80:=by kernel_rfl
 c127:=by kernel_rfl
 c143:=by kernel_rfl
 c145:=by kernel_rfl
 c167:=by kernel_rfl
 c168:=by kernel_rfl
 c171:=by kernel_rfl
 c173:=by kernel_rfl
 c210:=by kernel_rfl
 c212:=by kernel_rfl
 c213:=by kernel_rfl
 c232:=by kernel_rfl
 c233:=by kernel_rfl }
end Go.Proofs
namespace Go.Proofs.YtndkblnpbjffhaaGreatDoor
theorem zjx (h l:List UInt8)(K:l.length≤1000000000)(e:Int)(I:e=1∨e=2)(w:World)(E:Env w):
  Calls Tryz.prog 130 #[.string ⟨h.toArray⟩,.string ⟨l.toArray⟩,.int .i64 16,.int .i64 64,.iface 298 (.int .i64 e)] w fun r w'=>∃ t p,r= .returned (.iface t p)∧Below w.heap.size w w':=by
 have J:(⟨l.toArray⟩:ByteArray).size=l.length:=rfl;rcases I with rfl | rfl
 ·obtain⟨A,p,H⟩:=E.rng;refine(show Calls Tryz.prog 130 #[.string ⟨h.toArray⟩,.string ⟨l.toArray⟩,.int .i64 16,.int .i64 64,.iface 298 (.int .i64 1)] w _ from Any.strconv_toError_range Tryz.laysC245 ⟨h.toArray⟩ ⟨l.toArray⟩ 16 64 (.iface A p) w (by omega) H (.inr ⟨A,p,rfl⟩)).mono ?_;rintro r w' ⟨N,rfl,-,-,D⟩;exact⟨_,_,rfl,D⟩
 ·obtain⟨A,p,H⟩:=E.syn;refine(show Calls Tryz.prog 130 #[.string ⟨h.toArray⟩,.string ⟨l.toArray⟩,.int .i64 16,.int .i64 64,.iface 298 (.int .i64 2)] w _ from Any.strconv_toError_syntax Tryz.laysC245 ⟨h.toArray⟩ ⟨l.toArray⟩ 16 64 (.iface A p) w (by omega) H (.inr ⟨A,p,rfl⟩)).mono ?_;rintro r w' ⟨N,rfl,-,-,D⟩;exact⟨_,_,rfl,D⟩
theorem zm7 (root:List UInt8)(hr:root.length=8)(w:World):
  Calls Tryz.prog 90 #[.string ⟨(j2 root).toArray⟩,.int .i64 16,.int .i64 64] w fun r w'=>r= .returned (.tuple #[.int .u64 (zer 0 (j2 root):Nat),.nilIface])∧Below w.heap.size w w':=by
 have h:=za (vw root);have H:=za (zn2 root);generalize j2 root=l at *
 go_enter Tryz.func90,Tryz.ntmps90;go_wp2_with fail;refine(zqg l (by rw [h.o];omega) (by rw [h.o];omega) H.o w).mono ?_;rintro r I ⟨rfl,A⟩;have D:=za A;clear A;generalize hv:((zer 0 l:Nat):Int)=v;have E:=za hv;clear hv;go_wp2_with fail;go_ret2;exact⟨by rw [E.o];rfl,D.o⟩
theorem zoa (l:List UInt8)(I:l.length≤1000000000)(w:World)(E:Env w):
  Calls Tryz.prog 90 #[.string ⟨l.toArray⟩,.int .i64 16,.int .i64 64] w fun r w'=>∃ v e,r= .returned (.tuple #[.int .u64 v,e])∧0≤v∧v≤18446744073709551615∧(e= .nilIface∨∃ t p,e= .iface t p)∧Below w.heap.size w w':=by
 have K:=za E;clear E;go_enter Tryz.func90,Tryz.ntmps90;go_wp2_with fail;refine(zud l I w).mono ?_;rintro r S ⟨v,e,rfl,Q,R,U,L⟩;have A:=za L;have H:=za (And.intro Q R);clear L Q R;rcases U with rfl | rfl | rfl
 ·go_wp2_with fail;go_ret2;exact⟨_,_,rfl,H.o.1,H.o.2,.inl rfl,A.o⟩
 ·go_wp2_with fail;refine(zjx [80,97,114,115,101,85,105,110,116] l I 1 (.inl rfl) S (K.o.below A.o)).mono ?_;rintro r J ⟨t,p,rfl,h⟩;have D:Hid (Below w.heap.size w J):=A.o.trans (h.mono A.o.size);clear h;go_wp2_with fail;go_ret2;exact⟨_,_,rfl,H.o.1,H.o.2,.inr ⟨_,_,rfl⟩,D.o⟩
 ·go_wp2_with fail;refine(zjx [80,97,114,115,101,85,105,110,116] l I 2 (.inr rfl) S (K.o.below A.o)).mono ?_;rintro r J ⟨t,p,rfl,h⟩;have D:Hid (Below w.heap.size w J):=A.o.trans (h.mono A.o.size);clear h;go_wp2_with fail;go_ret2;exact⟨_,_,rfl,H.o.1,H.o.2,.inr ⟨_,_,rfl⟩,D.o⟩
theorem zut (l:List UInt8)(D:l.length≤1000000000)(w:World)(E:Env w):
  Calls Tryz.prog 89 #[.string ⟨l.toArray⟩,.string ⟨#[10]⟩,.int .i64 4] w fun r w'=>∃ h:List ByteArray,h.map (·.data.toList)=Lib.splitK [10] 0 (min 4 (l.length+1) - 1) l ∧
   r= .returned (.slice (some ⟨w.heap.size,0,none⟩) h.length (min 4 (l.length+1)))∧w'=w.alloc (.cells (Lib.cellsOf h (min 4 (l.length+1))) 9):=by
 obtain⟨m,hm⟩:=E.max;have A:(⟨l.toArray⟩:ByteArray).size=l.length:=rfl;refine(show Calls Tryz.prog 89 #[.string ⟨l.toArray⟩,.string ⟨#[10]⟩,.int .i64 4] w _ from Any.strings_SplitN Tryz.lays147 (by kernel_rfl) ⟨l.toArray⟩ ⟨#[10]⟩ 4 m w (by omega) hm (by decide) (by decide) (by decide)).mono ?_;rintro r w' ⟨rfl,rfl⟩;exact⟨_,Lib.splitB_data _ _ _ _,rfl,rfl⟩
theorem z10:(Tryz.prog.info? 5).map (fun i=>(i.zero,i.size,i.bytes))=some (some (.int .u8 0),1,1):=by kernel_rfl
theorem zj5 {w:World}{g:Nat}{o:Obj}(h:w.heap[g]?=some o):g < w.heap.size:=by
 rcases Nat.lt_or_ge g w.heap.size with r | r
 ·exact r
 ·simp [Array.getElem?_eq_none r] at h
theorem zxa {w w':World}{B:Nat}{e:TypeId}{s:Nat}{v:Value}{n:Nat}{xs:List Value}(h:w.ownsRow B e s v n xs)(J:Below w.heap.size w w'):w'.ownsRow B e s v n xs:=by
 refine⟨h.1,?_⟩;rcases h.2 with h | ⟨g,A,D,H,I,E,r⟩
 ·exact .inl h
 ·exact .inr ⟨g,A,D,H,I,by rw [J.block g (zj5 E)];exact E,r⟩
theorem z1y {w:World}{B:Nat}{e:TypeId}{s:Nat}{v:Value}{n:Nat}{xs:List Value}(h:w.ownsRow B e s v n xs):∀ k,v.ownBlock=some k→B≤k:=by
 intro k r;rcases h.2 with ⟨rfl,_⟩ | ⟨g,A,D,rfl,E,_⟩
 ·simp [Value.ownBlock] at r
 ·simp only [Value.ownBlock,Option.some.injEq] at r;omega
theorem z7p:∀ q:Fin 16,(⟨#[48,49,50,51,52,53,54,55,56,57,97,98,99,100,101,102]⟩:ByteArray)[q.val]'(q.isLt)=zen q.val:=by decide +kernel
theorem z6i (q:Nat)(h:q < 16):(⟨#[48,49,50,51,52,53,54,55,56,57,97,98,99,100,101,102]⟩:ByteArray)[q]'h=zen q:=z7p ⟨q,h⟩
theorem yao:∀ c:Fin 256,bits BinOp.and IntKind.u8 (c.val:Int) 15=(c.val:Int) % 16:=by decide +kernel
theorem zwt (c:UInt8):bits BinOp.and IntKind.u8 (c.toNat:Int) 15=(c.toNat:Int) % 16:=yao ⟨c.toNat,c.toNat_lt⟩
theorem zgh (root:List UInt8)(hr:root.length=8)(w:World):
  Calls Tryz.prog 133 #[.agg (hv root)] w fun r w'=>r= .returned (.string ⟨(j2 root).toArray⟩)∧Below w.heap.size w w':=by
 obtain⟨i,hi,V⟩:=Option.map_eq_some_iff.1 z10;obtain⟨X,Y,Z⟩:i.zero=some (.int .u8 0)∧i.size=1∧i.bytes=1:=by simpa using V
 clear V;have HI:=za hi;have HZ:=za (And.intro X (And.intro Y Z));clear hi X Y Z;obtain⟨h,A,D,E,H,I,J,K,rfl⟩:=hv8 root hr;clear hr;have HV:Hid (hv [h,A,D,E,H,I,J,K]=#[.int .u8 h.toNat,.int .u8 A.toNat,.int .u8 D.toNat,.int .u8 E.toNat,.int .u8 H.toNat,.int .u8 I.toNat,.int .u8 J.toNat,.int .u8 K.toNat]):=rfl;rw [HV.o];go_enter Tryz.func133,Tryz.ntmps133;go_wp2_with fail;go_loopw [3,7] (fun t i wr=>∃ k:Nat,k≤8∧i= .int .i64 k∧Below w.heap.size w wr∧wr.ownsRow w.heap.size 5 1 t (2*k) ((j2 ([h,A,D,E,H,I,J,K].take k)).map bv)) (fun _ i _=>8 - (intOf i).toNat)
 case atStart=>exact⟨0,Nat.zero_le _,rfl,ze w _,⟨rfl,.inl ⟨rfl,rfl⟩⟩⟩
 case round =>
  obtain⟨k,hk,rfl,S,L⟩:=hrel;have HB:=za S;have HO:=za L;clear S L;by_cases ah:k < 8
  ·obtain⟨c,R⟩:∃ c:UInt8,[h,A,D,E,H,I,J,K][k]?=some c:=⟨[h,A,D,E,H,I,J,K][k],by simp [ah]⟩
   have ap:∀ w0,(Instr.index 92 (.agg #[.int .u8 h.toNat,.int .u8 A.toNat,.int .u8 D.toNat,.int .u8 E.toNat,.int .u8 H.toNat,.int .u8 I.toNat,.int .u8 J.toNat,.int .u8 K.toNat]) (.int .i64 k)).run Tryz.prog w0= .ok (.int .u8 (c.toNat:Int)) w0:=by
    rcases(by omega:k=0∨k=1∨k=2∨k=3∨k=4∨k=5∨k=6∨k=7) with rfl | rfl | rfl | rfl | rfl | rfl | rfl | rfl
    ·obtain rfl:h=c:=by simpa using R
     exact fun w0=>by kernel_rfl
    ·obtain rfl:A=c:=by simpa using R
     exact fun w0=>by kernel_rfl
    ·obtain rfl:D=c:=by simpa using R
     exact fun w0=>by kernel_rfl
    ·obtain rfl:E=c:=by simpa using R
     exact fun w0=>by kernel_rfl
    ·obtain rfl:H=c:=by simpa using R
     exact fun w0=>by kernel_rfl
    ·obtain rfl:I=c:=by simpa using R
     exact fun w0=>by kernel_rfl
    ·obtain rfl:J=c:=by simpa using R
     exact fun w0=>by kernel_rfl
    ·obtain rfl:K=c:=by simpa using R
     exact fun w0=>by kernel_rfl
   have al:=c.toNat_lt;have HS:Hid ((j2 ([h,A,D,E,H,I,J,K].take (k+1))).map bv=(j2 ([h,A,D,E,H,I,J,K].take k)).map bv++[.int .u8 ((zen (c.toNat / 16)).toNat:Int),.int .u8 ((zen (c.toNat % 16)).toNat:Int)]):=by
    show _=_;rw [List.take_add_one,R];unfold j2;rw [List.map_append,List.flatten_append,List.map_append];rfl
   have g1:0≤(c.toNat:Int) / 16∧(c.toNat:Int) / 16 < 16:=by omega
   have g2:0≤(c.toNat:Int) % 16∧(c.toNat:Int) % 16 < 16:=by omega
   have ha:=zwt c;have an:=(z6i ((c.toNat:Int) / 16).toNat (by omega)).trans (congrArg zen (show((c.toNat:Int) / 16).toNat=c.toNat / 16 by omega));have ao:=(z6i ((c.toNat:Int) % 16).toNat (by omega)).trans (congrArg zen (show((c.toNat:Int) % 16).toNat=c.toNat % 16 by omega));have W:Hid (w.heap.size≤wr.heap.size):=HB.o.size;have ac:Hid (∀ o,(wr.alloc o).drew.ownsRow w.heap.size 5 1 u3 (2*k) ((j2 ([h,A,D,E,H,I,J,K].take k)).map bv)):=fun o=>zxa HO.o (ze wr o).drew;go_wp2_with fail
   go_region_law (refine step_append_lies _ (by rfl) _ _ _ (by rfl) w.heap.size 5 i (.int .u8 0) 1 1 Tryz.underlying100 HI.o HZ.o.1 HZ.o.2.1 HZ.o.2.2 rfl (by omega) u3 (2*k) _ (by rfl) (ac.o _) ⟨wr.heap.size,0,none⟩ 2 2 [.int .u8 ((zen (c.toNat / 16)).toNat:Int),.int .u8 ((zen (c.toNat % 16)).toNat:Int)] (by rfl) rfl (World.news_of_block (heap_alloc_last _ _)) (by simp [Value.oneCell']) (by omega) (by unfold maxLen;omega) (by omega) (by have:=W.out;simp;omega) (wr.heap.size+1) (by simp) ?_;intro g ak w3 L U ag ai)
   all_goals
    have aa:Hid (Below w.heap.size w w3):=((HB.o.trans ((ze wr _).mono HB.o.size)).drew).grown U (by have:=W.out;simp;omega) (z1y HO.o);have ad:=za L;clear U ag ai L;go_wp2_with fail;refine⟨⟨k+1,by omega,by go_num,aa.o,by rw [HS.o];exact ad.o⟩,by simp [intOf];omega⟩
  ·obtain rfl:k=8:=by omega
   have am:(convert 100 9 u3).run Tryz.prog wr= .ok (.string ⟨(j2 [h,A,D,E,H,I,J,K]).toArray⟩) wr:=by
    rcases HO.o.2 with ⟨_,h0⟩ | ⟨g,ae,af,rfl,hB,hg,hn,hm,hs,ht⟩
    ·omega
    ·refine run_convert_bytes_back wr _ _ 5 ⟨g,0,none⟩ ae (j2 [h,A,D,E,H,I,J,K]) Tryz.underlying100 Tryz.underlying5 Tryz.underlying9 (fun j hj=>?_);rw [Addr.add_mid,Nat.zero_add,cell_of_row _ _ _ _ _ _ hg];have e:((j2 [h,A,D,E,H,I,J,K]).map bv)[j]?=some (bv (j2 [h,A,D,E,H,I,J,K])[j]):=by simp [hj]
     have aj:af.toList.take (2*8*1)=(j2 [h,A,D,E,H,I,J,K]).map bv:=ht;rw [← aj,List.getElem?_take,if_pos (by rw [vw] at hj;simp at hj;omega)] at e;simpa [bv] using e
   go_wp2_with fail;go_ret;exact⟨rfl,HB.o⟩
theorem zai (n:Int)(h0:0≤n)(h1:n≤9223372036854775807)(w:World):
  Calls Tryz.prog 83 #[.int .i64 n] w fun r w'=>r= .returned (.string ⟨(dec n.toNat).toArray⟩)∧Below w.heap.size w w':=by
 have Q:=za (js n h0 h1);go_enter Tryz.func83,Tryz.ntmps83;go_wp2_with fail;go_loopw [0,3] (fun t u wr=>∃(m:Nat) (D:List UInt8),t= .int .i64 m∧u= .string ⟨D.toArray⟩∧m≤9223372036854775807∧dec n.toNat=dec m++D∧Below w.heap.size w wr) (fun t _ _=>(intOf t).toNat)
 case atStart=>exact⟨n.toNat,[],by rw [show((n.toNat:Nat):Int)=n by omega],rfl,by omega,by simp,Below.refl _ _⟩
 case round =>
  obtain⟨m,D,rfl,rfl,hm,I,E⟩:=hrel;have K:=za I;have H:=za E;have R:D.length≤21:=by have:=Q.o;rw [I,List.length_append] at this;omega
  clear I E;have S:¬ 9223372036854775807 < 1+D.length:=by omega
  by_cases L:m < 10
  ·have J:IntKind.u8.wrap (48+(m:Int))=48+(m:Int):=by rw [IntKind.wrap_u8];omega
   have h:=zi8 (wr.alloc (.cells #[.int .u8 (48+(m:Int))] 5)) wr.heap.size 1 1 [UInt8.ofNat (48+m)] 5 (0,0) rfl (by rw [heap_alloc_last];simp [hv,bv];omega);unfold txt at h;go_wp2_with fail;go_ret;refine⟨?_,H.o.trans ((ze wr _).mono H.o.size)⟩;rw [K.o,zhz L];exact zcf (by apply ByteArray.ext;simp)
  ·have J:IntKind.u8.wrap (48+(m:Int) % 10)=48+(m:Int) % 10:=by rw [IntKind.wrap_u8];omega
   have h:=zi8 (wr.alloc (.cells #[.int .u8 (48+(m:Int) % 10)] 5)) wr.heap.size 1 1 [UInt8.ofNat (48+m % 10)] 5 (0,0) rfl (by rw [heap_alloc_last];simp [hv,bv];omega);unfold txt at h;go_wp2_with fail;refine⟨⟨m / 10,UInt8.ofNat (48+m % 10)::D,by congr 1,?_,by omega,?_,H.o.trans ((ze wr _).mono H.o.size)⟩,by simp [intOf];omega⟩
   ·congr 1;apply ByteArray.ext;simp
   ·rw [K.o,zfj L,List.append_assoc];rfl
theorem zrw:∀ q:Fin 16,((⟨#[48,49,50,51,52,53,54,55,56,57,97,98,99,100,101,102]⟩:ByteArray).extract q.val (q.val+1)).data=#[zen q.val]:=by decide +kernel
theorem zyi (q:Nat)(h:q < 16):(⟨#[48,49,50,51,52,53,54,55,56,57,97,98,99,100,101,102]⟩:ByteArray).extract q (q+1)=⟨#[zen q]⟩:=ByteArray.ext (zrw ⟨q,h⟩)
theorem znk (l:List UInt8)(W:l.length≤1000)(w:World):
  Calls Tryz.prog 109 #[.string ⟨l.toArray⟩] w fun r w'=>r= .returned (.string ⟨(j2 l).toArray⟩)∧Below w.heap.size w w':=by
 go_enter Tryz.func109,Tryz.ntmps109;go_wp2_with fail;go_loopw [4,5] (fun t i wr=>∃ k n:Nat,k≤l.length∧i= .int .i64 k∧t= .string ⟨(j2 (l.take k)).toArray⟩∧wr=w.drewN n) (fun _ i _=>l.length - (intOf i).toNat)
 case atStart=>exact⟨0,0,Nat.zero_le _,rfl,rfl,rfl⟩
 case round =>
  obtain⟨k,n,V,rfl,rfl,rfl⟩:=hrel;by_cases h:k < l.length
  ·have I:(⟨l.toArray⟩:ByteArray)[k]'(by show k < l.toArray.size;simpa using h)=l[k]:=by show l.toArray[k]=_;simp
   have E:Hid (j2 (l.take (k+1))=j2 (l.take k)++[zen (l[k].toNat / 16),zen (l[k].toNat % 16)]):=by
    show _=_;rw [List.take_succ_eq_append_getElem h];unfold j2;rw [List.map_append,List.flatten_append];rfl
   have D:=vw (l.take k);have A:(l.take k).length=k:=by rw [List.length_take];omega
   rw [A] at D;have H:=(l[k]).toNat_lt;generalize j2 (l.take k)=m at *
   generalize l[k]=c at *
   have S:0≤(c.toNat:Int) / 16∧(c.toNat:Int) / 16 < 16:=by omega
   have U:0≤(c.toNat:Int) % 16∧(c.toNat:Int) % 16 < 16:=by omega
   have Q:=zyi (c.toNat / 16) (by omega);have R:=zyi (c.toNat % 16) (by omega);have K:¬ 9223372036854775807 < m.length+1:=by omega
   have L:¬ 9223372036854775807 < m.length+1+1:=by omega
   go_wp2_with fail;go_region;all_goals go_wp2_with fail
   all_goals exact⟨⟨k+1,n+1,by omega,by go_num,by rw [E.o];congr 1;apply ByteArray.ext;simp,rfl⟩,by simp [intOf];omega⟩
  ·go_wp2_with fail;go_ret;rw [List.take_of_length_le (by omega)];exact⟨rfl,⟨rfl,rfl,rfl,Nat.le_refl _,fun _ _=>rfl⟩⟩
end Go.Proofs.YtndkblnpbjffhaaGreatDoor
