import Derived.Test.YtinhekmmdlhfkaaGreatDoorG07
import Derived.Test.YtinhekmmdlhfkaaGreatDoorG08
import Derived.Laws.IdiomStrings
import Derived.Laws.AppendOwn
import Derived.Laws.Closers25
import Derived.Laws.Closers25b
import Derived.BigCall
import Derived.BigGuard
import Derived.Shelf.Strconv.ToError
import Derived.Shelf.LaysC
import Derived.Shelf.LaysM
import Derived.Shelf.Strconv.ToErrorRange
import Derived.Test.YtinhekmmdlhfkaaGreatDoorProg
import Derived.Deep.AppendLies
import Derived.Test.YtinhekmmdlhfkaaGreatDoorG04
namespace Go.Proofs.YtinhekmmdlhfkaaGreatDoor
section
set_option maxHeartbeats 4000000
open Go.RowKit
set_option maxRecDepth 100000
theorem z9u:∀ c:Fin 256,97≤c.val→c.val≤102→bits BinOp.or IntKind.u8 (c.val:Int) 32=(c.val:Int):=by decide +kernel
theorem z42 (c:UInt8)(h1:97≤c.toNat)(h2:c.toNat≤102):bits BinOp.or IntKind.u8 (c.toNat:Int) 32=(c.toNat:Int):=z9u ⟨c.toNat,by have:=c.toNat_lt;omega⟩ h1 h2
theorem zh8 (w:World)(s:ByteArray)(cap:Nat)(k:Nat)(hk:k < s.size):(w.alloc (.cells (bytesRow s cap) 5 ((bytesRow s cap).size,(bytesRow s cap).size+1))).cell? ⟨w.heap.size,k,none⟩=some (bv s[k]):=by
 have hk':k < s.data.size:=hk
 rw [cell_of_row _ _ _ _ _ _ (heap_alloc_last _ _),bytesRow,Array.getElem?_append_left (by simpa using hk'),Array.getElem?_map,Array.getElem?_eq_getElem hk']
 rfl
theorem zp8 (l:List UInt8)(h1:1≤l.length)(h2:l.length≤16)(hg:∀ c∈l,ziy c)(w:World):
  Calls Tryz.prog 136 #[.string ⟨l.toArray⟩,.int .i64 16,.int .i64 64] w fun r w'=>r= .returned (.tuple #[.int .u64 (zdz 0 l:Nat),.nilIface])∧Below w.heap.size w w':=by
 have HG:=za hg
 obtain⟨c0,r0,hl0⟩:∃ c r,l=c::r:=by
  cases l with
  | nil=>simp at h1
  | cons c r=>exact⟨c,r,rfl⟩
 have hne:(l==[])=false:=by rw [hl0];rfl
 have hemp:l.isEmpty=false:=by rw [hl0];rfl
 clear hl0 hg
 have hcv:=run_bytes_of_string (P:=Tryz.prog) w 9 76 5 ⟨l.toArray⟩ Tryz.underlying9 Tryz.underlying76 Tryz.underlying5
 have HC:Hid (∀ k (hk:k < l.length),(w.alloc (.cells (bytesRow ⟨l.toArray⟩ (grownCap w l.length 0 5)) 5 ((bytesRow ⟨l.toArray⟩ (grownCap w l.length 0 5)).size,(bytesRow ⟨l.toArray⟩ (grownCap w l.length 0 5)).size+1))).cell? ⟨w.heap.size,k,none⟩=some (.int .u8 (l[k].toNat:Int))):=fun k hk=>by
  rw [zh8 w ⟨l.toArray⟩ _ k hk]
  rfl
 have HB:=za (ze w (.cells (bytesRow ⟨l.toArray⟩ (grownCap w l.length 0 5)) 5 ((bytesRow ⟨l.toArray⟩ (grownCap w l.length 0 5)).size,(bytesRow ⟨l.toArray⟩ (grownCap w l.length 0 5)).size+1)))
 have hmx:IntKind.u64.wrap (IntKind.u64.wrap 18446744073709551616 - 1)=18446744073709551615:=by decide
 go_enter Tryz.func136,Tryz.ntmps136
 go_wp2_with fail
 generalize w.alloc (.cells (bytesRow ⟨l.toArray⟩ (grownCap w l.length 0 5)) 5 ((bytesRow ⟨l.toArray⟩ (grownCap w l.length 0 5)).size,(bytesRow ⟨l.toArray⟩ (grownCap w l.length 0 5)).size+1))=W0 at *
 generalize grownCap w l.length 0 5=cp at *
 clear hcv
 go_loopw [12,13,101] (fun t12 t13 i wr=>∃(k:Nat) (a:Int),k≤l.length∧i= .int .i64 k∧t12= .bool false∧t13= .int .u64 a∧Hid (a=(zdz 0 (l.take k):Nat))∧wr=W0.drew) (fun _ _ i _=>l.length - (intOf i).toNat)
 case atStart=>exact⟨0,0,Nat.zero_le _,rfl,rfl,rfl,rfl,rfl⟩
 case round =>
  obtain⟨k,a,hk,rfl,rfl,rfl,ha,rfl⟩:=hrel
  by_cases hlt:k < l.length
  ·have hx:=HC.o k hlt
   have hh:=HG.o l[k] (List.getElem_mem hlt)
   have hn60:zdz 0 (l.take k) < 1152921504606846976:=by
    have:=zwr (l.take k) (fun c hc=>HG.o c (List.mem_of_mem_take hc)) 0 0 (by decide)
    have e:(l.take k).length≤15:=by simp;omega
    have:=Nat.lt_of_lt_of_le this (Nat.pow_le_pow_right (n:=16) (by decide) (show 0+(l.take k).length≤15 by omega))
    exact this
   have hS:zdz 0 (l.take (k+1))=zdz 0 (l.take k)*16+nv l[k]:=by
    rw [List.take_succ_eq_append_getElem hlt,zr2]
    rfl
   have ha':=ha.out
   have i0:0≤a:=by omega
   have i1:a < 1152921504606846976:=by omega
   generalize l[k]=c at *
   unfold ziy at hh
   rcases hh with ⟨d1,d2⟩ | ⟨d1,d2⟩
   ·have HV:Hid (a*16+((c.toNat:Int) - 48)=(zdz 0 (l.take (k+1)):Nat)):=by
     show _=_
     rw [hS]
     unfold nv
     rw [if_pos d2]
     omega
    have e1:((c.toNat:Int)==95)=false:=by rw [beq_eq_false_iff_ne];omega
    clear hn60 hS ha' ha
    go_wp2
    refine⟨⟨k+1,a*16+((c.toNat:Int) - 48),by omega,(by first | rfl | go_num),rfl,(by first | rfl | (congr 1;omega)),HV,trivial⟩,by simp [intOf];omega⟩
   ·have HV:Hid (a*16+((c.toNat:Int) - 97+10)=(zdz 0 (l.take (k+1)):Nat)):=by
     show _=_
     rw [hS]
     unfold nv
     rw [if_neg (by omega)]
     omega
    have e1:((c.toNat:Int)==95)=false:=by rw [beq_eq_false_iff_ne];omega
    have ho:=z42 c d1 d2
    clear hn60 hS ha' ha
    go_wp2
    refine⟨⟨k+1,a*16+((c.toNat:Int) - 97+10),by omega,(by first | rfl | go_num),rfl,(by first | rfl | (congr 1;omega)),HV,trivial⟩,by simp [intOf];omega⟩
  ·have ha':=ha.out
   rw [List.take_of_length_le (by omega)] at ha'
   have HA:=za ha'
   clear ha' ha
   go_wp2_with fail
   go_ret2
   exact⟨by rw [HA.o];rfl,HB.o.drew⟩
theorem zsd (l:List UInt8)(h2:l.length≤1000000000)(w:World):
  Calls Tryz.prog 136 #[.string ⟨l.toArray⟩,.int .i64 16,.int .i64 64] w fun r w'=>∃ v e,r= .returned (.tuple #[.int .u64 v,e])∧0≤v∧v≤18446744073709551615∧(e= .nilIface∨e= .iface 294 (.int .i64 1)∨e= .iface 294 (.int .i64 2))∧Below w.heap.size w w':=by
 cases l with
 | nil =>
  go_enter Tryz.func136,Tryz.ntmps136
  go_wp2_with fail
  go_ret2
  exact⟨_,_,rfl,by decide,by decide,.inr (.inr rfl),Below.refl _ _⟩
 | cons c0 r0 =>
  have hcv:=run_bytes_of_string (P:=Tryz.prog) w 9 76 5 ⟨(c0::r0).toArray⟩ Tryz.underlying9 Tryz.underlying76 Tryz.underlying5
  have hne:(c0::r0==[])=false:=rfl
  have hemp:(c0::r0).isEmpty=false:=rfl
  generalize c0::r0=l at *
  have HC:Hid (∀ k (hk:k < l.length),(w.alloc (.cells (bytesRow ⟨l.toArray⟩ (grownCap w l.length 0 5)) 5 ((bytesRow ⟨l.toArray⟩ (grownCap w l.length 0 5)).size,(bytesRow ⟨l.toArray⟩ (grownCap w l.length 0 5)).size+1))).cell? ⟨w.heap.size,k,none⟩=some (.int .u8 (l[k].toNat:Int))):=fun k hk=>by
   rw [zh8 w ⟨l.toArray⟩ _ k hk]
   rfl
  have HB:=za (ze w (.cells (bytesRow ⟨l.toArray⟩ (grownCap w l.length 0 5)) 5 ((bytesRow ⟨l.toArray⟩ (grownCap w l.length 0 5)).size,(bytesRow ⟨l.toArray⟩ (grownCap w l.length 0 5)).size+1)))
  have hmx:IntKind.u64.wrap (IntKind.u64.wrap 18446744073709551616 - 1)=18446744073709551615:=by decide
  go_enter Tryz.func136,Tryz.ntmps136
  go_wp2_with fail
  generalize w.alloc (.cells (bytesRow ⟨l.toArray⟩ (grownCap w l.length 0 5)) 5 ((bytesRow ⟨l.toArray⟩ (grownCap w l.length 0 5)).size,(bytesRow ⟨l.toArray⟩ (grownCap w l.length 0 5)).size+1))=W0 at *
  generalize grownCap w l.length 0 5=cp at *
  clear hcv
  go_loopw [12,13,101] (fun t12 t13 i wr=>∃(k:Nat) (a:Int),k≤l.length∧i= .int .i64 k∧t12= .bool false∧t13= .int .u64 a∧0≤a∧a≤18446744073709551615∧wr=W0.drew) (fun _ _ i _=>l.length - (intOf i).toNat)
  case atStart=>exact⟨0,0,Nat.zero_le _,rfl,rfl,rfl,by decide,by decide,rfl⟩
  case round =>
   obtain⟨k,a,hk,rfl,rfl,rfl,i0,i1,rfl⟩:=hrel
   by_cases hlt:k < l.length
   ·have hx:=HC.o k hlt
    have hc:=(l[k]).toNat_lt
    generalize l[k]=c at *
    have hv0:=bits_lo_u8 .or (c.toNat:Int) 32
    have hv1:=bits_hi_u8 .or (c.toNat:Int) 32
    have hu0:=bits_lo_u8 .or 95 32
    have hu1:=bits_hi_u8 .or 95 32
    go_wp2
    all_goals first
     | (go_ret2;exact⟨_,_,rfl,by decide,by decide,.inr (.inr rfl),HB.o.drew⟩)
     | (go_ret2;exact⟨_,_,rfl,by decide,by decide,.inr (.inl rfl),HB.o.drew⟩)
     | (refine⟨⟨k+1,_,by omega,(by first | rfl | go_num),rfl,rfl,by omega,by omega,trivial⟩,by simp [intOf];omega⟩)
   ·go_wp2_with fail
    go_ret2
    exact⟨_,_,rfl,i0,i1,.inl rfl,HB.o.drew⟩
end
end Go.Proofs.YtinhekmmdlhfkaaGreatDoor
namespace Go.Proofs
open Go.Shelf
def Tryz.laysC245_ren:Go.Shelf.Ren:=⟨fun | 245=>137 | 279=>178 | 280=>179 | 281=>180 | 282=>181 | 316=>196 | 171=>118 | 205=>197 | 243=>162 | 246=>191 | 283=>200 | 284=>201 | 285=>202 | 286=>203 | 129=>115 | 317=>211 | 318=>212 | 319=>213 | 320=>143 | 337=>183 | 338=>184 | n=>n,fun | 9=>9 | 3=>3 | 75=>70 | 167=>294 | 4=>4 | 168=>297 | 210=>314 | 37=>76 | 0=>0 | 127=>325 | 145=>328 | 143=>326 | 2=>2 | 171=>321 | 53=>199 | 5=>5 | 173=>323 | 212=>331 | 51=>136 | 20=>20 | 213=>332 | 46=>155 | 232=>318 | 233=>319 | 80=>339 | n=>n,fun | 15=>8 | 16=>9 | 17=>13 | 18=>10 | 19=>11 | n=>n⟩
theorem Tryz.laysC245:Go.Proofs.LaysC.n245 Tryz.prog Tryz.laysC245_ren:={
 mixed:=by kernel_rfl
 f129:=Tryz.func115.trans (congrArg some (by kernel_rfl))
 f171:=Tryz.func118.trans (congrArg some (by kernel_rfl))
 f205:=Tryz.func197.trans (congrArg some (by kernel_rfl))
 f243:=Tryz.func162.trans (congrArg some (by kernel_rfl))
 f245:=Tryz.func137.trans (congrArg some (by kernel_rfl))
 f246:=Tryz.func191.trans (congrArg some (by kernel_rfl))
 f279:=Tryz.func178.trans (congrArg some (by kernel_rfl))
 f280:=Tryz.func179.trans (congrArg some (by kernel_rfl))
 f281:=Tryz.func180.trans (congrArg some (by kernel_rfl))
 f282:=Tryz.func181.trans (congrArg some (by kernel_rfl))
 f283:=Tryz.func200.trans (congrArg some (by kernel_rfl))
 f284:=Tryz.func201.trans (congrArg some (by kernel_rfl))
 f285:=Tryz.func202.trans (congrArg some (by kernel_rfl))
 f286:=Tryz.func203.trans (congrArg some (by kernel_rfl))
 f316:=Tryz.func196.trans (congrArg some (by kernel_rfl))
 f317:=Tryz.func211.trans (congrArg some (by kernel_rfl))
 f318:=Tryz.func212.trans (congrArg some (by kernel_rfl))
 f319:=Tryz.func213.trans (congrArg some (by kernel_rfl))
 f320:=Tryz.func143.trans (congrArg some (by kernel_rfl))
 f337:=Tryz.func183.trans (congrArg some (by kernel_rfl))
 f338:=Tryz.func184.trans (congrArg some (by kernel_rfl))
 t0:=Tryz.underlying0
 a0:=Tryz.isAgg0
 z0:=Tryz.sizeOf0
 v0:=Tryz.zeroValue0
 t2:=Tryz.underlying2
 a2:=Tryz.isAgg2
 z2:=Tryz.sizeOf2
 v2:=Tryz.zeroValue2
 t3:=Tryz.underlying3
 a3:=Tryz.isAgg3
 z3:=Tryz.sizeOf3
 v3:=Tryz.zeroValue3
 t4:=Tryz.underlying4
 a4:=Tryz.isAgg4
 z4:=Tryz.sizeOf4
 v4:=Tryz.zeroValue4
 t5:=Tryz.underlying5
 a5:=Tryz.isAgg5
 z5:=Tryz.sizeOf5
 v5:=Tryz.zeroValue5
 t9:=Tryz.underlying9
 a9:=Tryz.isAgg9
 z9:=Tryz.sizeOf9
 v9:=Tryz.zeroValue9
 t20:=Tryz.underlying20
 a20:=Tryz.isAgg20
 z20:=Tryz.sizeOf20
 v20:=Tryz.zeroValue20
 t37:=Tryz.underlying76
 a37:=Tryz.isAgg76
 z37:=Tryz.sizeOf76
 v37:=Tryz.zeroValue76
 t46:=Tryz.underlying155
 a46:=Tryz.isAgg155
 z46:=Tryz.sizeOf155
 v46:=Tryz.zeroValue155
 t51:=Tryz.underlying136
 a51:=Tryz.isAgg136
 z51:=Tryz.sizeOf136
 v51:=Tryz.zeroValue136
 t53:=Tryz.underlying199
 a53:=Tryz.isAgg199
 z53:=Tryz.sizeOf199
 v53:=Tryz.zeroValue199
 t75:=Tryz.underlying70
 a75:=Tryz.isAgg70
 z75:=Tryz.sizeOf70
 v75:=Tryz.zeroValue70
 t127:=Tryz.underlying325
 a127:=Tryz.isAgg325
 z127:=Tryz.sizeOf325
 v127:=Tryz.zeroValue325
 t143:=Tryz.underlying326
 a143:=Tryz.isAgg326
 z143:=Tryz.sizeOf326
 v143:=Tryz.zeroValue326
 t145:=Tryz.underlying328
 a145:=Tryz.isAgg328
 z145:=Tryz.sizeOf328
 v145:=Tryz.zeroValue328
 t167:=Tryz.underlying294
 a167:=Tryz.isAgg294
 z167:=Tryz.sizeOf294
 v167:=Tryz.zeroValue294
 t168:=Tryz.underlying297
 a168:=Tryz.isAgg297
 z168:=Tryz.sizeOf297
 v168:=Tryz.zeroValue297
 t171:=Tryz.underlying321
 a171:=Tryz.isAgg321
 z171:=Tryz.sizeOf321
 v171:=Tryz.zeroValue321
 t173:=Tryz.underlying323
 a173:=Tryz.isAgg323
 z173:=Tryz.sizeOf323
 v173:=Tryz.zeroValue323
 t210:=Tryz.underlying314
 a210:=Tryz.isAgg314
 z210:=Tryz.sizeOf314
 v210:=Tryz.zeroValue314
 t212:=Tryz.underlying331
 a212:=Tryz.isAgg331
 z212:=Tryz.sizeOf331
 v212:=Tryz.zeroValue331
 t213:=Tryz.underlying332
 a213:=Tryz.isAgg332
 z213:=Tryz.sizeOf332
 t232:=Tryz.underlying318
 a232:=Tryz.isAgg318
 z232:=Tryz.sizeOf318
 v232:=Tryz.zeroValue318
 t233:=Tryz.underlying319
 a233:=Tryz.isAgg319
 z233:=Tryz.sizeOf319
 v233:=Tryz.zeroValue319
 g15:=by kernel_rfl
 g16:=by kernel_rfl
 g17:=by kernel_rfl
 g18:=by kernel_rfl
 g19:=by kernel_rfl
 t80:=Tryz.underlying339
 a80:=Tryz.isAgg339
 z80:=Tryz.sizeOf339
 v80:=Tryz.zeroValue339
 i0:=by kernel_rfl
 i2:=by kernel_rfl
 i3:=by kernel_rfl
 i4:=by kernel_rfl
 i5:=by kernel_rfl
 i9:=by kernel_rfl
 i20:=by kernel_rfl
 i37:=by kernel_rfl
 i46:=by kernel_rfl
 i51:=by kernel_rfl
 i53:=by kernel_rfl
 i75:=by kernel_rfl
 i80:=by kernel_rfl
 i127:=by kernel_rfl
 i143:=by kernel_rfl
 i145:=by kernel_rfl
 i167:=by kernel_rfl
 i168:=by kernel_rfl
 i171:=by kernel_rfl
 i173:=by kernel_rfl
 i210:=by kernel_rfl
 i212:=by kernel_rfl
 i232:=by kernel_rfl
 i233:=by kernel_rfl
 m15:=by kernel_rfl
 m16:=by kernel_rfl
 m17:=by kernel_rfl
 m18:=by kernel_rfl
 m19:=by kernel_rfl
 c0:=by kernel_rfl
 c2:=by kernel_rfl
 c3:=by kernel_rfl
 c4:=by kernel_rfl
 c5:=by kernel_rfl
 c9:=by kernel_rfl
 c20:=by kernel_rfl
 c37:=by kernel_rfl
 c46:=by kernel_rfl
 c51:=by kernel_rfl
 c53:=by kernel_rfl
 c75:=by kernel_rfl
 c80:=by kernel_rfl
 c127:=by kernel_rfl
 c143:=by kernel_rfl
 c145:=by kernel_rfl
 c167:=by kernel_rfl
 c168:=by kernel_rfl
 c171:=by kernel_rfl
 c173:=by kernel_rfl
 c210:=by kernel_rfl
 c212:=by kernel_rfl
 c213:=by kernel_rfl
 c232:=by kernel_rfl
 c233:=by kernel_rfl }
end Go.Proofs
namespace Go.Proofs.YtinhekmmdlhfkaaGreatDoor
section
set_option maxHeartbeats 1000000
open Go.RowKit
set_option maxRecDepth 100000
theorem zix (fn l:List UInt8)(hl:l.length≤1000000000)(e:Int)(he:e=1∨e=2)(w:World)(E:Env w):
  Calls Tryz.prog 137 #[.string ⟨fn.toArray⟩,.string ⟨l.toArray⟩,.int .i64 16,.int .i64 64,.iface 294 (.int .i64 e)] w fun r w'=>∃ t p,r= .returned (.iface t p)∧Below w.heap.size w w':=by
 have hsz:(⟨l.toArray⟩:ByteArray).size=l.length:=rfl
 rcases he with rfl | rfl
 ·obtain⟨tp,p,hs⟩:=E.rng
  refine(show Calls Tryz.prog 137 #[.string ⟨fn.toArray⟩,.string ⟨l.toArray⟩,.int .i64 16,.int .i64 64,.iface 294 (.int .i64 1)] w _ from Any.strconv_toError_range Tryz.laysC245 ⟨fn.toArray⟩ ⟨l.toArray⟩ 16 64 (.iface tp p) w (by omega) hs (.inr ⟨tp,p,rfl⟩)).mono ?_
  rintro r w' ⟨N,rfl,-,-,hb⟩
  exact⟨_,_,rfl,hb⟩
 ·obtain⟨tp,p,hs⟩:=E.syn
  refine(show Calls Tryz.prog 137 #[.string ⟨fn.toArray⟩,.string ⟨l.toArray⟩,.int .i64 16,.int .i64 64,.iface 294 (.int .i64 2)] w _ from Any.strconv_toError_syntax Tryz.laysC245 ⟨fn.toArray⟩ ⟨l.toArray⟩ 16 64 (.iface tp p) w (by omega) hs (.inr ⟨tp,p,rfl⟩)).mono ?_
  rintro r w' ⟨N,rfl,-,-,hb⟩
  exact⟨_,_,rfl,hb⟩
theorem zl0 (root:List UInt8)(hr:root.length=8)(w:World):
  Calls Tryz.prog 93 #[.string ⟨(vi root).toArray⟩,.int .i64 16,.int .i64 64] w fun r w'=>r= .returned (.tuple #[.int .u64 (zdz 0 (vi root):Nat),.nilIface])∧Below w.heap.size w w':=by
 have HL:=za (za1 root)
 have HX:=za (znq root)
 generalize vi root=l at *
 go_enter Tryz.func93,Tryz.ntmps93
 go_wp2_with fail
 refine(zp8 l (by rw [HL.o];omega) (by rw [HL.o];omega) HX.o w).mono ?_
 rintro r w1 ⟨rfl,hb⟩
 have HB:=za hb
 clear hb
 generalize hv:((zdz 0 l:Nat):Int)=v
 have HV:=za hv
 clear hv
 go_wp2_with fail
 go_ret2
 exact⟨by rw [HV.o];rfl,HB.o⟩
theorem znz (l:List UInt8)(hl:l.length≤1000000000)(w:World)(E:Env w):
  Calls Tryz.prog 93 #[.string ⟨l.toArray⟩,.int .i64 16,.int .i64 64] w fun r w'=>∃ v e,r= .returned (.tuple #[.int .u64 v,e])∧0≤v∧v≤18446744073709551615∧(e= .nilIface∨∃ t p,e= .iface t p)∧Below w.heap.size w w':=by
 have HE:=za E
 clear E
 go_enter Tryz.func93,Tryz.ntmps93
 go_wp2_with fail
 refine(zsd l hl w).mono ?_
 rintro r w1 ⟨v,e,rfl,v0,v1,he,hb⟩
 have HB:=za hb
 have HV:=za (And.intro v0 v1)
 clear hb v0 v1
 rcases he with rfl | rfl | rfl
 ·go_wp2_with fail
  go_ret2
  exact⟨_,_,rfl,HV.o.1,HV.o.2,.inl rfl,HB.o⟩
 ·go_wp2_with fail
  refine(zix [80,97,114,115,101,85,105,110,116] l hl 1 (.inl rfl) w1 (HE.o.below HB.o)).mono ?_
  rintro r w2 ⟨t,p,rfl,hb2⟩
  have HB2:Hid (Below w.heap.size w w2):=HB.o.trans (hb2.mono HB.o.size)
  clear hb2
  go_wp2_with fail
  go_ret2
  exact⟨_,_,rfl,HV.o.1,HV.o.2,.inr ⟨_,_,rfl⟩,HB2.o⟩
 ·go_wp2_with fail
  refine(zix [80,97,114,115,101,85,105,110,116] l hl 2 (.inr rfl) w1 (HE.o.below HB.o)).mono ?_
  rintro r w2 ⟨t,p,rfl,hb2⟩
  have HB2:Hid (Below w.heap.size w w2):=HB.o.trans (hb2.mono HB.o.size)
  clear hb2
  go_wp2_with fail
  go_ret2
  exact⟨_,_,rfl,HV.o.1,HV.o.2,.inr ⟨_,_,rfl⟩,HB2.o⟩
theorem zrp (l:List UInt8)(hl:l.length≤1000000000)(w:World)(E:Env w):
  Calls Tryz.prog 92 #[.string ⟨l.toArray⟩,.string ⟨#[10]⟩,.int .i64 4] w fun r w'=>∃ ps:List ByteArray,ps.map (·.data.toList)=Lib.splitK [10] 0 (min 4 (l.length+1) - 1) l ∧
   r= .returned (.slice (some ⟨w.heap.size,0,none⟩) ps.length (min 4 (l.length+1)))∧w'=w.alloc (.cells (Lib.cellsOf ps (min 4 (l.length+1))) 9):=by
 obtain⟨m,hm⟩:=E.max
 have hsz:(⟨l.toArray⟩:ByteArray).size=l.length:=rfl
 refine(show Calls Tryz.prog 92 #[.string ⟨l.toArray⟩,.string ⟨#[10]⟩,.int .i64 4] w _ from Any.strings_SplitN Tryz.lays147 (by kernel_rfl) ⟨l.toArray⟩ ⟨#[10]⟩ 4 m w (by omega) hm (by decide) (by decide) (by decide)).mono ?_
 rintro r w' ⟨rfl,rfl⟩
 exact⟨_,Lib.splitB_data _ _ _ _,rfl,rfl⟩
end
section
set_option maxHeartbeats 2000000
open Go.RowKit
set_option maxRecDepth 100000
theorem zzz:(Tryz.prog.info? 5).map (fun i=>(i.zero,i.size,i.bytes))=some (some (.int .u8 0),1,1):=by kernel_rfl
theorem zkm {w:World}{g:Nat}{o:Obj}(h:w.heap[g]?=some o):g < w.heap.size:=by
 rcases Nat.lt_or_ge g w.heap.size with h' | h'
 ·exact h'
 ·simp [Array.getElem?_eq_none h'] at h
theorem ztx {w w':World}{B:Nat}{e:TypeId}{s:Nat}{v:Value}{n:Nat}{xs:List Value}(h:w.ownsRow B e s v n xs)(hb:Below w.heap.size w w'):w'.ownsRow B e s v n xs:=by
 refine⟨h.1,?_⟩
 rcases h.2 with h | ⟨g,cap,cur,e1,e2,e3,r⟩
 ·exact .inl h
 ·exact .inr ⟨g,cap,cur,e1,e2,by rw [hb.block g (zkm e3)];exact e3,r⟩
theorem zxh {w:World}{B:Nat}{e:TypeId}{s:Nat}{v:Value}{n:Nat}{xs:List Value}(h:w.ownsRow B e s v n xs):∀ k,v.ownBlock=some k→B≤k:=by
 intro k hk
 rcases h.2 with ⟨rfl,_⟩ | ⟨g,cap,cur,rfl,hB,_⟩
 ·simp [Value.ownBlock] at hk
 ·simp only [Value.ownBlock,Option.some.injEq] at hk
  omega
theorem z6b:∀ q:Fin 16,(⟨#[48,49,50,51,52,53,54,55,56,57,97,98,99,100,101,102]⟩:ByteArray)[q.val]'(q.isLt)=zfw q.val:=by decide +kernel
theorem z00 (q:Nat)(h:q < 16):(⟨#[48,49,50,51,52,53,54,55,56,57,97,98,99,100,101,102]⟩:ByteArray)[q]'h=zfw q:=z6b ⟨q,h⟩
theorem z9o:∀ c:Fin 256,bits BinOp.and IntKind.u8 (c.val:Int) 15=(c.val:Int) % 16:=by decide +kernel
theorem zup (c:UInt8):bits BinOp.and IntKind.u8 (c.toNat:Int) 15=(c.toNat:Int) % 16:=z9o ⟨c.toNat,c.toNat_lt⟩
theorem zfp (root:List UInt8)(hr:root.length=8)(w:World):
  Calls Tryz.prog 139 #[.agg (hv root)] w fun r w'=>r= .returned (.string ⟨(vi root).toArray⟩)∧Below w.heap.size w w':=by
 obtain⟨i,hi,hi'⟩:=Option.map_eq_some_iff.1 zzz
 obtain⟨hz0,hz1,hz2⟩:i.zero=some (.int .u8 0)∧i.size=1∧i.bytes=1:=by simpa using hi'
 clear hi'
 have HI:=za hi
 have HZ:=za (And.intro hz0 (And.intro hz1 hz2))
 clear hi hz0 hz1 hz2
 obtain⟨b0,b1,b2,b3,b4,b5,b6,b7,rfl⟩:=hv8 root hr
 clear hr
 have HV:Hid (hv [b0,b1,b2,b3,b4,b5,b6,b7]=#[.int .u8 b0.toNat,.int .u8 b1.toNat,.int .u8 b2.toNat,.int .u8 b3.toNat,.int .u8 b4.toNat,.int .u8 b5.toNat,.int .u8 b6.toNat,.int .u8 b7.toNat]):=rfl
 rw [HV.o]
 go_enter Tryz.func139,Tryz.ntmps139
 go_wp2_with fail
 go_loopw [3,7] (fun t i wr=>∃ k:Nat,k≤8∧i= .int .i64 k∧Below w.heap.size w wr∧wr.ownsRow w.heap.size 5 1 t (2*k) ((vi ([b0,b1,b2,b3,b4,b5,b6,b7].take k)).map bv)) (fun _ i _=>8 - (intOf i).toNat)
 case atStart=>exact⟨0,Nat.zero_le _,rfl,ze w _,⟨rfl,.inl ⟨rfl,rfl⟩⟩⟩
 case round =>
  obtain⟨k,hk,rfl,hbe,hown⟩:=hrel
  have HB:=za hbe
  have HO:=za hown
  clear hbe hown
  by_cases hlt:k < 8
  ·obtain⟨c,hc⟩:∃ c:UInt8,[b0,b1,b2,b3,b4,b5,b6,b7][k]?=some c:=⟨[b0,b1,b2,b3,b4,b5,b6,b7][k],by simp [hlt]⟩
   have hix:∀ w0,(Instr.index 91 (.agg #[.int .u8 b0.toNat,.int .u8 b1.toNat,.int .u8 b2.toNat,.int .u8 b3.toNat,.int .u8 b4.toNat,.int .u8 b5.toNat,.int .u8 b6.toNat,.int .u8 b7.toNat]) (.int .i64 k)).run Tryz.prog w0= .ok (.int .u8 (c.toNat:Int)) w0:=by
    rcases(by omega:k=0∨k=1∨k=2∨k=3∨k=4∨k=5∨k=6∨k=7) with rfl | rfl | rfl | rfl | rfl | rfl | rfl | rfl
    ·obtain rfl:b0=c:=by simpa using hc
     exact fun w0=>by kernel_rfl
    ·obtain rfl:b1=c:=by simpa using hc
     exact fun w0=>by kernel_rfl
    ·obtain rfl:b2=c:=by simpa using hc
     exact fun w0=>by kernel_rfl
    ·obtain rfl:b3=c:=by simpa using hc
     exact fun w0=>by kernel_rfl
    ·obtain rfl:b4=c:=by simpa using hc
     exact fun w0=>by kernel_rfl
    ·obtain rfl:b5=c:=by simpa using hc
     exact fun w0=>by kernel_rfl
    ·obtain rfl:b6=c:=by simpa using hc
     exact fun w0=>by kernel_rfl
    ·obtain rfl:b7=c:=by simpa using hc
     exact fun w0=>by kernel_rfl
   have hcl:=c.toNat_lt
   have HS:Hid ((vi ([b0,b1,b2,b3,b4,b5,b6,b7].take (k+1))).map bv=(vi ([b0,b1,b2,b3,b4,b5,b6,b7].take k)).map bv++[.int .u8 ((zfw (c.toNat / 16)).toNat:Int),.int .u8 ((zfw (c.toNat % 16)).toNat:Int)]):=by
    show _=_
    rw [List.take_add_one,hc]
    unfold vi
    rw [List.map_append,List.flatten_append,List.map_append]
    rfl
   have g1:0≤(c.toNat:Int) / 16∧(c.toNat:Int) / 16 < 16:=by omega
   have g2:0≤(c.toNat:Int) % 16∧(c.toNat:Int) % 16 < 16:=by omega
   have ha:=zup c
   have hd1:=(z00 ((c.toNat:Int) / 16).toNat (by omega)).trans (congrArg zfw (show((c.toNat:Int) / 16).toNat=c.toNat / 16 by omega))
   have hd2:=(z00 ((c.toNat:Int) % 16).toNat (by omega)).trans (congrArg zfw (show((c.toNat:Int) % 16).toNat=c.toNat % 16 by omega))
   have hsz:Hid (w.heap.size≤wr.heap.size):=HB.o.size
   have HO1:Hid (∀ o,(wr.alloc o).drew.ownsRow w.heap.size 5 1 u3 (2*k) ((vi ([b0,b1,b2,b3,b4,b5,b6,b7].take k)).map bv)):=fun o=>ztx HO.o (ze wr o).drew
   go_wp2_with fail
   go_region_law (refine step_append_lies _ (by rfl) _ _ _ (by rfl) w.heap.size 5 i (.int .u8 0) 1 1 Tryz.underlying76 HI.o HZ.o.1 HZ.o.2.1 HZ.o.2.2 rfl (by omega) u3 (2*k) _ (by rfl) (HO1.o _) ⟨wr.heap.size,0,none⟩ 2 2 [.int .u8 ((zfw (c.toNat / 16)).toNat:Int),.int .u8 ((zfw (c.toNat % 16)).toNat:Int)] (by rfl) rfl (World.news_of_block (heap_alloc_last _ _)) (by simp [Value.oneCell']) (by omega) (by unfold maxLen;omega) (by omega) (by have:=hsz.out;simp;omega) (wr.heap.size+1) (by simp) ?_;intro g cap' w3 hown hgrow hat hltg)
   all_goals
    have HB3:Hid (Below w.heap.size w w3):=((HB.o.trans ((ze wr _).mono HB.o.size)).drew).grown hgrow (by have:=hsz.out;simp;omega) (zxh HO.o)
    have HO3:=za hown
    clear hgrow hat hltg hown
    go_wp2_with fail
    refine⟨⟨k+1,by omega,by go_num,HB3.o,by rw [HS.o];exact HO3.o⟩,by simp [intOf];omega⟩
  ·obtain rfl:k=8:=by omega
   have hcv:(convert 76 9 u3).run Tryz.prog wr= .ok (.string ⟨(vi [b0,b1,b2,b3,b4,b5,b6,b7]).toArray⟩) wr:=by
    rcases HO.o.2 with ⟨_,h0⟩ | ⟨g,cap,cur,rfl,hB,hg,hn,hm,hs,ht⟩
    ·omega
    ·refine run_convert_bytes_back wr _ _ 5 ⟨g,0,none⟩ cap (vi [b0,b1,b2,b3,b4,b5,b6,b7]) Tryz.underlying76 Tryz.underlying5 Tryz.underlying9 (fun j hj=>?_)
     rw [Addr.add_mid,Nat.zero_add,cell_of_row _ _ _ _ _ _ hg]
     have e:((vi [b0,b1,b2,b3,b4,b5,b6,b7]).map bv)[j]?=some (bv (vi [b0,b1,b2,b3,b4,b5,b6,b7])[j]):=by simp [hj]
     have ht':cur.toList.take (2*8*1)=(vi [b0,b1,b2,b3,b4,b5,b6,b7]).map bv:=ht
     rw [← ht',List.getElem?_take,if_pos (by rw [za1] at hj;simp at hj;omega)] at e
     simpa [bv] using e
   go_wp2_with fail
   go_ret
   exact⟨rfl,HB.o⟩
end
section
open Go.RowKit
set_option maxRecDepth 100000
end
section
open Go.RowKit
set_option maxRecDepth 100000
end
section
open Go.RowKit
set_option maxRecDepth 100000
end
section
set_option maxHeartbeats 4000000
open Go.RowKit
set_option maxRecDepth 100000
theorem z4r (d h:List UInt8):(⟨#[116,105,108,101,115,10]⟩++⟨d.toArray⟩++⟨#[10]⟩++⟨h.toArray⟩++⟨#[10]⟩:ByteArray)=⟨(zcz++d++[10]++h++[10]).toArray⟩:=by
 apply ByteArray.ext
 simp [zcz]
def tv (n:Int)(b0 b1 b2 b3 b4 b5 b6 b7:UInt8):Array Value:=#[.int .i64 n,.int .u8 b0.toNat,.int .u8 b1.toNat,.int .u8 b2.toNat,.int .u8 b3.toNat,.int .u8 b4.toNat,.int .u8 b5.toNat,.int .u8 b6.toNat,.int .u8 b7.toNat]
theorem zgo {w:World}{g:Nat}{x0 x1 x2 x3 x4 x5 x6 x7 x8:Value}{t:TypeId}{fr:Nat×Nat}(h:w.heap[g]?=some (.cells #[x0,x1,x2,x3,x4,x5,x6,x7,x8] t fr)):
  w.cell? ⟨g,0,none⟩=some x0∧w.cell? ⟨g,1,none⟩=some x1∧w.cell? ⟨g,2,none⟩=some x2∧w.cell? ⟨g,3,none⟩=some x3∧w.cell? ⟨g,4,none⟩=some x4∧w.cell? ⟨g,5,none⟩=some x5∧w.cell? ⟨g,6,none⟩=some x6∧w.cell? ⟨g,7,none⟩=some x7∧w.cell? ⟨g,8,none⟩=some x8:=by
 refine⟨?_,?_,?_,?_,?_,?_,?_,?_,?_⟩<;>rw [cell_of_row _ _ _ _ _ _ h]<;>rfl
theorem zw0 (w:World)(k:List UInt8)(c:Nat):Bs (w.alloc (.cells (bytesRow ⟨k.toArray⟩ c) 5 ((bytesRow ⟨k.toArray⟩ c).size,(bytesRow ⟨k.toArray⟩ c).size+1))) (.slice (some ⟨w.heap.size,0,none⟩) k.length c) k :=
 ⟨_,_,rfl,.inr ⟨w.heap.size,0,rfl,fun i hi=>by
  rw [Nat.zero_add,zh8 w ⟨k.toArray⟩ c i hi]
  rfl⟩⟩
theorem zua (w:World)(k l:List UInt8)(c1 c2:Nat):
  Bss ((((w.alloc (.cells (bytesRow ⟨k.toArray⟩ c1) 5 ((bytesRow ⟨k.toArray⟩ c1).size,(bytesRow ⟨k.toArray⟩ c1).size+1))).alloc (.cells #[.int .u8 0] 5)).alloc (.cells (bytesRow ⟨l.toArray⟩ c2) 5 ((bytesRow ⟨l.toArray⟩ c2).size,(bytesRow ⟨l.toArray⟩ c2).size+1))).alloc
   (.cells #[.slice (some ⟨w.heap.size,0,none⟩) k.length c1,.slice (some ⟨w.heap.size+1,0,none⟩) 1 1,.slice (some ⟨w.heap.size+1+1,0,none⟩) l.length c2] 76)) (.slice (some ⟨w.heap.size+1+1+1,0,none⟩) 3 3) [k,[0],l]:=by
 have h1:=zw0 w k c1
 have s1:(w.alloc (.cells (bytesRow ⟨k.toArray⟩ c1) 5 ((bytesRow ⟨k.toArray⟩ c1).size,(bytesRow ⟨k.toArray⟩ c1).size+1))).heap.size=w.heap.size+1:=by simp
 generalize w.alloc (.cells (bytesRow ⟨k.toArray⟩ c1) 5 ((bytesRow ⟨k.toArray⟩ c1).size,(bytesRow ⟨k.toArray⟩ c1).size+1))=w1 at *
 have h2:Bs (w1.alloc (.cells #[.int .u8 0] 5)) (.slice (some ⟨w.heap.size+1,0,none⟩) 1 1) [0]:=Bs.fresh w1 [0] 5 (w.heap.size+1) s1.symm 1
 have h1:=h1.below (ze w1 (.cells #[.int .u8 0] 5))
 have s2:(w1.alloc (.cells #[.int .u8 0] 5)).heap.size=w.heap.size+1+1:=by simp [s1]
 generalize w1.alloc (.cells #[.int .u8 0] 5)=w2 at *
 have h3:=zw0 w2 l c2
 rw [s2] at h3
 have h1:=h1.below (ze w2 (.cells (bytesRow ⟨l.toArray⟩ c2) 5 ((bytesRow ⟨l.toArray⟩ c2).size,(bytesRow ⟨l.toArray⟩ c2).size+1)))
 have h2:=h2.below (ze w2 (.cells (bytesRow ⟨l.toArray⟩ c2) 5 ((bytesRow ⟨l.toArray⟩ c2).size,(bytesRow ⟨l.toArray⟩ c2).size+1)))
 have s3:(w2.alloc (.cells (bytesRow ⟨l.toArray⟩ c2) 5 ((bytesRow ⟨l.toArray⟩ c2).size,(bytesRow ⟨l.toArray⟩ c2).size+1))).heap.size=w.heap.size+1+1+1:=by simp [s2]
 generalize w2.alloc (.cells (bytesRow ⟨l.toArray⟩ c2) 5 ((bytesRow ⟨l.toArray⟩ c2).size,(bytesRow ⟨l.toArray⟩ c2).size+1))=w3 at *
 refine⟨_,3,rfl,Nat.le_refl _,.inr ⟨w.heap.size+1+1+1,0,rfl,fun i hi=>?_⟩⟩
 have hb:=ze w3 (.cells #[.slice (some ⟨w.heap.size,0,none⟩) k.length c1,.slice (some ⟨w.heap.size+1,0,none⟩) 1 1,.slice (some ⟨w.heap.size+1+1,0,none⟩) l.length c2] 76)
 rw [Nat.zero_add]
 match i,hi with
 | 0,_=>exact⟨_,zb0 w3 _ _ 0 _ s3.symm,h1.below hb⟩
 | 1,_=>exact⟨_,zb0 w3 _ _ 1 _ s3.symm,h2.below hb⟩
 | 2,_=>exact⟨_,zb0 w3 _ _ 2 _ s3.symm,h3.below hb⟩
theorem zna (n:Int)(h0:0≤n)(h1:n≤9223372036854775807)(b0 b1 b2 b3 b4 b5 b6 b7:UInt8)(key:List UInt8)(hk:key.length≤9223372036854775807)(w:World)(E:Env w):
  Calls Tryz.prog 96 #[.agg (tv n b0 b1 b2 b3 b4 b5 b6 b7),.string ⟨key.toArray⟩] w fun r w'=>r= .returned (.string ⟨(xn n.toNat [b0,b1,b2,b3,b4,b5,b6,b7] key).toArray⟩)∧Below w.heap.size w w':=by
 unfold tv
 have HE:=za E
 clear E
 have HS:Hid (xn n.toNat [b0,b1,b2,b3,b4,b5,b6,b7] key=(zcz++dec n.toNat++[10]++vi [b0,b1,b2,b3,b4,b5,b6,b7]++[10])++vi (hash (key++[0]++(zcz++dec n.toNat++[10]++vi [b0,b1,b2,b3,b4,b5,b6,b7]++[10])))++[10]):=rfl
 have hd:=zbf n h0 h1
 have hx:=za1 [b0,b1,b2,b3,b4,b5,b6,b7]
 simp only [List.length_cons,List.length_nil] at hx
 have HX:=za (zfp [b0,b1,b2,b3,b4,b5,b6,b7] rfl)
 have HI:=za (zbc n h0 h1)
 generalize dec n.toNat=d at *
 generalize vi [b0,b1,b2,b3,b4,b5,b6,b7]=h at *
 have a1:¬ 9223372036854775807 < 6+d.length:=by omega
 have a2:¬ 9223372036854775807 < 6+d.length+1:=by omega
 have a3:¬ 9223372036854775807 < 6+d.length+1+h.length:=by omega
 have a4:¬ 9223372036854775807 < 6+d.length+1+h.length+1:=by omega
 have hle:=z4r d h
 have hll:(zcz++d++[10]++h++[10]).length≤60:=by simp [zcz];omega
 generalize zcz++d++[10]++h++[10]=L at *
 have hcv:∀(w0:World) (s:ByteArray),(convert 9 76 (.string s)).run Tryz.prog w0=_:=fun w0 s=>run_bytes_of_string (P:=Tryz.prog) w0 9 76 5 s Tryz.underlying9 Tryz.underlying76 Tryz.underlying5
 go_enter Tryz.func96,Tryz.ntmps96
 go_wp2_with fail
 go_region_with (first
  | (go_at_call 118;refine(HI.o _ (HE.o.below (ze w _).drew)).mono ?_;rintro r w1 ⟨rfl,hb1⟩;have HB1:Hid (Below w.heap.size w w1):=(ze w _).drew.trans (hb1.mono (by simp));obtain⟨c0,c1,c2,c3,c4,c5,c6,c7,c8⟩:=zgo ((hb1.block w.heap.size (by simp)).trans (heap_alloc_last _ _));clear hb1)
  | (go_at_call 139;refine(HX.o _).mono ?_;rintro r w2 ⟨rfl,hb2⟩;have HB2:Hid (Below w.heap.size w w2):=HB1.o.trans (hb2.mono HB1.o.size);clear hb2))
 all_goals clear c0 c1 c2 c3 c4 c5 c6 c7 c8 HB1 w1
 all_goals
  have hb4:=fun(o1 o2 o3 o4:Obj)=>(je w2 o1 o2 o3).trans ((ze _ o4).mono (by simp;omega))
  have HB4:Hid (∀ o1 o2 o3 o4,Below w.heap.size w ((((w2.alloc o1).alloc o2).alloc o3).alloc o4)):=fun o1 o2 o3 o4=>HB2.o.trans ((hb4 o1 o2 o3 o4).mono HB2.o.size)
  clear hb4
  go_wp2_with fail
  refine(zfk _ [key,[0],L] _ (by simp [maxLen]) (fun x hx=>by simp at hx;rcases hx with rfl | rfl | rfl<;>(unfold maxLen;simp;try omega)) (by exact(zua w2 key L _ _).below ((Below.refl _ _).drew.drew))).mono ?_
  rintro r w5 ⟨hr5,hb5⟩
  have HB5:Hid (Below w.heap.size w w5):=((HB4.o _ _ _ _).drew.drew).trans (hb5.mono (HB4.o _ _ _ _).size)
  rw [show hash [key,[0],L].flatten=hash (key++[0]++L) by simp] at hr5
  subst hr5
  clear hb5 HB4 hcv
  have hhl:=zsu (key++[0]++L)
  generalize hash (key++[0]++L)=H at *
  go_wp2_with fail
  refine(zfp H hhl w5).mono ?_
  rintro r w6 ⟨rfl,hb6⟩
  have HB6:Hid (Below w.heap.size w w6):=HB5.o.trans (hb6.mono HB5.o.size)
  clear hb6
  have hHl:=za1 H
  rw [hhl] at hHl
  generalize vi H=M at *
  have a7:¬ 9223372036854775807 < L.length+M.length:=by omega
  have a8:¬ 9223372036854775807 < L.length+M.length+1:=by omega
  go_wp2_with fail
  go_ret
  refine⟨?_,HB6.o⟩
  rw [HS.o]
  exact zji (by apply ByteArray.ext;simp)
end
end Go.Proofs.YtinhekmmdlhfkaaGreatDoor
