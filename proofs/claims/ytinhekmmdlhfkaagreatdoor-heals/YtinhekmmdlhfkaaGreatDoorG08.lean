import Derived.Shelf.LaysC
import Derived.Shelf.LaysM
import Derived.Shelf.Strconv.AtoiAll
import Derived.Shelf.Strconv.Itoa3
import Derived.Shelf.Strings.Split
import Derived.Test.YtinhekmmdlhfkaaGreatDoorProg
import Derived.Test.YtinhekmmdlhfkaaGreatDoorG06
import Derived.Test.YtinhekmmdlhfkaaGreatDoorG03
import Derived.Test.YtinhekmmdlhfkaaGreatDoorG02
import Derived.WalkSmall
import Derived.Lib.ItoaLen
import Derived.Test.YtinhekmmdlhfkaaGreatDoorG07
namespace Go.Proofs.YtinhekmmdlhfkaaGreatDoor
end Go.Proofs.YtinhekmmdlhfkaaGreatDoor
namespace Go.Proofs
open Go.Shelf
def Tryz.laysM171_ren:Go.Shelf.Ren:=⟨fun | 171=>118 | 243=>162 | 246=>191 | 283=>200 | 284=>201 | 285=>202 | 286=>203 | 129=>115 | 317=>211 | 318=>212 | 319=>213 | 320=>143 | 337=>183 | 338=>184 | n=>n,fun | 3=>3 | 9=>9 | 2=>2 | 4=>4 | 171=>321 | 0=>0 | 53=>199 | 37=>76 | 5=>5 | 173=>323 | 212=>331 | 51=>136 | 20=>20 | 213=>332 | 46=>155 | 232=>318 | 233=>319 | n=>n,fun | 17=>13 | 18=>10 | 19=>11 | n=>n⟩
theorem Tryz.laysM171:Go.Proofs.LaysM.n171 Tryz.prog Tryz.laysM171_ren:={
 mixed:=by kernel_rfl
 f129:=Tryz.func115.trans (congrArg some (by kernel_rfl))
 f171:=Tryz.func118.trans (congrArg some (by kernel_rfl))
 f243:=Tryz.func162.trans (congrArg some (by kernel_rfl))
 f246:=Tryz.func191.trans (congrArg some (by kernel_rfl))
 f283:=Tryz.func200.trans (congrArg some (by kernel_rfl))
 f284:=Tryz.func201.trans (congrArg some (by kernel_rfl))
 f285:=Tryz.func202.trans (congrArg some (by kernel_rfl))
 f286:=Tryz.func203.trans (congrArg some (by kernel_rfl))
 f317:=Tryz.func211.trans (congrArg some (by kernel_rfl))
 f318:=Tryz.func212.trans (congrArg some (by kernel_rfl))
 f319:=Tryz.func213.trans (congrArg some (by kernel_rfl))
 f320:=Tryz.func143.trans (congrArg some (by kernel_rfl))
 f337:=Tryz.func183.trans (congrArg some (by kernel_rfl))
 f338:=Tryz.func184.trans (congrArg some (by kernel_rfl))
 t0:=Tryz.underlying0
 a0:=Tryz.isAgg0
 z0:=Tryz.sizeOf0
 v0:=Tryz.zeroValue0
 t2:=Tryz.underlying2
 a2:=Tryz.isAgg2
 z2:=Tryz.sizeOf2
 v2:=Tryz.zeroValue2
 t3:=Tryz.underlying3
 a3:=Tryz.isAgg3
 z3:=Tryz.sizeOf3
 v3:=Tryz.zeroValue3
 t4:=Tryz.underlying4
 a4:=Tryz.isAgg4
 z4:=Tryz.sizeOf4
 v4:=Tryz.zeroValue4
 t5:=Tryz.underlying5
 a5:=Tryz.isAgg5
 z5:=Tryz.sizeOf5
 v5:=Tryz.zeroValue5
 t9:=Tryz.underlying9
 a9:=Tryz.isAgg9
 z9:=Tryz.sizeOf9
 v9:=Tryz.zeroValue9
 t20:=Tryz.underlying20
 a20:=Tryz.isAgg20
 z20:=Tryz.sizeOf20
 v20:=Tryz.zeroValue20
 t37:=Tryz.underlying76
 a37:=Tryz.isAgg76
 z37:=Tryz.sizeOf76
 v37:=Tryz.zeroValue76
 t46:=Tryz.underlying155
 a46:=Tryz.isAgg155
 z46:=Tryz.sizeOf155
 v46:=Tryz.zeroValue155
 t51:=Tryz.underlying136
 a51:=Tryz.isAgg136
 z51:=Tryz.sizeOf136
 v51:=Tryz.zeroValue136
 t53:=Tryz.underlying199
 a53:=Tryz.isAgg199
 z53:=Tryz.sizeOf199
 v53:=Tryz.zeroValue199
 t171:=Tryz.underlying321
 a171:=Tryz.isAgg321
 z171:=Tryz.sizeOf321
 v171:=Tryz.zeroValue321
 t173:=Tryz.underlying323
 a173:=Tryz.isAgg323
 z173:=Tryz.sizeOf323
 v173:=Tryz.zeroValue323
 t212:=Tryz.underlying331
 a212:=Tryz.isAgg331
 z212:=Tryz.sizeOf331
 v212:=Tryz.zeroValue331
 t213:=Tryz.underlying332
 a213:=Tryz.isAgg332
 z213:=Tryz.sizeOf332
 t232:=Tryz.underlying318
 a232:=Tryz.isAgg318
 z232:=Tryz.sizeOf318
 v232:=Tryz.zeroValue318
 t233:=Tryz.underlying319
 a233:=Tryz.isAgg319
 z233:=Tryz.sizeOf319
 v233:=Tryz.zeroValue319
 g17:=by kernel_rfl
 g18:=by kernel_rfl
 g19:=by kernel_rfl
 i0:=by kernel_rfl
 i2:=by kernel_rfl
 i3:=by kernel_rfl
 i4:=by kernel_rfl
 i5:=by kernel_rfl
 i9:=by kernel_rfl
 i20:=by kernel_rfl
 i37:=by kernel_rfl
 i46:=by kernel_rfl
 i51:=by kernel_rfl
 i53:=by kernel_rfl
 i171:=by kernel_rfl
 i173:=by kernel_rfl
 i212:=by kernel_rfl
 i232:=by kernel_rfl
 i233:=by kernel_rfl
 m17:=by kernel_rfl
 m18:=by kernel_rfl
 m19:=by kernel_rfl }
def Tryz.laysC172_ren:Go.Shelf.Ren:=⟨fun | 172=>138 | 244=>182 | 245=>137 | 247=>198 | 279=>178 | 280=>179 | 281=>180 | 282=>181 | 287=>136 | 316=>196 | 171=>118 | 205=>197 | 321=>176 | 322=>177 | 243=>162 | 246=>191 | 283=>200 | 284=>201 | 285=>202 | 286=>203 | 129=>115 | 317=>211 | 318=>212 | 319=>213 | 320=>143 | 337=>183 | 338=>184 | n=>n,fun | 9=>9 | 3=>3 | 75=>70 | 76=>77 | 4=>4 | 5=>5 | 167=>294 | 37=>76 | 0=>0 | 85=>316 | 2=>2 | 168=>297 | 53=>199 | 175=>200 | 46=>155 | 210=>314 | 127=>325 | 145=>328 | 143=>326 | 21=>21 | 171=>321 | 173=>323 | 212=>331 | 51=>136 | 20=>20 | 213=>332 | 232=>318 | 233=>319 | 80=>339 | n=>n,fun | 15=>8 | 16=>9 | 17=>13 | 18=>10 | 19=>11 | n=>n⟩
theorem Tryz.laysC172:Go.Proofs.LaysC.n172 Tryz.prog Tryz.laysC172_ren:={
 mixed:=by kernel_rfl
 f129:=Tryz.func115.trans (congrArg some (by kernel_rfl))
 f171:=Tryz.func118.trans (congrArg some (by kernel_rfl))
 f172:=Tryz.func138.trans (congrArg some (by kernel_rfl))
 f205:=Tryz.func197.trans (congrArg some (by kernel_rfl))
 f243:=Tryz.func162.trans (congrArg some (by kernel_rfl))
 f244:=Tryz.func182.trans (congrArg some (by kernel_rfl))
 f245:=Tryz.func137.trans (congrArg some (by kernel_rfl))
 f246:=Tryz.func191.trans (congrArg some (by kernel_rfl))
 f247:=Tryz.func198.trans (congrArg some (by kernel_rfl))
 f279:=Tryz.func178.trans (congrArg some (by kernel_rfl))
 f280:=Tryz.func179.trans (congrArg some (by kernel_rfl))
 f281:=Tryz.func180.trans (congrArg some (by kernel_rfl))
 f282:=Tryz.func181.trans (congrArg some (by kernel_rfl))
 f283:=Tryz.func200.trans (congrArg some (by kernel_rfl))
 f284:=Tryz.func201.trans (congrArg some (by kernel_rfl))
 f285:=Tryz.func202.trans (congrArg some (by kernel_rfl))
 f286:=Tryz.func203.trans (congrArg some (by kernel_rfl))
 f287:=Tryz.func136.trans (congrArg some (by kernel_rfl))
 f316:=Tryz.func196.trans (congrArg some (by kernel_rfl))
 f317:=Tryz.func211.trans (congrArg some (by kernel_rfl))
 f318:=Tryz.func212.trans (congrArg some (by kernel_rfl))
 f319:=Tryz.func213.trans (congrArg some (by kernel_rfl))
 f320:=Tryz.func143.trans (congrArg some (by kernel_rfl))
 f321:=Tryz.func176.trans (congrArg some (by kernel_rfl))
 f322:=Tryz.func177.trans (congrArg some (by kernel_rfl))
 f337:=Tryz.func183.trans (congrArg some (by kernel_rfl))
 f338:=Tryz.func184.trans (congrArg some (by kernel_rfl))
 t0:=Tryz.underlying0
 a0:=Tryz.isAgg0
 z0:=Tryz.sizeOf0
 v0:=Tryz.zeroValue0
 t2:=Tryz.underlying2
 a2:=Tryz.isAgg2
 z2:=Tryz.sizeOf2
 v2:=Tryz.zeroValue2
 t3:=Tryz.underlying3
 a3:=Tryz.isAgg3
 z3:=Tryz.sizeOf3
 v3:=Tryz.zeroValue3
 t4:=Tryz.underlying4
 a4:=Tryz.isAgg4
 z4:=Tryz.sizeOf4
 v4:=Tryz.zeroValue4
 t5:=Tryz.underlying5
 a5:=Tryz.isAgg5
 z5:=Tryz.sizeOf5
 v5:=Tryz.zeroValue5
 t9:=Tryz.underlying9
 a9:=Tryz.isAgg9
 z9:=Tryz.sizeOf9
 v9:=Tryz.zeroValue9
 t20:=Tryz.underlying20
 a20:=Tryz.isAgg20
 z20:=Tryz.sizeOf20
 v20:=Tryz.zeroValue20
 t21:=Tryz.underlying21
 a21:=Tryz.isAgg21
 z21:=Tryz.sizeOf21
 v21:=Tryz.zeroValue21
 t37:=Tryz.underlying76
 a37:=Tryz.isAgg76
 z37:=Tryz.sizeOf76
 v37:=Tryz.zeroValue76
 t46:=Tryz.underlying155
 a46:=Tryz.isAgg155
 z46:=Tryz.sizeOf155
 v46:=Tryz.zeroValue155
 t51:=Tryz.underlying136
 a51:=Tryz.isAgg136
 z51:=Tryz.sizeOf136
 v51:=Tryz.zeroValue136
 t53:=Tryz.underlying199
 a53:=Tryz.isAgg199
 z53:=Tryz.sizeOf199
 v53:=Tryz.zeroValue199
 t75:=Tryz.underlying70
 a75:=Tryz.isAgg70
 z75:=Tryz.sizeOf70
 v75:=Tryz.zeroValue70
 t76:=Tryz.underlying77
 a76:=Tryz.isAgg77
 z76:=Tryz.sizeOf77
 v76:=Tryz.zeroValue77
 t85:=Tryz.underlying316
 a85:=Tryz.isAgg316
 z85:=Tryz.sizeOf316
 v85:=Tryz.zeroValue316
 t127:=Tryz.underlying325
 a127:=Tryz.isAgg325
 z127:=Tryz.sizeOf325
 v127:=Tryz.zeroValue325
 t143:=Tryz.underlying326
 a143:=Tryz.isAgg326
 z143:=Tryz.sizeOf326
 v143:=Tryz.zeroValue326
 t145:=Tryz.underlying328
 a145:=Tryz.isAgg328
 z145:=Tryz.sizeOf328
 v145:=Tryz.zeroValue328
 t167:=Tryz.underlying294
 a167:=Tryz.isAgg294
 z167:=Tryz.sizeOf294
 v167:=Tryz.zeroValue294
 t168:=Tryz.underlying297
 a168:=Tryz.isAgg297
 z168:=Tryz.sizeOf297
 v168:=Tryz.zeroValue297
 t171:=Tryz.underlying321
 a171:=Tryz.isAgg321
 z171:=Tryz.sizeOf321
 v171:=Tryz.zeroValue321
 t173:=Tryz.underlying323
 a173:=Tryz.isAgg323
 z173:=Tryz.sizeOf323
 v173:=Tryz.zeroValue323
 t175:=Tryz.underlying200
 a175:=Tryz.isAgg200
 z175:=Tryz.sizeOf200
 v175:=Tryz.zeroValue200
 t210:=Tryz.underlying314
 a210:=Tryz.isAgg314
 z210:=Tryz.sizeOf314
 v210:=Tryz.zeroValue314
 t212:=Tryz.underlying331
 a212:=Tryz.isAgg331
 z212:=Tryz.sizeOf331
 v212:=Tryz.zeroValue331
 t213:=Tryz.underlying332
 a213:=Tryz.isAgg332
 z213:=Tryz.sizeOf332
 t232:=Tryz.underlying318
 a232:=Tryz.isAgg318
 z232:=Tryz.sizeOf318
 v232:=Tryz.zeroValue318
 t233:=Tryz.underlying319
 a233:=Tryz.isAgg319
 z233:=Tryz.sizeOf319
 v233:=Tryz.zeroValue319
 g15:=by kernel_rfl
 g16:=by kernel_rfl
 g17:=by kernel_rfl
 g18:=by kernel_rfl
 g19:=by kernel_rfl
 t80:=Tryz.underlying339
 a80:=Tryz.isAgg339
 z80:=Tryz.sizeOf339
 v80:=Tryz.zeroValue339
 i0:=by kernel_rfl
 i2:=by kernel_rfl
 i3:=by kernel_rfl
 i4:=by kernel_rfl
 i5:=by kernel_rfl
 i9:=by kernel_rfl
 i20:=by kernel_rfl
 i21:=by kernel_rfl
 i37:=by kernel_rfl
 i46:=by kernel_rfl
 i51:=by kernel_rfl
 i53:=by kernel_rfl
 i75:=by kernel_rfl
 i76:=by kernel_rfl
 i80:=by kernel_rfl
 i85:=by kernel_rfl
 i127:=by kernel_rfl
 i143:=by kernel_rfl
 i145:=by kernel_rfl
 i167:=by kernel_rfl
 i168:=by kernel_rfl
 i171:=by kernel_rfl
 i173:=by kernel_rfl
 i175:=by kernel_rfl
 i210:=by kernel_rfl
 i212:=by kernel_rfl
 i232:=by kernel_rfl
 i233:=by kernel_rfl
 m15:=by kernel_rfl
 m16:=by kernel_rfl
 m17:=by kernel_rfl
 m18:=by kernel_rfl
 m19:=by kernel_rfl
 c0:=by kernel_rfl
 c2:=by kernel_rfl
 c3:=by kernel_rfl
 c4:=by kernel_rfl
 c5:=by kernel_rfl
 c9:=by kernel_rfl
 c20:=by kernel_rfl
 c21:=by kernel_rfl
 c37:=by kernel_rfl
 c46:=by kernel_rfl
 c51:=by kernel_rfl
 c53:=by kernel_rfl
 c75:=by kernel_rfl
 c76:=by kernel_rfl
 c80:=by kernel_rfl
 c85:=by kernel_rfl
 c127:=by kernel_rfl
 c143:=by kernel_rfl
 c145:=by kernel_rfl
 c167:=by kernel_rfl
 c168:=by kernel_rfl
 c171:=by kernel_rfl
 c173:=by kernel_rfl
 c175:=by kernel_rfl
 c210:=by kernel_rfl
 c212:=by kernel_rfl
 c213:=by kernel_rfl
 c232:=by kernel_rfl
 c233:=by kernel_rfl }
def Tryz.lays147_ren:Go.Shelf.Ren:=⟨fun | 147=>92 | 221=>135 | 268=>173 | 138=>174 | 143=>175 | 195=>192 | 197=>193 | 218=>194 | 219=>195 | 260=>204 | 217=>205 | 225=>206 | 224=>207 | 267=>208 | 266=>214 | 314=>215 | n=>n,fun | 9=>9 | 3=>3 | 31=>22 | 4=>4 | 0=>0 | 105=>310 | 21=>21 | 5=>5 | 46=>155 | 119=>333 | 139=>336 | 138=>335 | 146=>337 | 51=>136 | n=>n,fun | 1=>12 | 3=>14 | 4=>15 | n=>n⟩
theorem Tryz.lays147:Go.Proofs.Lays.n147 Tryz.prog Tryz.lays147_ren:={
 mixed:=by kernel_rfl
 f138:=Tryz.func174.trans (congrArg some (by kernel_rfl))
 f143:=Tryz.func175.trans (congrArg some (by kernel_rfl))
 f147:=Tryz.func92.trans (congrArg some (by kernel_rfl))
 f195:=Tryz.func192.trans (congrArg some (by kernel_rfl))
 f197:=Tryz.func193.trans (congrArg some (by kernel_rfl))
 f217:=Tryz.func205.trans (congrArg some (by kernel_rfl))
 f218:=Tryz.func194.trans (congrArg some (by kernel_rfl))
 f219:=Tryz.func195.trans (congrArg some (by kernel_rfl))
 f221:=Tryz.func135.trans (congrArg some (by kernel_rfl))
 f224:=Tryz.func207.trans (congrArg some (by kernel_rfl))
 f225:=Tryz.func206.trans (congrArg some (by kernel_rfl))
 f260:=Tryz.func204.trans (congrArg some (by kernel_rfl))
 f266:=Tryz.func214.trans (congrArg some (by kernel_rfl))
 f267:=Tryz.func208.trans (congrArg some (by kernel_rfl))
 f268:=Tryz.func173.trans (congrArg some (by kernel_rfl))
 f314:=Tryz.func215.trans (congrArg some (by kernel_rfl))
 t0:=Tryz.underlying0
 a0:=Tryz.isAgg0
 z0:=Tryz.sizeOf0
 v0:=Tryz.zeroValue0
 t3:=Tryz.underlying3
 a3:=Tryz.isAgg3
 z3:=Tryz.sizeOf3
 v3:=Tryz.zeroValue3
 t4:=Tryz.underlying4
 a4:=Tryz.isAgg4
 z4:=Tryz.sizeOf4
 v4:=Tryz.zeroValue4
 t5:=Tryz.underlying5
 a5:=Tryz.isAgg5
 z5:=Tryz.sizeOf5
 v5:=Tryz.zeroValue5
 t9:=Tryz.underlying9
 a9:=Tryz.isAgg9
 z9:=Tryz.sizeOf9
 v9:=Tryz.zeroValue9
 t21:=Tryz.underlying21
 a21:=Tryz.isAgg21
 z21:=Tryz.sizeOf21
 v21:=Tryz.zeroValue21
 t31:=Tryz.underlying22
 a31:=Tryz.isAgg22
 z31:=Tryz.sizeOf22
 v31:=Tryz.zeroValue22
 t46:=Tryz.underlying155
 a46:=Tryz.isAgg155
 z46:=Tryz.sizeOf155
 v46:=Tryz.zeroValue155
 t51:=Tryz.underlying136
 a51:=Tryz.isAgg136
 z51:=Tryz.sizeOf136
 v51:=Tryz.zeroValue136
 t105:=Tryz.underlying310
 a105:=Tryz.isAgg310
 z105:=Tryz.sizeOf310
 v105:=Tryz.zeroValue310
 t119:=Tryz.underlying333
 a119:=Tryz.isAgg333
 z119:=Tryz.sizeOf333
 t138:=Tryz.underlying335
 a138:=Tryz.isAgg335
 z138:=Tryz.sizeOf335
 v138:=Tryz.zeroValue335
 t139:=Tryz.underlying336
 a139:=Tryz.isAgg336
 z139:=Tryz.sizeOf336
 v139:=Tryz.zeroValue336
 t146:=Tryz.underlying337
 a146:=Tryz.isAgg337
 z146:=Tryz.sizeOf337
 v146:=Tryz.zeroValue337
 g1:=by kernel_rfl
 g3:=by kernel_rfl
 g4:=by kernel_rfl }
end Go.Proofs
namespace Go.Proofs.YtinhekmmdlhfkaaGreatDoor
section
open Go.RowKit
set_option maxRecDepth 100000
theorem globPow:Tryz.prog.globalNamed "internal/strconv.uint64pow10"=some 13:=by kernel_rfl
structure Env (w:World):Prop where
 tab:Lib.TabIs Tryz.prog w "internal/strconv.uint64pow10" .u64 Lib.pow10Tab
 syn:∃ tp p,w.cell? ⟨8,0,none⟩=some (.iface tp p)
 rng:∃ tp p,w.cell? ⟨9,0,none⟩=some (.iface tp p)
 max:∃ m,w.cell? ⟨12,0,none⟩=some (.int .i64 m)
theorem var_lt {w:World}{n:String}{g:Nat}{cs:Array Value}(hg:Tryz.prog.globalNamed n=some g)(h:w.var? Tryz.prog n=some cs):g < w.heap.size:=by
 unfold World.var? at h
 rw [hg] at h
 simp only [Option.bind_some] at h
 rcases Nat.lt_or_ge g w.heap.size with h' | h'
 ·exact h'
 ·simp [Array.getElem?_eq_none h'] at h
theorem Env.below {w w':World}(h:Env w)(hb:Below w.heap.size w w'):Env w':=by
 obtain⟨tp,p,hs⟩:=h.syn
 obtain⟨tp',p',hr⟩:=h.rng
 obtain⟨m,hm⟩:=h.max
 exact⟨var?_below hb globPow (var_lt globPow h.tab) h.tab,⟨tp,p,by rw [hb.cell (cell_lt hs)];exact hs⟩,⟨tp',p',by rw [hb.cell (cell_lt hr)];exact hr⟩,⟨m,by rw [hb.cell (cell_lt hm)];exact hm⟩⟩
theorem below_grew (w:World)(k:Nat)(os:Array Obj):Below w.heap.size w (Sort.grow (w.drewN k) os) :=
 ⟨rfl,rfl,rfl,by simp [Sort.grow,World.drewN],fun j hj=>by
  show(w.heap++os)[j]?=w.heap[j]?
  rw [Array.getElem?_append_left hj]⟩
theorem below_bytes (w:World)(e:TypeId)(s:ByteArray):Below w.heap.size w (Lib.bytesWorld w e s) :=
 ⟨rfl,rfl,rfl,by rw [Lib.bytesWorld_size];omega,fun j hj=>Lib.bytesWorld_at_old w e s j hj⟩
theorem itoa_call (n:Int)(h0:0≤n)(h1:n≤9223372036854775807)(w:World)(E:Env w):
  Calls Tryz.prog 118 #[.int .i64 n] w fun r w'=>r= .returned (.string ⟨(dec n.toNat).toArray⟩)∧Below w.heap.size w w':=by
 refine(show Calls Tryz.prog 118 #[.int .i64 n] w _ from Any.strconv_Itoa Tryz.laysM171 n (by omega) h1 w E.tab).mono ?_
 rintro r w' ⟨rfl,k,os,rfl⟩
 refine⟨?_,below_grew w k os⟩
 rw [Lib.itoa,if_neg (by omega)]
 rfl
theorem atoi_call (l:List UInt8)(hl:l.length≤1000000000)(w:World)(E:Env w):
  Calls Tryz.prog 138 #[.string ⟨l.toArray⟩] w fun r w'=>∃ v e,r= .returned (.tuple #[.int .i64 v,e])∧((e= .nilIface∧v=numP l)∨((∃ t p,e= .iface t p)∧numP l=-1))∧Below w.heap.size w w':=by
 have hsz:(⟨l.toArray⟩:ByteArray).size=l.length:=rfl
 cases h:Lib.atoiAll l
 ·rename_i v
  refine(show Calls Tryz.prog 138 #[.string ⟨l.toArray⟩] w _ from Any.strconv_Atoi_ok Tryz.laysC172 ⟨l.toArray⟩ (by omega) v h w).mono ?_
  rintro r w' ⟨rfl,hw⟩
  refine⟨v,.nilIface,rfl,.inl ⟨rfl,by unfold numP;rw [h]⟩,?_⟩
  rcases hw with rfl | ⟨t,rfl⟩
  ·exact Below.refl _ _
  ·exact below_bytes w _ t
 ·obtain⟨tp,p,hs⟩:=E.syn
  refine(show Calls Tryz.prog 138 #[.string ⟨l.toArray⟩] w _ from Any.strconv_Atoi_syntax Tryz.laysC172 ⟨l.toArray⟩ (by omega) h (.iface tp p) w hs (.inr ⟨tp,p,rfl⟩)).mono ?_
  rintro r w' ⟨N,rfl,-,-,hb⟩
  exact⟨_,_,rfl,.inr ⟨⟨_,_,rfl⟩,by unfold numP;rw [h]⟩,hb⟩
 ·obtain⟨tp,p,hs⟩:=E.rng
  refine(show Calls Tryz.prog 138 #[.string ⟨l.toArray⟩] w _ from Any.strconv_Atoi_range Tryz.laysC172 ⟨l.toArray⟩ (by omega) h (.iface tp p) w hs (.inr ⟨tp,p,rfl⟩)).mono ?_
  rintro r w' ⟨N,rfl,-,-,hb⟩
  exact⟨_,_,rfl,.inr ⟨⟨_,_,rfl⟩,by unfold numP;rw [h]⟩,hb⟩
theorem number_call (l:List UInt8)(hl:l.length≤1000000000)(w:World)(E:Env w):
  Calls Tryz.prog 94 #[.string ⟨l.toArray⟩] w fun r w'=>r= .returned (.int .i64 (numP l))∧Below w.heap.size w w':=by
 have HE:=hide E
 clear E
 go_enter Tryz.func94,Tryz.ntmps94
 go_wp2_with fail
 refine(atoi_call l hl w HE.out).mono ?_
 rintro r w' ⟨v,e,rfl,he,hb⟩
 have HB:=hide hb
 clear hb
 rcases he with ⟨rfl,rfl⟩ | ⟨⟨t,p,rfl⟩,hn⟩
 ·go_wp2
  go_ret
  exact⟨rfl,HB.out⟩
 ·have HN:=hide hn
  clear hn
  go_wp2
  go_ret
  exact⟨by rw [HN.out];rfl,HB.out⟩
end
section
set_option maxHeartbeats 1000000
open Go.RowKit
set_option maxRecDepth 100000
theorem dec_length_le (n:Int)(h0:0≤n)(h1:n≤9223372036854775807):(dec n.toNat).length≤21:=by
 have:=Lib.itoa_length_le n (by omega) h1
 rw [Lib.itoa,if_neg (by omega)] at this
 exact this
theorem ret_txt {a b:ByteArray}(h:a=b):Ending.returned (.string a)= .returned (.string b):=by rw [h]
theorem name_bad (l i w:Int)(hb:badName l i w)(W:World):
  Calls Tryz.prog 70 #[.int .i64 l,.int .i64 i,.int .i64 w] W fun r w'=>r= .returned (.string ⟨(nameF l i w).toArray⟩)∧Below W.heap.size W w':=by
 rw [nameF_bad hb]
 unfold badName at hb
 go_enter Tryz.func70,Tryz.ntmps70
 go_wp2_with fail
 all_goals first | (go_ret;exact⟨rfl,Below.refl _ _⟩) | (exfalso;omega)
theorem name_any (l i w:Int)(hi:i≤9223372036854775807)(W:World)(E:Env W):
  Calls Tryz.prog 70 #[.int .i64 l,.int .i64 i,.int .i64 w] W fun r w'=>r= .returned (.string ⟨(nameF l i w).toArray⟩)∧Below W.heap.size W w':=by
 by_cases hb:badName l i w
 ·exact name_bad l i w hb W
 have HN:=hide (nameF_good hb)
 have hb':=hb
 unfold badName at hb'
 have n1:¬ l < -1:=by omega
 have n2:¬ 20 < l:=by omega
 have n3:¬ i < 0:=by omega
 have n4:¬ w < 1:=by omega
 have n5:¬ 4 < w:=by omega
 have HE:=hide E
 have hdi:=dec_length_le i (by omega) hi
 have hdw:=dec_length_le w (by omega) (by omega)
 clear hb hb' E
 by_cases hl:l=-1
 ·subst hl
  have Hh:=hide headF_ent
  by_cases hw:w < 4
  ·skip
   have Ht:Hid (tailF w=partF++dec w.toNat):=by show _=_;unfold tailF;rw [if_pos hw]
   go_enter Tryz.func70,Tryz.ntmps70
   go_wp2_with fail
   refine(itoa_call i (by omega) hi W HE.out).mono ?_
   rintro r w1 ⟨rfl,hb1⟩
   have HB1:Hid (Below W.heap.size W w1):=hb1
   clear hb1
   generalize dec i.toNat=di at *
   have b1:¬ 9223372036854775807 < 8+di.length:=by omega
   go_wp2_with fail
   refine(itoa_call w (by omega) (by omega) w1 (HE.out.below HB1.out)).mono ?_
   rintro r w2 ⟨rfl,hb2⟩
   have HB2:Hid (Below W.heap.size W w2):=HB1.out.trans (hb2.mono HB1.out.size)
   clear hb2
   generalize dec w.toNat=dw at *
   have b2:¬ 9223372036854775807 < 3+dw.length:=by omega
   have b3:¬ 9223372036854775807 < 8+di.length+(3+dw.length):=by omega
   go_wp2_with fail
   go_ret
   refine⟨?_,HB2.out⟩
   rw [HN.out,Hh.out,Ht.out]
   exact ret_txt (by unfold entF partF;apply ByteArray.ext;simp)
  ·skip
   have Ht:Hid (tailF w=[]):=by show _=_;unfold tailF;rw [if_neg hw]
   go_enter Tryz.func70,Tryz.ntmps70
   go_wp2_with fail
   refine(itoa_call i (by omega) hi W HE.out).mono ?_
   rintro r w1 ⟨rfl,hb1⟩
   have HB1:Hid (Below W.heap.size W w1):=hb1
   clear hb1
   generalize dec i.toNat=di at *
   have b1:¬ 9223372036854775807 < 8+di.length:=by omega
   go_wp2_with fail
   go_ret
   refine⟨?_,HB1.out⟩
   rw [HN.out,Hh.out,Ht.out]
   exact ret_txt (by unfold entF;apply ByteArray.ext;simp)
 ·have Hh:=hide (headF_tile l hl)
  have hdl:=dec_length_le l (by omega) (by omega)
  have nl:(l != -1)=true:=by rw [bne_iff_ne];exact hl
  by_cases hw:w < 4
  ·skip
   have Ht:Hid (tailF w=partF++dec w.toNat):=by show _=_;unfold tailF;rw [if_pos hw]
   go_enter Tryz.func70,Tryz.ntmps70
   go_wp2_with fail
   refine(itoa_call l (by omega) (by omega) W HE.out).mono ?_
   rintro r w0 ⟨rfl,hb0⟩
   have HB0:=hide hb0
   clear hb0
   generalize dec l.toNat=dl at *
   have b0:¬ 9223372036854775807 < 5+dl.length:=by omega
   have b00:¬ 9223372036854775807 < 5+dl.length+1:=by omega
   go_wp2_with fail
   refine(itoa_call i (by omega) hi w0 (HE.out.below HB0.out)).mono ?_
   rintro r w1 ⟨rfl,hb1⟩
   have HB1:Hid (Below W.heap.size W w1):=HB0.out.trans (hb1.mono HB0.out.size)
   clear hb1
   generalize dec i.toNat=di at *
   have b1:¬ 9223372036854775807 < 5+dl.length+1+di.length:=by omega
   go_wp2_with fail
   refine(itoa_call w (by omega) (by omega) w1 (HE.out.below HB1.out)).mono ?_
   rintro r w2 ⟨rfl,hb2⟩
   have HB2:Hid (Below W.heap.size W w2):=HB1.out.trans (hb2.mono HB1.out.size)
   clear hb2
   generalize dec w.toNat=dw at *
   have b2:¬ 9223372036854775807 < 3+dw.length:=by omega
   have b3:¬ 9223372036854775807 < 5+dl.length+1+di.length+(3+dw.length):=by omega
   go_wp2_with fail
   go_ret
   refine⟨?_,HB2.out⟩
   rw [HN.out,Hh.out,Ht.out]
   exact ret_txt (by unfold tileF partF;apply ByteArray.ext;simp)
  ·skip
   have Ht:Hid (tailF w=[]):=by show _=_;unfold tailF;rw [if_neg hw]
   go_enter Tryz.func70,Tryz.ntmps70
   go_wp2_with fail
   refine(itoa_call l (by omega) (by omega) W HE.out).mono ?_
   rintro r w0 ⟨rfl,hb0⟩
   have HB0:=hide hb0
   clear hb0
   generalize dec l.toNat=dl at *
   have b0:¬ 9223372036854775807 < 5+dl.length:=by omega
   have b00:¬ 9223372036854775807 < 5+dl.length+1:=by omega
   go_wp2_with fail
   refine(itoa_call i (by omega) hi w0 (HE.out.below HB0.out)).mono ?_
   rintro r w1 ⟨rfl,hb1⟩
   have HB1:Hid (Below W.heap.size W w1):=HB0.out.trans (hb1.mono HB0.out.size)
   clear hb1
   generalize dec i.toNat=di at *
   have b1:¬ 9223372036854775807 < 5+dl.length+1+di.length:=by omega
   go_wp2_with fail
   go_ret
   refine⟨?_,HB1.out⟩
   rw [HN.out,Hh.out,Ht.out]
   exact ret_txt (by unfold tileF;apply ByteArray.ext;simp)
end
section
set_option maxHeartbeats 1000000
open Go.RowKit
set_option maxRecDepth 100000
theorem Bq.rest {w:World}{v:Value}{l:List UInt8}(h:Bq w v l):Rest w v l:=by
 obtain⟨g,cap,C,fr,rfl,hl,hg,hc⟩:=h
 refine⟨⟨g,0,none⟩,cap,rfl,hl,rfl,fun i hi=>?_⟩
 show w.cell? ⟨g,0+i,none⟩=_
 rw [Nat.zero_add,cell_of_row _ _ _ _ _ _ hg]
 exact hc i hi
theorem obs_shape {w:World}{B:Nat}{y:Value}{es:List (List UInt8)}(h:OBs w B y es):∃ a c,y= .slice a es.length c:=by
 obtain⟨xs,ho,-⟩:=h
 rcases ho.2 with ⟨e,e0⟩ | ⟨g,cap,cur,e,_⟩
 ·exact⟨none,0,by rw [e,e0]⟩
 ·exact⟨_,_,e⟩
theorem unb_nil_any (w:World):
  Calls Tryz.prog 119 #[.slice none 0 0] w fun r w'=>r= .returned (.tuple #[.slice none 0 0,.bool false])∧w'=w:=by
 go_enter Tryz.func119,Tryz.ntmps119
 go_wp2_with fail
 refine wp_loop_rounds 1 ?_
 rw [rounds_succ]
 go_wp2
 go_ret2
 exact⟨rfl,rfl⟩
def bunD (x:Option (List UInt8))(w:Nat):Option (List (List UInt8)):=match x with
 | some d=>(match unbF d with | some es=>if es.length=w then some es else none | none=>none)
 | none=>none
def GotV (w:World)(v:Value)(x:Option (List UInt8)):Prop:=(∃ d,x=some d∧Bq w v d)∨(x=none∧v= .slice none 0 0)
theorem unbOf_any (n:Nat)(v:Value)(x:Option (List UInt8))(w:World)(h:GotV w v x):
  Calls Tryz.prog 71 #[.int .i64 n,v] w fun r w'=>Below w.heap.size w w'∧((∃ es y,bunD x n=some es∧r= .returned (.tuple #[y,.bool true])∧OBs w' w.heap.size y es)∨(bunD x n=none∧r= .returned (.tuple #[.slice none 0 0,.bool false]))):=by
 rcases h with ⟨d,rfl,hq⟩ | ⟨rfl,rfl⟩
 ·have HQ:=hide hq
  clear hq
  go_enter Tryz.func71,Tryz.ntmps71
  go_wp2_with fail
  refine(unb_any v d w HQ.out.rest).mono ?_
  rintro r w1 ⟨y,rfl,hb1,ho⟩
  have HB:=hide hb1
  clear hb1
  cases e:unbF d with
  | none =>
   have HR:Hid (bunD (some d) n=none):=by show bunD (some d) n=none;unfold bunD;simp only [e]
   obtain⟨a,c,rfl⟩:=obs_shape ho
   clear e ho
   go_wp2_with fail
   go_ret2
   exact⟨HB.out,.inr ⟨HR.out,rfl⟩⟩
  | some es =>
   rw [e] at ho
   simp only [Option.getD_some,Option.isSome_some] at ho ⊢
   obtain⟨a,c,rfl⟩:=obs_shape ho
   have HO:=hide ho
   clear ho
   by_cases hl:es.length=n
   ·have HR:Hid (bunD (some d) n=some es):=by show bunD (some d) n=_;unfold bunD;simp only [e,if_pos hl]
    have q1:((es.length:Int)==(n:Int))=true:=by rw [beq_iff_eq];omega
    clear e hl
    go_wp2_with fail
    go_ret2
    exact⟨HB.out,.inl ⟨es,_,HR.out,rfl,HO.out⟩⟩
   ·have HR:Hid (bunD (some d) n=none):=by show bunD (some d) n=_;unfold bunD;simp only [e,if_neg hl]
    have q1:((es.length:Int)==(n:Int))=false:=by rw [beq_eq_false_iff_ne];omega
    clear e hl
    go_wp2_with fail
    go_ret2
    exact⟨HB.out,.inr ⟨HR.out,rfl⟩⟩
 ·go_enter Tryz.func71,Tryz.ntmps71
  go_wp2_with fail
  refine(unb_nil_any w).mono ?_
  rintro r w1 ⟨rfl,rfl⟩
  go_wp2_with fail
  go_ret2
  exact⟨Below.refl _ _,.inr ⟨rfl,rfl⟩⟩
theorem got_of {d:Dk}{p:List UInt8}{w:World}{v:Value}(hb:bad d=false)(h:(bad d=false∧∃ x,look d.fs p=some x∧Bq w v x)∨((bad d=true∨look d.fs p=none)∧v= .slice none 0 0)):GotV w v (look d.fs p):=by
 rcases h with ⟨-,x,h1,h2⟩ | ⟨h1,h2⟩
 ·exact .inl ⟨x,h1,h2⟩
 ·rcases h1 with h1 | h1
  ·rw [hb] at h1;simp at h1
  ·exact .inr ⟨h1,h2⟩
theorem gotV_shape {w:World}{v:Value}{x:Option (List UInt8)}(h:GotV w v x):(x=none∧v= .slice none 0 0)∨∃ d g n c,x=some d∧v= .slice (some g) n c:=by
 rcases h with ⟨d,e,g,cap,C,fr,rfl,-⟩ | ⟨h1,h2⟩
 ·exact .inr ⟨d,_,_,_,e,rfl⟩
 ·exact .inl ⟨h1,h2⟩
theorem Env.turn {w w':World}{O:Nat→Prop}{T:List Nat}{W:World}(h:Env W)(hb:Below W.heap.size W w)(ht:Turn O T w w')(hO:∀ k,O k→W.heap.size≤k):Env w'∧Below W.heap.size W w':=by
 have:=hb.trans (ht.below hO hb.size)
 exact⟨h.below this,this⟩
theorem find4 (f:Nat→Bool)(hv k:Nat)(h1:hv < k)(h4:k≤4)(hk:f k=true)(hno:∀ j:Nat,k < j→j≤4→hv < j→f j=false):[4,3,2,1].find? (fun w=>decide (hv < w)&&f w)=some k:=by
 have e:k=4∨k=3∨k=2∨k=1:=by omega
 rcases e with rfl | rfl | rfl | rfl
 ·simp [List.find?,h1,hk]
 ·simp [List.find?,h1,hk,hno 4 (by omega) (by omega) (by omega)]
 ·simp [List.find?,h1,hk,hno 3 (by omega) (by omega) (by omega),hno 4 (by omega) (by omega) (by omega)]
 ·simp [List.find?,h1,hk,hno 2 (by omega) (by omega) (by omega),hno 3 (by omega) (by omega) (by omega),hno 4 (by omega) (by omega) (by omega)]
theorem find4_no (f:Nat→Bool)(hv:Nat)(hno:∀ j:Nat,j≤4→hv < j→f j=false):[4,3,2,1].find? (fun w=>decide (hv < w)&&f w)=none:=by
 rw [List.find?_eq_none]
 intro w hw
 have:w≤4:=by simp at hw;omega
 by_cases h:hv < w
 ·simp [hno w this h]
 ·simp [h]
theorem wdF_eq {lk:Lk}{i hv k:Nat}(h1:hv < k)(h4:k≤4)(hk:(lk (nameF (-1) i (k:Nat))).isSome=true)(hno:∀ j:Nat,k < j→j≤4→hv < j→(lk (nameF (-1) i (j:Nat))).isSome=false):wdF lk i hv=some k :=
 find4 (fun w=>(lk (nameF (-1) i (w:Nat))).isSome) hv k h1 h4 hk hno
theorem wdF_no {lk:Lk}{i hv:Nat}(hno:∀ j:Nat,j≤4→hv < j→(lk (nameF (-1) i (j:Nat))).isSome=false):wdF lk i hv=none :=
 find4_no (fun w=>(lk (nameF (-1) i (w:Nat))).isSome) hv hno
theorem gotErr_cases {b:Bool}{p:List UInt8}{B:Nat}{e:Value}{w:World}(h:GotErr b p B e w):(b=false∧e= .nilIface)∨(b=true∧∃ g,e= .iface 113 (.pointer (some ⟨g,0,none⟩))):=by
 rcases h with h | ⟨h,g,rfl,-⟩
 ·exact .inl h
 ·exact .inr ⟨h,g,rfl⟩
theorem GotErr.weaken {b:Bool}{p:List UInt8}{B B':Nat}{e:Value}{w:World}(h:GotErr b p B e w)(hB:B'≤B):GotErr b p B' e w:=by
 rcases h with h | ⟨h,g,e,hg,r⟩
 ·exact .inl h
 ·exact .inr ⟨h,g,e,Nat.le_trans hB hg,r⟩
theorem widest_any (O:Nat→Prop)(W:World)(hE:Env W)(hOW:∀ k,O k→W.heap.size≤k)(db lb:Nat)(d:Dk)(i hv:Nat)(w:World)(hn:d.fs.length≤1000000000)(hl:∀ f∈d.fs,f.2.length≤1000000000)(hi:i≤1000000)(hv4:hv < 4)(hc:Calm d)(hW:Below W.heap.size W w)(h:DiskAt w O db d)(cs:Array Value)(hsb:w.heap[lb]?=some (.cells cs 109 (0,0)))(hsc:cs[0]?=some (stV db true)):
  Calls Tryz.prog 72 #[.pointer (some ⟨lb,0,none⟩),.int .i64 i,.int .i64 (hv+1:Nat)] w fun r w'=>∃(d':Dk) (n:Nat) (v e:Value),r= .returned (.tuple #[.int .i64 n,v,e])∧Turn O dT1 w w'∧DiskAt w' O db d'∧d'.fs=d.fs∧tk d'=tk d ∧
   ((d'.hit=true∧∃ p,GotErr true p w.heap.size e w')∨(Calm d'∧e= .nilIface∧((wdF (look d.fs) i hv=none∧n=0∧v= .slice none 0 0)∨(wdF (look d.fs) i hv=some n∧∃ x,look d.fs (nameF (-1) i n)=some x∧Bq w' v x)))):=by
 have HL:=hide hl
 have HD:=hide h
 have HS:Hid (w.cell? ⟨lb,0,none⟩=some (stV db true)):=(dcell hsb 0 _ hsc).1
 have HSB:=hide hsb
 have HSC:=hide hsc
 have HW:=hide hW
 have HC:=hide hc
 have HO:=hide hOW
 have hEE:=hide hE
 clear hl h hsb hsc hW hc hOW hE
 go_enter Tryz.func72,Tryz.ntmps72
 go_wp2_with fail
 go_loopw [9,10,11] (fun s9 _ _ wr=>∃(k:Nat) (d1:Dk),s9= .int .i64 k∧hv≤k∧k≤4∧Turn O dT1 w wr∧DiskAt wr O db d1∧d1.fs=d.fs∧tk d1=tk d∧Calm d1∧∀ j,k < j→j≤4→hv < j→(look d.fs (nameF (-1) i (j:Nat))).isSome=false) (fun s9 _ _ _=>(intOf s9).toNat)
 case atStart=>exact⟨4,d,rfl,by omega,by omega,Turn.refl _ _ _,HD.out,rfl,rfl,HC.out,fun j h1 h2=>by omega⟩
 case round =>
  obtain⟨k,d1,rfl,hk1,hk2,ht,hd,hfs,htu,hcm,hno⟩:=hrel
  have HT:=hide ht
  have HD1:=hide hd
  have HF:=hide (And.intro hfs htu)
  have HCM:=hide hcm
  have HN:=hide hno
  have hew:=Env.turn hEE.out HW.out ht HO.out
  have HSR:Hid (wr.cell? ⟨lb,0,none⟩=some (stV db true)):=by
   have:=dcell (ht.keep HSB.out (by decide)) 0 _ HSC.out
   exact this.1
  have HEW:=hide hew
  clear ht hd hfs htu hcm hno hew
  by_cases hlt:hv < k
  ·go_wp2_with fail
   refine(name_any (-1) i k (by omega) wr HEW.out.1).mono ?_
   rintro r w1 ⟨rfl,hb1⟩
   have HB1:=hide hb1
   have hst1:w1.cell? ⟨lb,0,none⟩=some (stV db true):=by rw [hb1.cell (p:=⟨lb,0,none⟩) (Nat.lt_of_lt_of_le (cell_lt HS.out) HT.out.size)];exact HSR.out
   go_wp2_with fail
   refine(lget_any O db lb d1 (nameF (-1) i k) w1 (by rw [HF.out.1];exact hn) (by rw [HF.out.1];exact HL.out) (HD1.out.stay (O1:=fun _=>False) (T:=[]) (.of_below hb1) (by simp) (by simp)) hst1).mono ?_
   rintro r w2 ⟨v,e,rfl,hge,ht2,hd2,hv2⟩
   have HT2:Hid (Turn O dT1 w w2):=(HT.out.then_below hb1).trans (ht2.mono (fun _ h=> .inl h) (fun _ h=>h))
   have HD2:=hide hd2
   have hsz:w.heap.size≤w1.heap.size:=(HT.out.then_below hb1).size
   have HGE:=hide (hge.weaken hsz)
   clear hb1 hst1 ht2 hd2 hsz
   rcases gotErr_cases hge with ⟨hbd,rfl⟩ | ⟨hbd,g,rfl⟩
   ·have hK0:enterK d1=0:=by
     have:=(enterK_le d1).1
     have h2:¬ 0 < enterK d1:=by simpa [bad] using hbd
     omega
    have HC2:Hid (Calm (enterD d1)):=by
     rcases calm_enter HCM.out with ⟨-,h⟩ | ⟨h,-⟩
     ·exact h
     ·omega
    have HG:=hide (got_of hbd hv2)
    clear hge hbd hv2 hK0
    rcases gotV_shape HG.out with ⟨hx,rfl⟩ | ⟨x,a,n,c,hx,rfl⟩
    ·go_wp2_with fail
     go_roundw
     case rel =>
      repeat apply Exists.intro
      refine⟨⟨k - 1,enterD d1,by congr 1;omega,by omega,by omega,HT2.out,HD2.out,(enterD_fs d1).trans HF.out.1,(enterD_tk d1).trans HF.out.2,HC2.out,fun j h1 h2 h3=>?_⟩,rfl⟩
      by_cases hj:k < j
      ·exact HN.out j hj h2 h3
      ·obtain rfl:j=k:=by omega
       rw [← HF.out.1,hx]
       rfl
     case measure=>simp [intOf];omega
    ·have HWD:Hid (wdF (look d.fs) i hv=some k):=wdF_eq hlt hk2 (by rw [← HF.out.1,hx];rfl) HN.out
     go_wp2_with fail
     go_ret3
     refine⟨enterD d1,k,_,_,rfl,HT2.out,HD2.out,(enterD_fs d1).trans HF.out.1,(enterD_tk d1).trans HF.out.2,.inr ⟨HC2.out,rfl,.inr ⟨HWD.out,x,by rw [← HF.out.1];exact hx,?_⟩⟩⟩
     rcases HG.out with ⟨x',e,hb⟩ | ⟨-,e⟩
     ·rw [hx] at e
      obtain rfl:x=x':=by simpa using e
      exact hb
     ·simp at e
   ·have HH:Hid ((enterD d1).hit=true):=by
     rcases calm_enter HCM.out with ⟨h,-⟩ | ⟨-,h⟩
     ·rw [bad,h] at hbd;simp at hbd
     ·exact h
    rw [hbd] at HGE
    obtain⟨a,n,c,rfl⟩:=got_slice hv2
    clear hge hbd hv2
    go_wp2_with fail
    go_ret3
    exact⟨enterD d1,k,_,_,rfl,HT2.out,HD2.out,(enterD_fs d1).trans HF.out.1,(enterD_tk d1).trans HF.out.2,.inl ⟨HH.out,_,HGE.out⟩⟩
  ·go_wp2_with fail
   go_ret3
   exact⟨d1,0,_,_,rfl,HT.out,HD1.out,HF.out.1,HF.out.2,.inr ⟨HCM.out,rfl,.inl ⟨wdF_no (fun j h1 h2=>HN.out j (by omega) h1 h2),rfl,rfl⟩⟩⟩
end
end Go.Proofs.YtinhekmmdlhfkaaGreatDoor
