import Derived.Shelf.Strconv.AtoiAll
import Derived.Shelf.Strconv.Itoa3
import Derived.Shelf.Strings.Split
import Derived.Test.YtndkblnpbjffhaaGreatDoorG07
import Derived.Lib.ItoaLen
set_option maxHeartbeats 1000000
set_option maxRecDepth 100000
open Go.RowKit
namespace Go.Proofs.YtndkblnpbjffhaaGreatDoor
end Go.Proofs.YtndkblnpbjffhaaGreatDoor
namespace Go.Proofs
open Go.Shelf
def Tryz.laysM171_ren:Go.Shelf.Ren:=⟨fun | 171=>132 | 243=>185 | 246=>214 | 283=>226 | 284=>227 | 285=>228 | 286=>229 | 129=>156 | 317=>236 | 318=>237 | 319=>238 | 320=>138 | 337=>188 | 338=>189 | n=>n,fun | 3=>3 | 9=>9 | 2=>2 | 4=>4 | 171=>347 | 0=>0 | 53=>178 | 37=>100 | 5=>5 | 173=>349 | 212=>360 | 51=>110 | 20=>20 | 213=>361 | 46=>179 | 232=>334 | 233=>335 | n=>n,fun | 17=>15 | 18=>10 | 19=>11 | n=>n⟩
theorem Tryz.laysM171:Go.Proofs.LaysM.n171 Tryz.prog Tryz.laysM171_ren:={
 mixed:=by kernel_rfl
 f129:=Tryz.func156.trans (congrArg some (by kernel_rfl))
 f171:=Tryz.func132.trans (congrArg some (by kernel_rfl))
 f243:=Tryz.func185.trans (congrArg some (by kernel_rfl))
 f246:=Tryz.func214.trans (congrArg some (by kernel_rfl))
 f283:=Tryz.func226.trans (congrArg some (by kernel_rfl))
 f284:=Tryz.func227.trans (congrArg some (by kernel_rfl))
 f285:=Tryz.func228.trans (congrArg some (by kernel_rfl))
 f286:=Tryz.func229.trans (congrArg some (by kernel_rfl))
 f317:=Tryz.func236.trans (congrArg some (by kernel_rfl))
 f318:=Tryz.func237.trans (congrArg some (by kernel_rfl))
 f319:=Tryz.func238.trans (congrArg some (by kernel_rfl))
 f320:=Tryz.func138.trans (congrArg some (by kernel_rfl))
 f337:=Tryz.func188.trans (congrArg some (by kernel_rfl))
 f338:=Tryz.func189.trans (congrArg some (by kernel_rfl))
 t0:=Tryz.underlying0
 a0:=Tryz.isAgg0
 z0:=Tryz.sizeOf0
 v0:=Tryz.zeroValue0
 t2:=Tryz.underlying2
 a2:=Tryz.isAgg2
 z2:=Tryz.sizeOf2
 v2:=Tryz.zeroValue2
 t3:=Tryz.underlying3
 a3:=Tryz.isAgg3
 z3:=Tryz.sizeOf3
 v3:=Tryz.zeroValue3
 t4:=Tryz.underlying4
 a4:=Tryz.isAgg4
 z4:=Tryz.sizeOf4
 v4:=Tryz.zeroValue4
 t5:=Tryz.underlying5
 a5:=Tryz.isAgg5
 z5:=Tryz.sizeOf5
 v5:=Tryz.zeroValue5
 t9:=Tryz.underlying9
 a9:=Tryz.isAgg9
 z9:=Tryz.sizeOf9
 v9:=Tryz.zeroValue9
 t20:=Tryz.underlying20
 a20:=Tryz.isAgg20
 z20:=Tryz.sizeOf20
 v20:=Tryz.zeroValue20
 t37:=Tryz.underlying100
 a37:=Tryz.isAgg100
 z37:=Tryz.sizeOf100
 v37:=Tryz.zeroValue100
 t46:=Tryz.underlying179
 a46:=Tryz.isAgg179
 z46:=Tryz.sizeOf179
 v46:=Tryz.zeroValue179
 t51:=Tryz.underlying110
 a51:=Tryz.isAgg110
 z51:=Tryz.sizeOf110
 v51:=Tryz.zeroValue110
 t53:=Tryz.underlying178
 a53:=Tryz.isAgg178
 z53:=Tryz.sizeOf178
 v53:=Tryz.zeroValue178
 t171:=Tryz.underlying347
 a171:=Tryz.isAgg347
 z171:=Tryz.sizeOf347
 v171:=Tryz.zeroValue347
 t173:=Tryz.underlying349
 a173:=Tryz.isAgg349
 z173:=Tryz.sizeOf349
 v173:=Tryz.zeroValue349
 t212:=Tryz.underlying360
 a212:=Tryz.isAgg360
 z212:=Tryz.sizeOf360
 v212:=Tryz.zeroValue360
 t213:=Tryz.underlying361
 a213:=Tryz.isAgg361
 z213:=Tryz.sizeOf361
 t232:=Tryz.underlying334
 a232:=Tryz.isAgg334
 z232:=Tryz.sizeOf334
 v232:=Tryz.zeroValue334
 t233:=Tryz.underlying335
 a233:=Tryz.isAgg335
 z233:=Tryz.sizeOf335
 v233:=Tryz.zeroValue335
 g17:=by kernel_rfl
 g18:=by kernel_rfl
 g19:=by kernel_rfl
 i0:=by kernel_rfl
 i2:=by kernel_rfl
 i3:=by kernel_rfl
 i4:=by kernel_rfl
 i5:=by kernel_rfl
 i9:=by kernel_rfl
 i20:=by kernel_rfl
 i37:=by kernel_rfl
 i46:=by kernel_rfl
 i51:=by kernel_rfl
 i53:=by kernel_rfl
 i171:=by kernel_rfl
 i173:=by kernel_rfl
 i212:=by kernel_rfl
 i232:=by kernel_rfl
 i233:=by kernel_rfl
 m17:=by kernel_rfl
 m18:=by kernel_rfl
 m19:=by kernel_rfl }
def Tryz.laysC172_ren:Go.Shelf.Ren:=⟨fun | 172=>131 | 244=>184 | 245=>130 | 247=>213 | 279=>180 | 280=>181 | 281=>182 | 282=>183 | 287=>129 | 316=>211 | 171=>132 | 205=>212 | 321=>178 | 322=>179 | 243=>185 | 246=>214 | 283=>226 | 284=>227 | 285=>228 | 286=>229 | 129=>156 | 317=>236 | 318=>237 | 319=>238 | 320=>138 | 337=>188 | 338=>189 | n=>n,fun | 9=>9 | 3=>3 | 75=>68 | 76=>220 | 4=>4 | 5=>5 | 167=>298 | 37=>100 | 0=>0 | 85=>331 | 2=>2 | 168=>300 | 53=>178 | 175=>195 | 46=>179 | 210=>329 | 127=>343 | 145=>346 | 143=>344 | 21=>21 | 171=>347 | 173=>349 | 212=>360 | 51=>110 | 20=>20 | 213=>361 | 232=>334 | 233=>335 | 80=>363 | n=>n,fun | 15=>8 | 16=>9 | 17=>15 | 18=>10 | 19=>11 | n=>n⟩
theorem Tryz.laysC172:Go.Proofs.LaysC.n172 Tryz.prog Tryz.laysC172_ren:={
 mixed:=by kernel_rfl
 f129:=Tryz.func156.trans (congrArg some (by kernel_rfl))
 f171:=Tryz.func132.trans (congrArg some (by kernel_rfl))
 f172:=Tryz.func131.trans (congrArg some (by kernel_rfl))
 f205:=Tryz.func212.trans (congrArg some (by kernel_rfl))
 f243:=Tryz.func185.trans (congrArg some (by kernel_rfl))
 f244:=Tryz.func184.trans (congrArg some (by kernel_rfl))
 f245:=Tryz.func130.trans (congrArg some (by kernel_rfl))
 f246:=Tryz.func214.trans (congrArg some (by kernel_rfl))
 f247:=Tryz.func213.trans (congrArg some (by kernel_rfl))
 f279:=Tryz.func180.trans (congrArg some (by kernel_rfl))
 f280:=Tryz.func181.trans (congrArg some (by kernel_rfl))
 f281:=Tryz.func182.trans (congrArg some (by kernel_rfl))
 f282:=Tryz.func183.trans (congrArg some (by kernel_rfl))
 f283:=Tryz.func226.trans (congrArg some (by kernel_rfl))
 f284:=Tryz.func227.trans (congrArg some (by kernel_rfl))
 f285:=Tryz.func228.trans (congrArg some (by kernel_rfl))
 f286:=Tryz.func229.trans (congrArg some (by kernel_rfl))
 f287:=Tryz.func129.trans (congrArg some (by kernel_rfl))
 f316:=Tryz.func211.trans (congrArg some (by kernel_rfl))
 f317:=Tryz.func236.trans (congrArg some (by kernel_rfl))
 f318:=Tryz.func237.trans (congrArg some (by kernel_rfl))
 f319:=Tryz.func238.trans (congrArg some (by kernel_rfl))
 f320:=Tryz.func138.trans (congrArg some (by kernel_rfl))
 f321:=Tryz.func178.trans (congrArg some (by kernel_rfl))
 f322:=Tryz.func179.trans (congrArg some (by kernel_rfl))
 f337:=Tryz.func188.trans (congrArg some (by kernel_rfl))
 f338:=Tryz.func189.trans (congrArg some (by kernel_rfl))
 t0:=Tryz.underlying0
 a0:=Tryz.isAgg0
 z0:=Tryz.sizeOf0
 v0:=Tryz.zeroValue0
 t2:=Tryz.underlying2
 a2:=Tryz.isAgg2
 z2:=Tryz.sizeOf2
 v2:=Tryz.zeroValue2
 t3:=Tryz.underlying3
 a3:=Tryz.isAgg3
 z3:=Tryz.sizeOf3
 v3:=Tryz.zeroValue3
 t4:=Tryz.underlying4
 a4:=Tryz.isAgg4
 z4:=Tryz.sizeOf4
 v4:=Tryz.zeroValue4
 t5:=Tryz.underlying5
 a5:=Tryz.isAgg5
 z5:=Tryz.sizeOf5
 v5:=Tryz.zeroValue5
 t9:=Tryz.underlying9
 a9:=Tryz.isAgg9
 z9:=Tryz.sizeOf9
 v9:=Tryz.zeroValue9
 t20:=Tryz.underlying20
 a20:=Tryz.isAgg20
 z20:=Tryz.sizeOf20
 v20:=Tryz.zeroValue20
 t21:=Tryz.underlying21
 a21:=Tryz.isAgg21
 z21:=Tryz.sizeOf21
 v21:=Tryz.zeroValue21
 t37:=Tryz.underlying100
 a37:=Tryz.isAgg100
 z37:=Tryz.sizeOf100
 v37:=Tryz.zeroValue100
 t46:=Tryz.underlying179
 a46:=Tryz.isAgg179
 z46:=Tryz.sizeOf179
 v46:=Tryz.zeroValue179
 t51:=Tryz.underlying110
 a51:=Tryz.isAgg110
 z51:=Tryz.sizeOf110
 v51:=Tryz.zeroValue110
 t53:=Tryz.underlying178
 a53:=Tryz.isAgg178
 z53:=Tryz.sizeOf178
 v53:=Tryz.zeroValue178
 t75:=Tryz.underlying68
 a75:=Tryz.isAgg68
 z75:=Tryz.sizeOf68
 v75:=Tryz.zeroValue68
 t76:=Tryz.underlying220
 a76:=Tryz.isAgg220
 z76:=Tryz.sizeOf220
 v76:=Tryz.zeroValue220
 t85:=Tryz.underlying331
 a85:=Tryz.isAgg331
 z85:=Tryz.sizeOf331
 v85:=Tryz.zeroValue331
 t127:=Tryz.underlying343
 a127:=Tryz.isAgg343
 z127:=Tryz.sizeOf343
 v127:=Tryz.zeroValue343
 t143:=Tryz.underlying344
 a143:=Tryz.isAgg344
 z143:=Tryz.sizeOf344
 v143:=Tryz.zeroValue344
 t145:=Tryz.underlying346
 a145:=Tryz.isAgg346
 z145:=Tryz.sizeOf346
 v145:=Tryz.zeroValue346
 t167:=Tryz.underlying298
 a167:=Tryz.isAgg298
 z167:=Tryz.sizeOf298
 v167:=Tryz.zeroValue298
 t168:=Tryz.underlying300
 a168:=Tryz.isAgg300
 z168:=Tryz.sizeOf300
 v168:=Tryz.zeroValue300
 t171:=Tryz.underlying347
 a171:=Tryz.isAgg347
 z171:=Tryz.sizeOf347
 v171:=Tryz.zeroValue347
 t173:=Tryz.underlying349
 a173:=Tryz.isAgg349
 z173:=Tryz.sizeOf349
 v173:=Tryz.zeroValue349
 t175:=Tryz.underlying195
 a175:=Tryz.isAgg195
 z175:=Tryz.sizeOf195
 v175:=Tryz.zeroValue195
 t210:=Tryz.underlying329
 a210:=Tryz.isAgg329
 z210:=Tryz.sizeOf329
 v210:=Tryz.zeroValue329
 t212:=Tryz.underlying360
 a212:=Tryz.isAgg360
 z212:=Tryz.sizeOf360
 v212:=Tryz.zeroValue360
 t213:=Tryz.underlying361
 a213:=Tryz.isAgg361
 z213:=Tryz.sizeOf361
 t232:=Tryz.underlying334
 a232:=Tryz.isAgg334
 z232:=Tryz.sizeOf334
 v232:=Tryz.zeroValue334
 t233:=Tryz.underlying335
 a233:=Tryz.isAgg335
 z233:=Tryz.sizeOf335
 v233:=Tryz.zeroValue335
 g15:=by kernel_rfl
 g16:=by kernel_rfl
 g17:=by kernel_rfl
 g18:=by kernel_rfl
 g19:=by kernel_rfl
 t80:=Tryz.underlying363
 a80:=Tryz.isAgg363
 z80:=Tryz.sizeOf363
 v80:=Tryz.zeroValue363
 i0:=by kernel_rfl
 i2:=by kernel_rfl
 i3:=by kernel_rfl
 i4:=by kernel_rfl
 i5:=by kernel_rfl
 i9:=by kernel_rfl
 i20:=by kernel_rfl
 i21:=by kernel_rfl
 i37:=by kernel_rfl
 i46:=by kernel_rfl
 i51:=by kernel_rfl
 i53:=by kernel_rfl
 i75:=by kernel_rfl
 i76:=by kernel_rfl
 i80:=by kernel_rfl
 i85:=by kernel_rfl
 i127:=by kernel_rfl
 i143:=by kernel_rfl
 i145:=by kernel_rfl
 i167:=by kernel_rfl
 i168:=by kernel_rfl
 i171:=by kernel_rfl
 i173:=by kernel_rfl
 i175:=by kernel_rfl
 i210:=by kernel_rfl
 i212:=by kernel_rfl
 i232:=by kernel_rfl
 i233:=by kernel_rfl
 m15:=by kernel_rfl
 m16:=by kernel_rfl
 m17:=by kernel_rfl
 m18:=by kernel_rfl
 m19:=by kernel_rfl
 c0:=by kernel_rfl
 c2:=by kernel_rfl
 c3:=by kernel_rfl
 c4:=by kernel_rfl
 c5:=by kernel_rfl
 c9:=by kernel_rfl
 c20:=by kernel_rfl
 c21:=by kernel_rfl
 c37:=by kernel_rfl
 c46:=by kernel_rfl
 c51:=by kernel_rfl
 c53:=by kernel_rfl
 c75:=by kernel_rfl
 c76:=by kernel_rfl
 c80:=by kernel_rfl
 c85:=by kernel_rfl
 c127:=by kernel_rfl
 c143:=by kernel_rfl
 c145:=by kernel_rfl
 c167:=by kernel_rfl
 c168:=by kernel_rfl
 c171:=by kernel_rfl
 c173:=by kernel_rfl
 c175:=by kernel_rfl
 c210:=by kernel_rfl
 c212:=by kernel_rfl
 c213:=by kernel_rfl
 c232:=by kernel_rfl
 c233:=by kernel_rfl }
def Tryz.lays147_ren:Go.Shelf.Ren:=⟨fun | 147=>89 | 221=>128 | 268=>175 | 138=>176 | 143=>177 | 195=>207 | 197=>208 | 218=>209 | 219=>210 | 260=>221 | 217=>222 | 225=>223 | 224=>224 | 267=>225 | 266=>234 | 314=>235 | n=>n,fun | 9=>9 | 3=>3 | 31=>29 | 4=>4 | 0=>0 | 105=>325 | 21=>21 | 5=>5 | 46=>179 | 119=>353 | 139=>356 | 138=>355 | 146=>357 | 51=>110 | n=>n,fun | 1=>12 | 3=>13 | 4=>14 | n=>n⟩
theorem Tryz.lays147:Go.Proofs.Lays.n147 Tryz.prog Tryz.lays147_ren:={
 mixed:=by kernel_rfl
 f138:=Tryz.func176.trans (congrArg some (by kernel_rfl))
 f143:=Tryz.func177.trans (congrArg some (by kernel_rfl))
 f147:=Tryz.func89.trans (congrArg some (by kernel_rfl))
 f195:=Tryz.func207.trans (congrArg some (by kernel_rfl))
 f197:=Tryz.func208.trans (congrArg some (by kernel_rfl))
 f217:=Tryz.func222.trans (congrArg some (by kernel_rfl))
 f218:=Tryz.func209.trans (congrArg some (by kernel_rfl))
 f219:=Tryz.func210.trans (congrArg some (by kernel_rfl))
 f221:=Tryz.func128.trans (congrArg some (by kernel_rfl))
 f224:=Tryz.func224.trans (congrArg some (by kernel_rfl))
 f225:=Tryz.func223.trans (congrArg some (by kernel_rfl))
 f260:=Tryz.func221.trans (congrArg some (by kernel_rfl))
 f266:=Tryz.func234.trans (congrArg some (by kernel_rfl))
 f267:=Tryz.func225.trans (congrArg some (by kernel_rfl))
 f268:=Tryz.func175.trans (congrArg some (by kernel_rfl))
 f314:=Tryz.func235.trans (congrArg some (by kernel_rfl))
 t0:=Tryz.underlying0
 a0:=Tryz.isAgg0
 z0:=Tryz.sizeOf0
 v0:=Tryz.zeroValue0
 t3:=Tryz.underlying3
 a3:=Tryz.isAgg3
 z3:=Tryz.sizeOf3
 v3:=Tryz.zeroValue3
 t4:=Tryz.underlying4
 a4:=Tryz.isAgg4
 z4:=Tryz.sizeOf4
 v4:=Tryz.zeroValue4
 t5:=Tryz.underlying5
 a5:=Tryz.isAgg5
 z5:=Tryz.sizeOf5
 v5:=Tryz.zeroValue5
 t9:=Tryz.underlying9
 a9:=Tryz.isAgg9
 z9:=Tryz.sizeOf9
 v9:=Tryz.zeroValue9
 t21:=Tryz.underlying21
 a21:=Tryz.isAgg21
 z21:=Tryz.sizeOf21
 v21:=Tryz.zeroValue21
 t31:=Tryz.underlying29
 a31:=Tryz.isAgg29
 z31:=Tryz.sizeOf29
 v31:=Tryz.zeroValue29
 t46:=Tryz.underlying179
 a46:=Tryz.isAgg179
 z46:=Tryz.sizeOf179
 v46:=Tryz.zeroValue179
 t51:=Tryz.underlying110
 a51:=Tryz.isAgg110
 z51:=Tryz.sizeOf110
 v51:=Tryz.zeroValue110
 t105:=Tryz.underlying325
 a105:=Tryz.isAgg325
 z105:=Tryz.sizeOf325
 v105:=Tryz.zeroValue325
 t119:=Tryz.underlying353
 a119:=Tryz.isAgg353
 z119:=Tryz.sizeOf353
 t138:=Tryz.underlying355
 a138:=Tryz.isAgg355
 z138:=Tryz.sizeOf355
 v138:=Tryz.zeroValue355
 t139:=Tryz.underlying356
 a139:=Tryz.isAgg356
 z139:=Tryz.sizeOf356
 v139:=Tryz.zeroValue356
 t146:=Tryz.underlying357
 a146:=Tryz.isAgg357
 z146:=Tryz.sizeOf357
 v146:=Tryz.zeroValue357
 g1:=by kernel_rfl
 g3:=by kernel_rfl
 g4:=by kernel_rfl }
end Go.Proofs
namespace Go.Proofs.YtndkblnpbjffhaaGreatDoor
theorem zqz:Tryz.prog.globalNamed "internal/strconv.uint64pow10"=some 15:=by kernel_rfl
structure Env (w:World):Prop where
 tab:Lib.TabIs Tryz.prog w "internal/strconv.uint64pow10" .u64 Lib.pow10Tab
 syn:∃ tp p,w.cell? ⟨8,0,none⟩=some (.iface tp p)
 rng:∃ tp p,w.cell? ⟨9,0,none⟩=some (.iface tp p)
 max:∃ m,w.cell? ⟨12,0,none⟩=some (.int .i64 m)
theorem z9i {w:World}{n:String}{g:Nat}{cs:Array Value}(A:Tryz.prog.globalNamed n=some g)(h:w.var? Tryz.prog n=some cs):g < w.heap.size:=by
 unfold World.var? at h;rw [A] at h;simp only [Option.bind_some] at h;rcases Nat.lt_or_ge g w.heap.size with r | r
 ·exact r
 ·simp [Array.getElem?_eq_none r] at h
theorem Env.below {w w':World}(h:Env w)(r:Below w.heap.size w w'):Env w':=by
 obtain⟨H,p,D⟩:=h.syn;obtain⟨A,E,hr⟩:=h.rng;obtain⟨m,hm⟩:=h.max;exact⟨var?_below r zqz (z9i zqz h.tab) h.tab,⟨H,p,by rw [r.cell (zk D)];exact D⟩,⟨A,E,by rw [r.cell (zk hr)];exact hr⟩,⟨m,by rw [r.cell (zk hm)];exact hm⟩⟩
theorem zwm (w:World)(k:Nat)(os:Array Obj):Below w.heap.size w (Sort.grow (w.drewN k) os) :=
 ⟨rfl,rfl,rfl,by simp [Sort.grow,World.drewN],fun j h=>by
  show(w.heap++os)[j]?=w.heap[j]?;rw [Array.getElem?_append_left h]⟩
theorem ztf (w:World)(e:TypeId)(s:ByteArray):Below w.heap.size w (Lib.bytesWorld w e s) :=
 ⟨rfl,rfl,rfl,by rw [Lib.bytesWorld_size];omega,fun j h=>Lib.bytesWorld_at_old w e s j h⟩
theorem zbc (n:Int)(h0:0≤n)(h1:n≤9223372036854775807)(w:World)(E:Env w):
  Calls Tryz.prog 132 #[.int .i64 n] w fun r w'=>r= .returned (.string ⟨(dec n.toNat).toArray⟩)∧Below w.heap.size w w':=by
 refine(show Calls Tryz.prog 132 #[.int .i64 n] w _ from Any.strconv_Itoa Tryz.laysM171 n (by omega) h1 w E.tab).mono ?_;rintro r w' ⟨rfl,k,os,rfl⟩;refine⟨?_,zwm w k os⟩;rw [Lib.itoa,if_neg (by omega)];rfl
theorem zz6 (l:List UInt8)(K:l.length≤1000000000)(w:World)(E:Env w):
  Calls Tryz.prog 131 #[.string ⟨l.toArray⟩] w fun r w'=>∃ v e,r= .returned (.tuple #[.int .i64 v,e])∧((e= .nilIface∧v=zfc l)∨((∃ t p,e= .iface t p)∧zfc l=-1))∧Below w.heap.size w w':=by
 have I:(⟨l.toArray⟩:ByteArray).size=l.length:=rfl;cases h:Lib.atoiAll l
 ·rename_i v;refine(show Calls Tryz.prog 131 #[.string ⟨l.toArray⟩] w _ from Any.strconv_Atoi_ok Tryz.laysC172 ⟨l.toArray⟩ (by omega) v h w).mono ?_;rintro r w' ⟨rfl,J⟩;refine⟨v,.nilIface,rfl,.inl ⟨rfl,by unfold zfc;rw [h]⟩,?_⟩;rcases J with rfl | ⟨t,rfl⟩
  ·exact Below.refl _ _
  ·exact ztf w _ t
 ·obtain⟨A,p,H⟩:=E.syn;refine(show Calls Tryz.prog 131 #[.string ⟨l.toArray⟩] w _ from Any.strconv_Atoi_syntax Tryz.laysC172 ⟨l.toArray⟩ (by omega) h (.iface A p) w H (.inr ⟨A,p,rfl⟩)).mono ?_;rintro r w' ⟨N,rfl,-,-,D⟩;exact⟨_,_,rfl,.inr ⟨⟨_,_,rfl⟩,by unfold zfc;rw [h]⟩,D⟩
 ·obtain⟨A,p,H⟩:=E.rng;refine(show Calls Tryz.prog 131 #[.string ⟨l.toArray⟩] w _ from Any.strconv_Atoi_range Tryz.laysC172 ⟨l.toArray⟩ (by omega) h (.iface A p) w H (.inr ⟨A,p,rfl⟩)).mono ?_;rintro r w' ⟨N,rfl,-,-,D⟩;exact⟨_,_,rfl,.inr ⟨⟨_,_,rfl⟩,by unfold zfc;rw [h]⟩,D⟩
theorem zt6 (l:List UInt8)(K:l.length≤1000000000)(w:World)(E:Env w):
  Calls Tryz.prog 91 #[.string ⟨l.toArray⟩] w fun r w'=>r= .returned (.int .i64 (zfc l))∧Below w.heap.size w w':=by
 have H:=za E;clear E;go_enter Tryz.func91,Tryz.ntmps91;go_wp2_with fail;refine(zz6 l K w H.o).mono ?_;rintro r w' ⟨v,e,rfl,J,A⟩;have h:=za A;clear A;rcases J with ⟨rfl,rfl⟩ | ⟨⟨t,p,rfl⟩,D⟩
 ·go_wp2;go_ret;exact⟨rfl,h.o⟩
 ·have I:=za D;clear D;go_wp2;go_ret;exact⟨by rw [I.o];rfl,h.o⟩
theorem js (n:Int)(h0:0≤n)(h1:n≤9223372036854775807):(dec n.toNat).length≤21:=by
 have:=Lib.itoa_length_le n (by omega) h1;rw [Lib.itoa,if_neg (by omega)] at this;exact this
theorem zcf {a b:ByteArray}(h:a=b):Ending.returned (.string a)= .returned (.string b):=by rw [h]
theorem z5w (l i w:Int)(h:j8 l i w)(W:World):
  Calls Tryz.prog 115 #[.int .i64 l,.int .i64 i,.int .i64 w] W fun r w'=>r= .returned (.string ⟨(qi l i w).toArray⟩)∧Below W.heap.size W w':=by
 rw [zo0 h];unfold j8 at h;go_enter Tryz.func115,Tryz.ntmps115;go_wp2_with fail;all_goals first | (go_ret;exact⟨rfl,Below.refl _ _⟩) | (exfalso;omega)
theorem zml (l i w:Int)(Y:i≤9223372036854775807)(W:World)(E:Env W):
  Calls Tryz.prog 115 #[.int .i64 l,.int .i64 i,.int .i64 w] W fun r w'=>r= .returned (.string ⟨(qi l i w).toArray⟩)∧Below W.heap.size W w':=by
 by_cases hb:j8 l i w
 ·exact z5w l i w hb W
 have HN:=za (zcw hb);have X:=hb;unfold j8 at X;have n1:¬ l < -1:=by omega
 have n2:¬ 20 < l:=by omega
 have n3:¬ i < 0:=by omega
 have n4:¬ w < 1:=by omega
 have n5:¬ 4 < w:=by omega
 have L:=za E;have ac:=js i (by omega) Y;have ae:=js w (by omega) (by omega);clear hb X E;by_cases hl:l=-1
 ·subst hl;have U:=za zfl;by_cases Z:w < 4
  ·skip;have S:Hid (zao w=zc9++dec w.toNat):=by show _=_;unfold zao;rw [if_pos Z]
   go_enter Tryz.func115,Tryz.ntmps115;go_wp2_with fail;refine(zbc i (by omega) Y W L.o).mono ?_;rintro r K ⟨rfl,A⟩;have h:Hid (Below W.heap.size W K):=A;clear A;generalize dec i.toNat=J at *
   have b1:¬ 9223372036854775807 < 8+J.length:=by omega
   go_wp2_with fail;refine(zbc w (by omega) (by omega) K (L.o.below h.o)).mono ?_;rintro r w2 ⟨rfl,I⟩;have R:Hid (Below W.heap.size W w2):=h.o.trans (I.mono h.o.size);clear I;generalize dec w.toNat=V at *
   have b2:¬ 9223372036854775807 < 3+V.length:=by omega
   have b3:¬ 9223372036854775807 < 8+J.length+(3+V.length):=by omega
   go_wp2_with fail;go_ret;refine⟨?_,R.o⟩;rw [HN.o,U.o,S.o];exact zcf (by unfold zjg zc9;apply ByteArray.ext;simp)
  ·skip;have S:Hid (zao w=[]):=by show _=_;unfold zao;rw [if_neg Z]
   go_enter Tryz.func115,Tryz.ntmps115;go_wp2_with fail;refine(zbc i (by omega) Y W L.o).mono ?_;rintro r K ⟨rfl,A⟩;have h:Hid (Below W.heap.size W K):=A;clear A;generalize dec i.toNat=J at *
   have b1:¬ 9223372036854775807 < 8+J.length:=by omega
   go_wp2_with fail;go_ret;refine⟨?_,h.o⟩;rw [HN.o,U.o,S.o];exact zcf (by unfold zjg;apply ByteArray.ext;simp)
 ·have U:=za (zfv l hl);have ad:=js l (by omega) (by omega);have nl:(l != -1)=true:=by rw [bne_iff_ne];exact hl
  by_cases Z:w < 4
  ·skip;have S:Hid (zao w=zc9++dec w.toNat):=by show _=_;unfold zao;rw [if_pos Z]
   go_enter Tryz.func115,Tryz.ntmps115;go_wp2_with fail;refine(zbc l (by omega) (by omega) W L.o).mono ?_;rintro r w0 ⟨rfl,H⟩;have D:=za H;clear H;generalize dec l.toNat=Q at *
   have b0:¬ 9223372036854775807 < 5+Q.length:=by omega
   have aa:¬ 9223372036854775807 < 5+Q.length+1:=by omega
   go_wp2_with fail;refine(zbc i (by omega) Y w0 (L.o.below D.o)).mono ?_;rintro r K ⟨rfl,A⟩;have h:Hid (Below W.heap.size W K):=D.o.trans (A.mono D.o.size);clear A;generalize dec i.toNat=J at *
   have b1:¬ 9223372036854775807 < 5+Q.length+1+J.length:=by omega
   go_wp2_with fail;refine(zbc w (by omega) (by omega) K (L.o.below h.o)).mono ?_;rintro r w2 ⟨rfl,I⟩;have R:Hid (Below W.heap.size W w2):=h.o.trans (I.mono h.o.size);clear I;generalize dec w.toNat=V at *
   have b2:¬ 9223372036854775807 < 3+V.length:=by omega
   have b3:¬ 9223372036854775807 < 5+Q.length+1+J.length+(3+V.length):=by omega
   go_wp2_with fail;go_ret;refine⟨?_,R.o⟩;rw [HN.o,U.o,S.o];exact zcf (by unfold zdo zc9;apply ByteArray.ext;simp)
  ·skip;have S:Hid (zao w=[]):=by show _=_;unfold zao;rw [if_neg Z]
   go_enter Tryz.func115,Tryz.ntmps115;go_wp2_with fail;refine(zbc l (by omega) (by omega) W L.o).mono ?_;rintro r w0 ⟨rfl,H⟩;have D:=za H;clear H;generalize dec l.toNat=Q at *
   have b0:¬ 9223372036854775807 < 5+Q.length:=by omega
   have aa:¬ 9223372036854775807 < 5+Q.length+1:=by omega
   go_wp2_with fail;refine(zbc i (by omega) Y w0 (L.o.below D.o)).mono ?_;rintro r K ⟨rfl,A⟩;have h:Hid (Below W.heap.size W K):=D.o.trans (A.mono D.o.size);clear A;generalize dec i.toNat=J at *
   have b1:¬ 9223372036854775807 < 5+Q.length+1+J.length:=by omega
   go_wp2_with fail;go_ret;refine⟨?_,h.o⟩;rw [HN.o,U.o,S.o];exact zcf (by unfold zdo;apply ByteArray.ext;simp)
end Go.Proofs.YtndkblnpbjffhaaGreatDoor
