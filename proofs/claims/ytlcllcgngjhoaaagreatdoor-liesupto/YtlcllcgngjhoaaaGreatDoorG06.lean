import Derived.Test.YtlcllcgngjhoaaaGreatDoorG05
import Derived.Shelf.Strconv.AtoiAll
import Derived.Shelf.Strconv.Itoa3
import Derived.Shelf.Strings.Split
set_option maxHeartbeats 8000000
set_option maxRecDepth 100000
set_option linter.all false
namespace Go.Proofs.YtlcllcgngjhoaaaGreatDoor
open Go.RowKit Go.Proofs.Tryz
def yj:=@Int.toNat_natCast
def xt:=@List.append_assoc
def jc:=@List.length_nil
def jd:=@Option.some.inj
def jg:=@List.take_length
def zal:=@List.nil_append
def za3:=@List.append_nil
def zdx:=@List.drop_left
def zev:=@List.isPrefixOf_iff_prefix
def zjv:=@Nat.min_eq_left
def zob:=@List.take_left
def Fss (w:World)(v:Value)(fs:Fs):Prop :=
 ∃ a d,v= .slice a fs.length d∧fs.length≤d∧(fs=[]∨∃ b c,a=some ⟨b,c,none⟩∧∀ i (h:i < fs.length),w.cell? ⟨b,c+i*2,none⟩=some (qo fs[i].1)∧w.cell? ⟨b,c+i*2+1,none⟩=some (qo fs[i].2))
def zl3 (fs:Fs):Fs→Fs
 | []=>fs
 | f::r=>zl3 (if (ixF fs f.1).isNone then fs++[f] else fs) r
def dk0:Dk:={ fs:=[],calls:=0,failAt:=0,dead:=false,once:=false,half:=false,hit:=false,turned:=false }
theorem zzh (f:zc×zc):∀(l a:Fs),zl3 a (l++[f])=if (ixF (zl3 a l) f.1).isNone then zl3 a l++[f] else zl3 a l
 | [],a=>rfl
 | x::r,a=>by
  show zl3 _ (r++[f])=_;rw [zzh f r]
  rfl
theorem z36:∀(l a:Fs),(zl3 a l).length≤a.length+l.length
 | [],a=>by simp [zl3]
 | x::r,a=>by
  have:=z36 r (if (ixF a x.1).isNone then a++[x] else a);simp only [zl3,y9];split at this<;>simp_all<;>omega
theorem zmr {α:Type}(l:List α)(k:Nat)(h:k < l.length):l.take (k+1)=l.take k++[l[k]]:=by
 rw [List.take_add_one];simp [h]
theorem ylp (v:Value)(fs:Fs)(w:World)(hn:fs.length≤1000000)(h:Fss w v fs):
  Calls prog 32 #[v] w fun r w'=>r= .returned (zdp w.heap.size)∧Below w.heap.size w w'∧yw w' (fun k=>w.heap.size≤k) w.heap.size { dk0 with fs:=zl3 [] fs }:=by
 obtain⟨a,an,rfl,aq,A⟩:=h;have H:=zf A;clear A;go_enter func32,ntmps32;go_wp2_with fail;have N:Hid (yw (w.alloc (.cells #[.slice none 0 0,.int .i64 0,.int .i64 0,.bool false,.bool false,.bool false,.bool false,.bool false] 82)) (fun k=>w.heap.size≤k) w.heap.size { dk0 with fs:=zl3 [] (fs.take 0) }) :=
  ⟨.slice none 0 0,zm _,zg _ _,⟨rfl,.inl ⟨rfl,rfl⟩⟩,fun g e=>by simp [Value.ownBlock] at e⟩
 go_loopw [10] (fun i wr=>∃ k:Nat,k≤fs.length∧i= .int .i64 k∧Below w.heap.size w wr∧yw wr (fun k=>w.heap.size≤k) w.heap.size { dk0 with fs:=zl3 [] (fs.take k) }) (fun i _=>fs.length - (intOf i).toNat)
 case atStart=>exact⟨0,yv _,rfl,zk _ _,N.o⟩
 case round =>
  obtain⟨k,hk,rfl,S,V⟩:=hrel;have K:=zf S;have HD:=zf V;clear S V N
  by_cases m:k < fs.length
  ·obtain⟨b,n,rfl,U⟩:∃ b n,a=some ⟨b,n,none⟩∧∀ i (h:i < fs.length),w.cell? ⟨b,n+i*2,none⟩=some (qo fs[i].1)∧w.cell? ⟨b,n+i*2+1,none⟩=some (qo fs[i].2):=by
    rcases H.o with h | h
    ·rw [h] at m;simp at m
    ·exact h
   obtain⟨y0,y1⟩:=U k m;have D:Hid (zl3 [] (fs.take (k+1))=if (ixF (zl3 [] (fs.take k)) fs[k].1).isNone then zl3 [] (fs.take k)++[fs[k]] else zl3 [] (fs.take k)):=by
    show _=_;rw [zmr fs k m,zzh]
   have Y:=z36 (fs.take k) [];rw [vi,zjv hk] at Y;simp only [jc,xk] at Y;obtain⟨⟨p,x⟩,Z⟩:∃ f,fs[k]=f:=⟨_,rfl⟩;rw [Z] at y0 y1 D;generalize zl3 [] (fs.take k)=c at *;have r0:wr.cell? ⟨b,n+k*2,none⟩=some (.string ⟨p.toArray⟩):=by rw [K.o.cell (p:=⟨b,_,none⟩) (yg y0)];exact y0
   have r1:wr.cell? ⟨b,n+k*2+1,none⟩=some (.string ⟨x.toArray⟩):=by rw [K.o.cell (p:=⟨b,_,none⟩) (yg y1)];exact y1
   clear y0 y1 U Z;go_wp2_with fail;have M:Hid (Below w.heap.size w (wr.alloc (.cells #[.string ⟨p.toArray⟩,.string ⟨x.toArray⟩] 99))):=K.o.trans ((zk _ _).mono K.o.size);have C:Hid (yw (wr.alloc (.cells #[.string ⟨p.toArray⟩,.string ⟨x.toArray⟩] 99)) (fun k=>w.heap.size≤k) w.heap.size { dk0 with fs:=c }):=HD.o.stay (O1:=fun _=>False) (T:=[]) (.of_below (zk _ _)) (by simp) (by simp);have Q:Hid ((wr.alloc (.cells #[.string ⟨p.toArray⟩,.string ⟨x.toArray⟩] 99)).heap[wr.heap.size]?=some (.cells #[.string ⟨p.toArray⟩,.string ⟨x.toArray⟩] 99 (0,0))):=zg _ _;generalize wr.alloc (.cells #[.string ⟨p.toArray⟩,.string ⟨x.toArray⟩] 99)=wf at *;refine(zos (fun k=>w.heap.size≤k) w.heap.size { dk0 with fs:=c } p wf (by show c.length≤_;omega) C.o).mono ?_;rintro e t ⟨rfl,y⟩;have u:Hid (Below w.heap.size w t):=M.o.trans (y.mono M.o.size);have B:=zf (C.o.stay (O1:=fun _=>False) (T:=[]) (.of_below y) (by simp) (by simp));have G:t.heap[wr.heap.size]?=some (.cells #[.string ⟨p.toArray⟩,.string ⟨x.toArray⟩] 99 (0,0)):=by rw [y.block _ (zi Q.o)];exact Q.o
   obtain⟨q0,-⟩:=zw G 0 _ rfl;obtain⟨q1,-⟩:=zw G 1 _ rfl;clear y G r0 r1;cases e:ixF c p with
   | some j =>
    have W:ixI c p=j:=by unfold ixI;rw [e]
    have q:Hid (zl3 [] (fs.take (k+1))=c):=by
     show _=_;rw [D.o,e]
     rfl
    rw [show ixI ({ dk0 with fs:=c }:Dk).fs p=j from W];clear q0 q1 e W;go_wp2_with fail
    go_round
    case rel=>exact⟨k+1,m,by go_num,u.o,by rw [q.o];exact B.o⟩
    case measure=>simp [intOf];omega
   | none =>
    have W:ixI c p=-1:=by unfold ixI;rw [e]
    have q:Hid (zl3 [] (fs.take (k+1))=c++[(p,x)]):=by
     show _=_;rw [D.o,e]
     rfl
    rw [show ixI ({ dk0 with fs:=c }:Dk).fs p=-1 from W];obtain⟨i,hi,X⟩:=zz.1 zv7;obtain⟨ab,ad,ae⟩:i.zero=some (.agg #[.string ⟨#[]⟩,.string ⟨#[]⟩])∧i.size=2∧i.bytes=32:=by simpa using X
    clear X;have HI:=zf hi;have HZ:=zf (And.intro ab (And.intro ad ae));clear hi ab ad ae;obtain⟨I,hO,E,hf,J⟩:=B.o;obtain⟨c0,f0⟩:=(zlg E).1;have HG:=zf J;have au:=zf E;have HF:=zf hf;have HE:=zf e;have aj:Hid (∀ o,(t.alloc o).drew.ownsRow 0 99 2 I c.length (jk c)):=fun o=>zbt (w:=t) hf o;have L:Hid (∀ o,(t.alloc o).drew.heap[w.heap.size]?=some (.cells (zit I { dk0 with fs:=c }) 82 (0,0))):=fun o=>zj (w:=t) E;have av:∀ o,(t.alloc o).cell? ⟨w.heap.size,0,none⟩=some I:=fun o=>by rw [yp _ _ ⟨w.heap.size,0,none⟩ (zi E)];exact c0
    have al:Hid (∀ g,I.ownBlock=some g→w.heap.size≠g):=fun g J e=>by
     rcases hf.2 with ⟨rfl,-⟩ | ⟨g',an,aw,rfl,-,ao,-⟩
     ·simp [Value.ownBlock] at J
     ·simp only [Value.ownBlock,zr] at J;subst J;rw [e,ao] at E;simp at E
    clear J E hf e W HD B C;go_wp2_with fail
    go_region_law (refine vu _ (by rfl) _ _ _ (by rfl) 0 99 i (.agg #[.string ⟨#[]⟩,.string ⟨#[]⟩]) 2 32 underlying75 HI.o HZ.o.1 HZ.o.2.1 HZ.o.2.2 rfl (by omega) I c.length (jk c) (by rfl) (aj.o _) ⟨t.heap.size,0,none⟩ 1 1 [.string ⟨p.toArray⟩,.string ⟨x.toArray⟩] (by rfl) rfl (xj (zg _ _)) (by simp [Value.oneCell']) (by omega) (by unfold maxLen;omega) (by omega) (by omega) (t.heap.size+1) (by simp) ?_;intro g ap w3 z l R ar;have F:w3.heap[w.heap.size]?=some (.cells (zit I { dk0 with fs:=c }) 82 (0,0)):=(by rw [l.block w.heap.size (zi (L.o _)) (fun e=>al.o w.heap.size e.symm rfl)];exact L.o _);obtain⟨c3,f3⟩:=(zlg F).1;have am:=zf z;have ak:=zf l;have af:=zf R;have ag:=zf F;clear z l R F)
    all_goals
     have s:=yaw (O:=fun k=>w.heap.size≤k) (b:=w.heap.size) (d:={ dk0 with fs:=c }) (p:=p) (x:=x) (w:=t) (zq.refl _ _ _) (zm _) HG.o HF.o HE.o am.o ak.o af.o ag.o;have aa:zfn c p x=c++[(p,x)]:=by unfold zfn;rw [HE.o]
     have ah:=zf (u.o.trans (s.2.1.below (fun _ h=>h) u.o.size));have ai:=zf (s.2.2.mono (O':=fun k=>w.heap.size≤k) (fun k hk=>by
      rcases hk with h | h
      ·exact h
      ·exact zu u.o.size h.1))
     clear s;go_wp2_with fail
     go_round
     case rel =>
      refine⟨k+1,m,by go_num,ah.o,?_⟩;have h9:=ai.o;rw [q.o];simp only [aa] at h9;exact h9
     case measure=>simp [intOf];omega
  ·obtain rfl:k=fs.length:=by omega
   have P:=HD.o;rw [jg] at P;go_wp2_with fail;go_ret;exact⟨rfl,K.o,P⟩
end Go.Proofs.YtlcllcgngjhoaaaGreatDoor
namespace Go.Proofs
open Go.Shelf
def Tryz.laysM171_ren:Go.Shelf.Ren:=⟨fun | 171=>165 | 243=>214 | 246=>236 | 283=>243 | 284=>244 | 285=>245 | 286=>246 | 129=>152 | 317=>251 | 318=>252 | 319=>253 | 320=>171 | 337=>217 | 338=>218 | n=>n,fun | 3=>3 | 9=>9 | 2=>2 | 4=>4 | 171=>367 | 0=>0 | 53=>183 | 37=>114 | 5=>5 | 173=>369 | 212=>379 | 51=>160 | 20=>20 | 213=>380 | 46=>184 | 232=>360 | 233=>361 | n=>n,fun | 17=>15 | 18=>10 | 19=>11 | n=>n⟩
theorem Tryz.laysM171:Go.Proofs.LaysM.n171 Tryz.prog Tryz.laysM171_ren:={
 mixed:=by kernel_rfl
 f129:=Tryz.func152.trans (congrArg some (by kernel_rfl))
 f171:=Tryz.func165.trans (congrArg some (by kernel_rfl))
 f243:=Tryz.func214.trans (congrArg some (by kernel_rfl))
 f246:=Tryz.func236.trans (congrArg some (by kernel_rfl))
 f283:=Tryz.func243.trans (congrArg some (by kernel_rfl))
 f284:=Tryz.func244.trans (congrArg some (by kernel_rfl))
 f285:=Tryz.func245.trans (congrArg some (by kernel_rfl))
 f286:=Tryz.func246.trans (congrArg some (by kernel_rfl))
 f317:=Tryz.func251.trans (congrArg some (by kernel_rfl))
 f318:=Tryz.func252.trans (congrArg some (by kernel_rfl))
 f319:=Tryz.func253.trans (congrArg some (by kernel_rfl))
 f320:=Tryz.func171.trans (congrArg some (by kernel_rfl))
 f337:=Tryz.func217.trans (congrArg some (by kernel_rfl))
 f338:=Tryz.func218.trans (congrArg some (by kernel_rfl))
 t0:=Tryz.underlying0
 a0:=Tryz.isAgg0
 z0:=Tryz.sizeOf0
 v0:=Tryz.zeroValue0
 t2:=Tryz.underlying2
 a2:=Tryz.isAgg2
 z2:=Tryz.sizeOf2
 v2:=Tryz.zeroValue2
 t3:=Tryz.underlying3
 a3:=Tryz.isAgg3
 z3:=Tryz.sizeOf3
 v3:=Tryz.zeroValue3
 t4:=Tryz.underlying4
 a4:=Tryz.isAgg4
 z4:=Tryz.sizeOf4
 v4:=Tryz.zeroValue4
 t5:=Tryz.underlying5
 a5:=Tryz.isAgg5
 z5:=Tryz.sizeOf5
 v5:=Tryz.zeroValue5
 t9:=Tryz.underlying9
 a9:=Tryz.isAgg9
 z9:=Tryz.sizeOf9
 v9:=Tryz.zeroValue9
 t20:=Tryz.underlying20
 a20:=Tryz.isAgg20
 z20:=Tryz.sizeOf20
 v20:=Tryz.zeroValue20
 t37:=Tryz.underlying114
 a37:=Tryz.isAgg114
 z37:=Tryz.sizeOf114
 v37:=Tryz.zeroValue114
 t46:=Tryz.underlying184
 a46:=Tryz.isAgg184
 z46:=Tryz.sizeOf184
 v46:=Tryz.zeroValue184
 t51:=Tryz.underlying160
 a51:=Tryz.isAgg160
 z51:=Tryz.sizeOf160
 v51:=Tryz.zeroValue160
 t53:=Tryz.underlying183
 a53:=Tryz.isAgg183
 z53:=Tryz.sizeOf183
 v53:=Tryz.zeroValue183
 t171:=Tryz.underlying367
 a171:=Tryz.isAgg367
 z171:=Tryz.sizeOf367
 v171:=Tryz.zeroValue367
 t173:=Tryz.underlying369
 a173:=Tryz.isAgg369
 z173:=Tryz.sizeOf369
 v173:=Tryz.zeroValue369
 t212:=Tryz.underlying379
 a212:=Tryz.isAgg379
 z212:=Tryz.sizeOf379
 v212:=Tryz.zeroValue379
 t213:=Tryz.underlying380
 a213:=Tryz.isAgg380
 z213:=Tryz.sizeOf380
 t232:=Tryz.underlying360
 a232:=Tryz.isAgg360
 z232:=Tryz.sizeOf360
 v232:=Tryz.zeroValue360
 t233:=Tryz.underlying361
 a233:=Tryz.isAgg361
 z233:=Tryz.sizeOf361
 v233:=Tryz.zeroValue361
 g17:=by kernel_rfl
 g18:=by kernel_rfl
 g19:=by kernel_rfl
 i0:=by kernel_rfl
 i2:=by kernel_rfl
 i3:=by kernel_rfl
 i4:=by kernel_rfl
 i5:=by kernel_rfl
 i9:=by kernel_rfl
 i20:=by kernel_rfl
 i37:=by kernel_rfl
 i46:=by kernel_rfl
 i51:=by kernel_rfl
 i53:=by kernel_rfl
 i171:=by kernel_rfl
 i173:=by kernel_rfl
 i212:=by kernel_rfl
 i232:=by kernel_rfl
 i233:=by kernel_rfl
 m17:=by kernel_rfl
 m18:=by kernel_rfl
 m19:=by kernel_rfl }
def Tryz.laysC172_ren:Go.Shelf.Ren:=⟨fun | 172=>164 | 244=>213 | 245=>163 | 247=>235 | 279=>209 | 280=>210 | 281=>211 | 282=>212 | 287=>162 | 316=>233 | 171=>165 | 205=>234 | 321=>207 | 322=>208 | 243=>214 | 246=>236 | 283=>243 | 284=>244 | 285=>245 | 286=>246 | 129=>152 | 317=>251 | 318=>252 | 319=>253 | 320=>171 | 337=>217 | 338=>218 | n=>n,fun | 9=>9 | 3=>3 | 75=>102 | 76=>138 | 4=>4 | 5=>5 | 167=>333 | 37=>114 | 0=>0 | 85=>357 | 2=>2 | 168=>335 | 53=>183 | 175=>220 | 46=>184 | 210=>355 | 127=>363 | 145=>366 | 143=>364 | 21=>21 | 171=>367 | 173=>369 | 212=>379 | 51=>160 | 20=>20 | 213=>380 | 232=>360 | 233=>361 | 80=>381 | n=>n,fun | 15=>8 | 16=>9 | 17=>15 | 18=>10 | 19=>11 | n=>n⟩
theorem Tryz.laysC172:Go.Proofs.LaysC.n172 Tryz.prog Tryz.laysC172_ren:={
 mixed:=by kernel_rfl
 f129:=Tryz.func152.trans (congrArg some (by kernel_rfl))
 f171:=Tryz.func165.trans (congrArg some (by kernel_rfl))
 f172:=Tryz.func164.trans (congrArg some (by kernel_rfl))
 f205:=Tryz.func234.trans (congrArg some (by kernel_rfl))
 f243:=Tryz.func214.trans (congrArg some (by kernel_rfl))
 f244:=Tryz.func213.trans (congrArg some (by kernel_rfl))
 f245:=Tryz.func163.trans (congrArg some (by kernel_rfl))
 f246:=Tryz.func236.trans (congrArg some (by kernel_rfl))
 f247:=Tryz.func235.trans (congrArg some (by kernel_rfl))
 f279:=Tryz.func209.trans (congrArg some (by kernel_rfl))
 f280:=Tryz.func210.trans (congrArg some (by kernel_rfl))
 f281:=Tryz.func211.trans (congrArg some (by kernel_rfl))
 f282:=Tryz.func212.trans (congrArg some (by kernel_rfl))
 f283:=Tryz.func243.trans (congrArg some (by kernel_rfl))
 f284:=Tryz.func244.trans (congrArg some (by kernel_rfl))
 f285:=Tryz.func245.trans (congrArg some (by kernel_rfl))
 f286:=Tryz.func246.trans (congrArg some (by kernel_rfl))
 f287:=Tryz.func162.trans (congrArg some (by kernel_rfl))
 f316:=Tryz.func233.trans (congrArg some (by kernel_rfl))
 f317:=Tryz.func251.trans (congrArg some (by kernel_rfl))
 f318:=Tryz.func252.trans (congrArg some (by kernel_rfl))
 f319:=Tryz.func253.trans (congrArg some (by kernel_rfl))
 f320:=Tryz.func171.trans (congrArg some (by kernel_rfl))
 f321:=Tryz.func207.trans (congrArg some (by kernel_rfl))
 f322:=Tryz.func208.trans (congrArg some (by kernel_rfl))
 f337:=Tryz.func217.trans (congrArg some (by kernel_rfl))
 f338:=Tryz.func218.trans (congrArg some (by kernel_rfl))
 t0:=Tryz.underlying0
 a0:=Tryz.isAgg0
 z0:=Tryz.sizeOf0
 v0:=Tryz.zeroValue0
 t2:=Tryz.underlying2
 a2:=Tryz.isAgg2
 z2:=Tryz.sizeOf2
 v2:=Tryz.zeroValue2
 t3:=Tryz.underlying3
 a3:=Tryz.isAgg3
 z3:=Tryz.sizeOf3
 v3:=Tryz.zeroValue3
 t4:=Tryz.underlying4
 a4:=Tryz.isAgg4
 z4:=Tryz.sizeOf4
 v4:=Tryz.zeroValue4
 t5:=Tryz.underlying5
 a5:=Tryz.isAgg5
 z5:=Tryz.sizeOf5
 v5:=Tryz.zeroValue5
 t9:=Tryz.underlying9
 a9:=Tryz.isAgg9
 z9:=Tryz.sizeOf9
 v9:=Tryz.zeroValue9
 t20:=Tryz.underlying20
 a20:=Tryz.isAgg20
 z20:=Tryz.sizeOf20
 v20:=Tryz.zeroValue20
 t21:=Tryz.underlying21
 a21:=Tryz.isAgg21
 z21:=Tryz.sizeOf21
 v21:=Tryz.zeroValue21
 t37:=Tryz.underlying114
 a37:=Tryz.isAgg114
 z37:=Tryz.sizeOf114
 v37:=Tryz.zeroValue114
 t46:=Tryz.underlying184
 a46:=Tryz.isAgg184
 z46:=Tryz.sizeOf184
 v46:=Tryz.zeroValue184
 t51:=Tryz.underlying160
 a51:=Tryz.isAgg160
 z51:=Tryz.sizeOf160
 v51:=Tryz.zeroValue160
 t53:=Tryz.underlying183
 a53:=Tryz.isAgg183
 z53:=Tryz.sizeOf183
 v53:=Tryz.zeroValue183
 t75:=Tryz.underlying102
 a75:=Tryz.isAgg102
 z75:=Tryz.sizeOf102
 v75:=Tryz.zeroValue102
 t76:=Tryz.underlying138
 a76:=Tryz.isAgg138
 z76:=Tryz.sizeOf138
 v76:=Tryz.zeroValue138
 t85:=Tryz.underlying357
 a85:=Tryz.isAgg357
 z85:=Tryz.sizeOf357
 v85:=Tryz.zeroValue357
 t127:=Tryz.underlying363
 a127:=Tryz.isAgg363
 z127:=Tryz.sizeOf363
 v127:=Tryz.zeroValue363
 t143:=Tryz.underlying364
 a143:=Tryz.isAgg364
 z143:=Tryz.sizeOf364
 v143:=Tryz.zeroValue364
 t145:=Tryz.underlying366
 a145:=Tryz.isAgg366
 z145:=Tryz.sizeOf366
 v145:=Tryz.zeroValue366
 t167:=Tryz.underlying333
 a167:=Tryz.isAgg333
 z167:=Tryz.sizeOf333
 v167:=Tryz.zeroValue333
 t168:=Tryz.underlying335
 a168:=Tryz.isAgg335
 z168:=Tryz.sizeOf335
 v168:=Tryz.zeroValue335
 t171:=Tryz.underlying367
 a171:=Tryz.isAgg367
 z171:=Tryz.sizeOf367
 v171:=Tryz.zeroValue367
 t173:=Tryz.underlying369
 a173:=Tryz.isAgg369
 z173:=Tryz.sizeOf369
 v173:=Tryz.zeroValue369
 t175:=Tryz.underlying220
 a175:=Tryz.isAgg220
 z175:=Tryz.sizeOf220
 v175:=Tryz.zeroValue220
 t210:=Tryz.underlying355
 a210:=Tryz.isAgg355
 z210:=Tryz.sizeOf355
 v210:=Tryz.zeroValue355
 t212:=Tryz.underlying379
 a212:=Tryz.isAgg379
 z212:=Tryz.sizeOf379
 v212:=Tryz.zeroValue379
 t213:=Tryz.underlying380
 a213:=Tryz.isAgg380
 z213:=Tryz.sizeOf380
 t232:=Tryz.underlying360
 a232:=Tryz.isAgg360
 z232:=Tryz.sizeOf360
 v232:=Tryz.zeroValue360
 t233:=Tryz.underlying361
 a233:=Tryz.isAgg361
 z233:=Tryz.sizeOf361
 v233:=Tryz.zeroValue361
 g15:=by kernel_rfl
 g16:=by kernel_rfl
 g17:=by kernel_rfl
 g18:=by kernel_rfl
 g19:=by kernel_rfl
 t80:=Tryz.underlying381
 a80:=Tryz.isAgg381
 z80:=Tryz.sizeOf381
 v80:=Tryz.zeroValue381
 i0:=by kernel_rfl
 i2:=by kernel_rfl
 i3:=by kernel_rfl
 i4:=by kernel_rfl
 i5:=by kernel_rfl
 i9:=by kernel_rfl
 i20:=by kernel_rfl
 i21:=by kernel_rfl
 i37:=by kernel_rfl
 i46:=by kernel_rfl
 i51:=by kernel_rfl
 i53:=by kernel_rfl
 i75:=by kernel_rfl
 i76:=by kernel_rfl
 i80:=by kernel_rfl
 i85:=by kernel_rfl
 i127:=by kernel_rfl
 i143:=by kernel_rfl
 i145:=by kernel_rfl
 i167:=by kernel_rfl
 i168:=by kernel_rfl
 i171:=by kernel_rfl
 i173:=by kernel_rfl
 i175:=by kernel_rfl
 i210:=by kernel_rfl
 i212:=by kernel_rfl
 i232:=by kernel_rfl
 i233:=by kernel_rfl
 m15:=by kernel_rfl
 m16:=by kernel_rfl
 m17:=by kernel_rfl
 m18:=by kernel_rfl
 m19:=by kernel_rfl
 c0:=by kernel_rfl
 c2:=by kernel_rfl
 c3:=by kernel_rfl
 c4:=by kernel_rfl
 c5:=by kernel_rfl
 c9:=by kernel_rfl
 c20:=by kernel_rfl
 c21:=by kernel_rfl
 c37:=by kernel_rfl
 c46:=by kernel_rfl
 c51:=by kernel_rfl
 c53:=by kernel_rfl
 c75:=by kernel_rfl
 c76:=by kernel_rfl
 c80:=by kernel_rfl
 c85:=by kernel_rfl
 c127:=by kernel_rfl
 c143:=by kernel_rfl
 c145:=by kernel_rfl
 c167:=by kernel_rfl
 c168:=by kernel_rfl
 c171:=by kernel_rfl
 c173:=by kernel_rfl
 c175:=by kernel_rfl
 c210:=by kernel_rfl
 c212:=by kernel_rfl
 c213:=by kernel_rfl
 c232:=by kernel_rfl
 c233:=by kernel_rfl }
def Tryz.lays147_ren:Go.Shelf.Ren:=⟨fun | 147=>112 | 221=>161 | 268=>204 | 138=>205 | 143=>206 | 195=>229 | 197=>230 | 218=>231 | 219=>232 | 260=>238 | 217=>239 | 225=>240 | 224=>241 | 267=>242 | 266=>249 | 314=>250 | n=>n,fun | 9=>9 | 3=>3 | 31=>22 | 4=>4 | 0=>0 | 105=>351 | 21=>21 | 5=>5 | 46=>184 | 119=>372 | 139=>375 | 138=>374 | 146=>376 | 51=>160 | n=>n,fun | 1=>12 | 3=>13 | 4=>14 | n=>n⟩
theorem Tryz.lays147:Go.Proofs.Lays.n147 Tryz.prog Tryz.lays147_ren:={
 mixed:=by kernel_rfl
 f138:=Tryz.func205.trans (congrArg some (by kernel_rfl))
 f143:=Tryz.func206.trans (congrArg some (by kernel_rfl))
 f147:=Tryz.func112.trans (congrArg some (by kernel_rfl))
 f195:=Tryz.func229.trans (congrArg some (by kernel_rfl))
 f197:=Tryz.func230.trans (congrArg some (by kernel_rfl))
 f217:=Tryz.func239.trans (congrArg some (by kernel_rfl))
 f218:=Tryz.func231.trans (congrArg some (by kernel_rfl))
 f219:=Tryz.func232.trans (congrArg some (by kernel_rfl))
 f221:=Tryz.func161.trans (congrArg some (by kernel_rfl))
 f224:=Tryz.func241.trans (congrArg some (by kernel_rfl))
 f225:=Tryz.func240.trans (congrArg some (by kernel_rfl))
 f260:=Tryz.func238.trans (congrArg some (by kernel_rfl))
 f266:=Tryz.func249.trans (congrArg some (by kernel_rfl))
 f267:=Tryz.func242.trans (congrArg some (by kernel_rfl))
 f268:=Tryz.func204.trans (congrArg some (by kernel_rfl))
 f314:=Tryz.func250.trans (congrArg some (by kernel_rfl))
 t0:=Tryz.underlying0
 a0:=Tryz.isAgg0
 z0:=Tryz.sizeOf0
 v0:=Tryz.zeroValue0
 t3:=Tryz.underlying3
 a3:=Tryz.isAgg3
 z3:=Tryz.sizeOf3
 v3:=Tryz.zeroValue3
 t4:=Tryz.underlying4
 a4:=Tryz.isAgg4
 z4:=Tryz.sizeOf4
 v4:=Tryz.zeroValue4
 t5:=Tryz.underlying5
 a5:=Tryz.isAgg5
 z5:=Tryz.sizeOf5
 v5:=Tryz.zeroValue5
 t9:=Tryz.underlying9
 a9:=Tryz.isAgg9
 z9:=Tryz.sizeOf9
 v9:=Tryz.zeroValue9
 t21:=Tryz.underlying21
 a21:=Tryz.isAgg21
 z21:=Tryz.sizeOf21
 v21:=Tryz.zeroValue21
 t31:=Tryz.underlying22
 a31:=Tryz.isAgg22
 z31:=Tryz.sizeOf22
 v31:=Tryz.zeroValue22
 t46:=Tryz.underlying184
 a46:=Tryz.isAgg184
 z46:=Tryz.sizeOf184
 v46:=Tryz.zeroValue184
 t51:=Tryz.underlying160
 a51:=Tryz.isAgg160
 z51:=Tryz.sizeOf160
 v51:=Tryz.zeroValue160
 t105:=Tryz.underlying351
 a105:=Tryz.isAgg351
 z105:=Tryz.sizeOf351
 v105:=Tryz.zeroValue351
 t119:=Tryz.underlying372
 a119:=Tryz.isAgg372
 z119:=Tryz.sizeOf372
 t138:=Tryz.underlying374
 a138:=Tryz.isAgg374
 z138:=Tryz.sizeOf374
 v138:=Tryz.zeroValue374
 t139:=Tryz.underlying375
 a139:=Tryz.isAgg375
 z139:=Tryz.sizeOf375
 v139:=Tryz.zeroValue375
 t146:=Tryz.underlying376
 a146:=Tryz.isAgg376
 z146:=Tryz.sizeOf376
 v146:=Tryz.zeroValue376
 g1:=by kernel_rfl
 g3:=by kernel_rfl
 g4:=by kernel_rfl }
end Go.Proofs
namespace Go.Proofs.YtlcllcgngjhoaaaGreatDoor
open Go.RowKit Go.Proofs.Tryz
def dec (n:Nat):zc:=Lib.decDigits n
def zii (c:UInt8):Prop:=48≤c.toNat∧c.toNat≤57
theorem zpk {n:Nat}(h:n < 10):dec n=[UInt8.ofNat (48+n)]:=by unfold dec;rw [Lib.decDigits,dif_pos h]
theorem zmc {n:Nat}(h:¬ n < 10):dec n=dec (n / 10)++[UInt8.ofNat (48+n % 10)]:=by unfold dec;rw [Lib.decDigits,dif_neg h]
theorem zlr (d:Nat)(h:d < 10):(UInt8.ofNat (48+d)).toNat=48+d:=by rw [zjy];omega
theorem zqu (n:Nat):∀ c∈dec n,zii c:=by
 induction n using Nat.strongRecOn with
 | _ n d =>
  intro c a
  by_cases h:n < 10
  ·rw [zpk h] at a;obtain rfl:c=UInt8.ofNat (48+n):=by simpa using a
   unfold zii;rw [zlr n h];omega
  ·rw [zmc h] at a;rcases yt.1 a with b | b
   ·exact d (n / 10) (by omega) c b
   ·obtain rfl:c=UInt8.ofNat (48+n % 10):=by simpa using b
    unfold zii;rw [zlr _ (by omega)];omega
theorem ygf (n:Nat):dec n≠[]:=by
 by_cases h:n < 10
 ·rw [zpk h];simp
 ·rw [zmc h];simp
theorem ydf (n:Nat)(h:n≤9223372036854775807)(r:zc):Lib.parseUint10 0 (dec n++r)=Lib.parseUint10 n r:=by
 induction n using Nat.strongRecOn generalizing r with
 | _ n b =>
  by_cases a:n < 10
  ·rw [zpk a,zak,zal,Lib.parseUint10,zlr n a,if_pos (by omega),if_neg (by omega),if_neg (by omega)];congr 1;omega
  ·rw [zmc a,xt,b (n / 10) (by omega) (by omega),zak,zal,Lib.parseUint10,zlr _ (by omega),if_pos (by omega),if_neg (by omega),if_neg (by omega)];congr 1;omega
theorem yfq (n:Nat)(h:n≤9223372036854775807):Lib.atoiAll (dec n)= .ok (n:Int):=by
 have d:=ydf n h [];rw [za3,Lib.parseUint10] at d;have e:=zqu n;have b:=ygf n;cases a:dec n with
 | nil=>exact absurd a b
 | cons c r =>
  rw [a] at d e;obtain⟨g,i⟩:=e c (by simp);have f:Lib.parseMag (c::r)= .ok n:=by rw [Lib.parseMag,if_neg (by simp),d]
  simp only [Lib.atoiAll];rw [if_neg (by omega),f];simp only [];rw [if_neg (by omega),if_neg (by omega),if_neg (by omega)]
def zmk (l:zc):Int:=match Lib.atoiAll l with
 | .ok v=>v
 | _=>-1
theorem zo7 (n:Nat)(h:n≤9223372036854775807):zmk (dec n)=(n:Int):=by unfold zmk;rw [yfq n h]
theorem z4b (l:zc):-9223372036854775808≤zmk l∧zmk l≤9223372036854775807:=by
 unfold zmk;cases h:Lib.atoiAll l
 ·exact Lib.atoiAll_bounds h
 ·simp
 ·simp
def zk6 (n:Nat):zc→Option (Nat×zc)
 | []=>some (n,[])
 | c::r=>if 48≤c.toNat∧c.toNat≤57 then (if (9223372036854775807 - (c.toNat - 48)) / 10 < n then none else zk6 (10*n+(c.toNat - 48)) r) else some (n,c::r)
theorem yib (n:Nat)(h:n≤9223372036854775807)(r:zc):zk6 0 (dec n++r)=zk6 n r:=by
 induction n using Nat.strongRecOn generalizing r with
 | _ n b =>
  by_cases a:n < 10
  ·rw [zpk a,zak,zal,zk6,zlr n a,if_pos (by omega),if_neg (by omega)];congr 1;omega
  ·rw [zmc a,xt,b (n / 10) (by omega) (by omega),zak,zal,zk6,zlr _ (by omega),if_pos (by omega),if_neg (by omega)];congr 1;omega
def zp7 (s:zc):Nat×zc×Bool:=match zk6 0 s with
 | none=>(0,s,false)
 | some (n,r)=>(n,r,decide (r.length < s.length))
def zzj:zc→Prop
 | []=>True
 | c::_=>¬ zii c
theorem zzk (n:Nat)(r:zc)(h:zzj r):zk6 n r=some (n,r):=by
 cases r with
 | nil=>rfl
 | cons c r =>
  have a:¬(48≤c.toNat∧c.toNat≤57):=h;rw [zk6,if_neg a]
theorem zwo (n:Nat)(h:n≤9223372036854775807)(r:zc)(a:zzj r):zp7 (dec n++r)=(n,r,true):=by
 unfold zp7;rw [yib n h,zzk n r a];have:0 < (dec n).length:=List.length_pos_iff.2 (ygf n);simp only [zy];rw [show decide (r.length < (dec n).length+r.length)=true by simp;omega]
theorem zwn:∀(l:zc) (n m:Nat)(r:zc) ,n≤9223372036854775807→zk6 n l=some (m,r)→m≤9223372036854775807∧r.length≤l.length
 | [],n,m,r,d,h=>by
  simp only [zk6,zr,ye] at h;obtain⟨rfl,rfl⟩:=h;exact⟨d,zm _⟩
 | c::l,n,m,r,d,h=>by
  rw [zk6] at h;split at h
  ·split at h
   ·simp at h
   ·obtain⟨a,b⟩:=zwn l _ m r (by omega) h;exact⟨a,by simp;omega⟩
  ·simp only [zr,ye] at h;obtain⟨rfl,rfl⟩:=h;exact⟨d,zm _⟩
theorem z7x (l:zc):(zp7 l).1≤9223372036854775807∧(zp7 l).2.1.length≤l.length:=by
 unfold zp7;cases h:zk6 0 l with
 | none=>exact⟨yv _,zm _⟩
 | some x =>
  obtain⟨m,r⟩:=x;exact zwn l 0 m r (by omega) h
theorem yga (a t b:zc)(c:UInt8)(h:∀ x∈a,x≠c):Lib.cut (a++(c::t)++b) (c::t)=(a,b,true):=by
 have g:Lib.index (a++(c::t)++b) (c::t)=a.length:=by
  refine Lib.index_first (by simp) ?_ (fun j d=>?_)
  ·unfold Lib.occAt;rw [xt,zdx];simp [zev]
  ·cases i:Lib.occAt (a++(c::t)++b) (c::t) j with
   | false=>rfl
   | true =>
    have:=Lib.occAt_head rfl i;rw [xt,qd d,zt d] at this;exact absurd (jd this) (h _ (yd d))
 unfold Lib.cut;rw [g,if_pos (by omega),yj];have e:(a++(c::t)++b).take a.length=a:=by rw [xt,zob]
 have f:(a++(c::t)++b).drop (a.length+(c::t).length)=b:=by
  rw [← zy,zdx]
 rw [e,f]
theorem ygd (a t:zc)(c:UInt8)(h:∀ x∈a,x≠c):Lib.cut a (c::t)=(a,[],false):=by
 have d:Lib.index a (c::t)=-1:=by
  refine Lib.index_none (fun j g=>?_);cases f:Lib.occAt a (c::t) j with
  | false=>rfl
  | true =>
   have:=Lib.occAt_head rfl f;obtain⟨b,e⟩:=xy.1 this;exact absurd e (h _ (yd b))
 unfold Lib.cut;rw [d,if_neg (by omega)]
def zrg (s p:zc):zc×Bool:=if p.isPrefixOf s then (s.drop p.length,true) else (s,false)
theorem zuw (p r:zc):p.isPrefixOf (p++r)=true:=by rw [zev];exact List.prefix_append p r
theorem yfr (p r:zc):zrg (p++r) p=(r,true):=by unfold zrg;rw [if_pos (zuw p r),zdx]
theorem yfs (s p:zc):(zrg s p).1.length≤s.length:=by unfold zrg;split<;>simp
def zri:zc:=[101,110,116,114,105,101,115,47]
def zj5:zc:=[116,105,108,101,47]
def zjn:zc:=[46,112,47]
def zdh (l i w:Int):Prop:=l < -1∨20 < l∨i < 0∨w < 1∨4 < w
def zro (l:Int):zc:=if l=-1 then zri else zj5++dec l.toNat++[47]
def zfp (w:Int):zc:=if w < 4 then zjn++dec w.toNat else []
def qq (l i w:Int):zc:=if l < -1∨20 < l∨i < 0∨w < 1∨4 < w then [] else zro l++dec i.toNat++zfp w
theorem zzd {l i w:Int}(h:zdh l i w):qq l i w=[]:=by unfold zdh at h;unfold qq;rw [if_pos h]
theorem zix {l i w:Int}(h:¬ zdh l i w):qq l i w=zro l++dec i.toNat++zfp w:=by unfold zdh at h;unfold qq;rw [if_neg h]
def zfq (p:zc):Int×zc×Bool :=
 if Lib.hasPrefix p zri then (-1,Lib.trimPrefix p zri,true)
 else (zmk (Lib.cut (Lib.trimPrefix p zj5) [47]).1,(Lib.cut (Lib.trimPrefix p zj5) [47]).2.1,Lib.hasPrefix p zj5)
def z9u (c:zc×zc×Bool):Int:=if c.2.2 then zmk c.2.1 else 4
def yio (p:zc):Int×Int×Int×Bool :=
 if (zfq p).2.2=true∧qq (zfq p).1 (zmk (Lib.cut (zfq p).2.1 zjn).1) (z9u (Lib.cut (zfq p).2.1 zjn))=p
 then ((zfq p).1,zmk (Lib.cut (zfq p).2.1 zjn).1,z9u (Lib.cut (zfq p).2.1 zjn),true) else (0,0,0,false)
theorem ym4 (c x:UInt8)(h:zii x)(a:¬ zii c):x≠c:=fun e=>a (e▸h)
theorem zuq (n:Nat)(c:UInt8)(a:¬ zii c):∀ x∈dec n,x≠c:=fun x b=>ym4 c x (zqu n x b) a
theorem zmf:zro (-1) =zri:=by unfold zro;rw [if_pos rfl]
theorem zm7 (l:Int)(h:l≠-1):zro l=zj5++dec l.toNat++[47]:=by unfold zro;rw [if_neg h]
theorem z5n (w:Int):zzj (zfp w):=by
 unfold zfp;split
 ·show ¬ zii 46;unfold zii;decide
 ·trivial
theorem zx4 (l:Int)(e:-1≤l)(b:l≤20)(r:zc):zfq (zro l++r)=(l,r,true):=by
 by_cases h:l=-1
 ·subst h;rw [zmf];unfold zfq Lib.trimPrefix Lib.hasPrefix;rw [if_pos (zuw zri r),if_pos (zuw zri r),zdx]
 ·rw [zm7 l h,xt,xt];have c:Lib.hasPrefix (zj5++(dec l.toNat++([47]++r))) zri=false:=rfl;have a:Lib.hasPrefix (zj5++(dec l.toNat++([47]++r))) zj5=true:=zuw _ _;have d:Lib.trimPrefix (zj5++(dec l.toNat++([47]++r))) zj5=dec l.toNat++[47]++r:=by
   unfold Lib.trimPrefix;rw [if_pos a,zdx,xt]
  unfold zfq;rw [c,a,d,yga (dec l.toNat) [] r 47 (zuq _ _ (by unfold zii;decide)),zo7 _ (by omega)];simp only [zas,zd3];rw [show((l.toNat:Nat):Int)=l by omega]
theorem ygc (i:Nat)(w:Int)(a:i≤9223372036854775807)(c:1≤w)(b:w≤4):zmk (Lib.cut (dec i++zfp w) zjn).1=i∧z9u (Lib.cut (dec i++zfp w) zjn)=w:=by
 unfold zfp
 by_cases h:w < 4
 ·rw [if_pos h,← xt,show zjn=46::[112,47] from rfl,yga (dec i) [112,47] (dec w.toNat) 46 (zuq _ _ (by unfold zii;decide))];refine⟨zo7 i a,?_⟩;show(if true=true then zmk (dec w.toNat) else 4)=w;rw [if_pos rfl,zo7 _ (by omega)];omega
 ·rw [if_neg h,za3,show zjn=46::[112,47] from rfl,ygd (dec i) [112,47] 46 (zuq _ _ (by unfold zii;decide))];refine⟨zo7 i a,?_⟩;show(if false=true then zmk [] else 4)=w;rw [if_neg (by simp)];omega
theorem zt2 {l i w:Int}(h:¬ zdh l i w)(f:i≤9223372036854775807):yio (qq l i w)=(l,i,w,true):=by
 have d:=h;unfold zdh at d;have e:qq l i w=zro l++(dec i.toNat++zfp w):=by rw [zix h,xt]
 have c:=zx4 l (by omega) (by omega) (dec i.toNat++zfp w);obtain⟨a,b⟩:=ygc i.toNat w (by omega) (by omega) (by omega);unfold yio;rw [e,c];simp only [];rw [a,b,show((i.toNat:Nat):Int)=i by omega,← e,if_pos (by simp)]
end Go.Proofs.YtlcllcgngjhoaaaGreatDoor
