import Derived.Test.YtlcllcgngjhoaaaGreatDoorG08
set_option maxHeartbeats 8000000
set_option maxRecDepth 100000
set_option linter.all false
namespace Go.Proofs.YtlcllcgngjhoaaaGreatDoor
open Go.RowKit Go.Proofs.Tryz
variable {O:Nat→Prop}{W3 W4 w w' w5:World}{d':Dk}{db:Nat}{l:zc}{v:Value}
theorem z2j (h:Bq w v l):∃ a n c,v= .slice a n c:=by
 obtain⟨g,b,C,d,rfl,-⟩:=h;exact⟨_,_,_,rfl⟩
theorem jz.undrew:∀ k,jz O w.drew w' k→jz O w w' k:=fun _ h=>h
theorem yi0 (O:Nat→Prop)(b n g i j:Nat)(d:Dk)(p x:zc)(v:Value)(w:World)(z:d.fs.length≤1000000000)(h:yw w O b d)(hv:Bq w v x)
 (A:w.cell? ⟨g,0,none⟩=some (.pointer (some ⟨n,0,none⟩))) (y:w.cell? ⟨i,0,none⟩=some (qo p)) (B:w.cell? ⟨j,0,none⟩=some v) (a:w.cell? ⟨n,0,none⟩=some (stV b true)) :
  Calls prog 225 #[.pointer (some ⟨g,0,none⟩),.pointer (some ⟨i,0,none⟩),.pointer (some ⟨j,0,none⟩)] w fun r c=>∃ e,r= .returned e∧zio (zp8 d p x) w.heap.size e c∧zq O dT w c∧yw c (jz O w c) b (zgg d p x):=by
 unfold stV zdp at a;simp only [if_true] at a;unfold qo at y;have q:=zf h;have u:=zf hv;clear h hv;have C:=yh1;go_enter func225,ntmps225;go_wp2_with fail
 go_region_with (go_at_call 273;refine(yly O b d p x v _ z (by exact q.o) (by exact u.o)).mono ?_;rintro r D ⟨e,rfl,l,m,k⟩;have s:=zf l;have t:=zf m;have f:=zf k;clear l m k)
 all_goals go_wp2
 all_goals go_ret
 all_goals exact⟨_,rfl,s.o,t.o.undrew,f.o.mono jz.undrew⟩
theorem z92 {b:Bool}{p:zc}{e:Value}{r:Ending}(a:Below w.heap.size w W4)(m:w.heap.size≤W3.heap.size)(h0:W4.heap[W3.heap.size]?=some (.cells #[.nilIface] 102 (0,0)))
 (q:zio b W4.heap.size e w') (s:zq O dT W4 w') (n:yw w' (jz O W4 w') db d')
 (h:(e= .nilIface∧r= .returned .nilIface∧w5=w'.setCell ⟨W3.heap.size,0,none⟩ .nilIface)∨((∃ g,e=zhw g)∧r= .returned (za7 w'.heap.size)∧w5=(w'.alloc (.cells #[qo p,e] 179)).setCell ⟨W3.heap.size,0,none⟩ (za7 w'.heap.size))) :
  ∃ j,r= .returned j∧zil b p w.heap.size j w5∧zq O dT w w5∧yw w5 (jz O w w5) db d':=by
 have i:zq O dT w w':=(zq.of_below a).trans (s.mono (fun _ h=> .inl h) (fun _ h=>h));have u:=s.keep h0 (by decide);have y:w.heap.size≤W4.heap.size:=a.size;have t:∀ k,jz O W4 w' k→jz O w w' k:=by
  rintro k (h | h)
  ·exact .inl h
  ·exact .inr (by omega)
 rcases h with ⟨rfl,rfl,rfl⟩ | ⟨⟨d,rfl⟩,rfl,rfl⟩
 ·have f:b=false:=by
   rcases q with ⟨h,-⟩ | ⟨-,g,h,-⟩
   ·exact h
   ·simp [zhw] at h
  have c:=zeq u (by decide) .nilIface;exact⟨_,rfl,.inl ⟨f,rfl⟩,i.setNew m _ _,((n.mono t).stay c (by decide) (by decide)).mono (jz.more (by simp [World.setCell]))⟩
 ·have f:b=true∧zu6 w' d:=by
   rcases q with ⟨-,h⟩ | ⟨h,g,l,-,x⟩
   ·simp [zhw] at h
   ·simp [zhw] at l;exact⟨h,l▸x⟩
  have v:zq (fun _=>True) cT w' (w'.alloc (.cells #[qo p,zhw d] 179)):=(zq.refl _ _ _).alloc _;have c:=zeq (zj (o:= .cells #[qo p,zhw d] 179) u) (by decide) (za7 w'.heap.size);refine⟨_,rfl,.inr ⟨f.1,_,rfl,i.size,d,c.keep (zg _ _) (by decide),(f.2.turn v (by decide)).turn c (by decide)⟩,(i.alloc _).setNew m _ _,(((n.mono t).stay v (by decide) (by decide)).stay c (by decide) (by decide)).mono (jz.more (by simp [World.setCell]))⟩
theorem yhs (O:Nat→Prop)(q l:Nat)(d:Dk)(p x:zc)(v:Value)(w:World)(R:d.fs.length≤1000000000)(h:yw w O q d)(hv:Bq w v x)(s:w.cell? ⟨l,0,none⟩=some (stV q true)):
  Calls prog 189 #[.pointer (some ⟨l,0,none⟩),qo p,v] w fun r g=>∃ e,r= .returned e∧zil (zp8 d p x) p w.heap.size e g∧zq O dT w g∧yw g (jz O w g) q (zgg d p x):=by
 have Q:∀(E:Fn) (first m:Array Value) (w:World),(Instr.makeFunc E first m).run prog w= .ok (.func E first m) w:=fun _ _ _ _=>rfl;have P:∀ j w,(callFunc 225 j).run prog w= .ok (.enter 225 j) w:=zrk func225 (by kernel_rfl) rfl;obtain⟨a,n,c,rfl⟩:=z2j hv;have K:=zf h;have L:=zf hv;have y:=zf s;clear h hv s;have B:qo p= .string ⟨p.toArray⟩:=rfl;rw [B];go_enter func189,ntmps189;go_wp2_with fail;obtain⟨J,G,H,I,b⟩:=z6k w (.cells #[.pointer (some ⟨l,0,none⟩)] 133) (.cells #[.string ⟨p.toArray⟩] 9) (.cells #[.slice a n c] 114);generalize (((w.alloc (.cells #[.pointer (some ⟨l,0,none⟩)] 133)).alloc (.cells #[.string ⟨p.toArray⟩] 9)).alloc (.cells #[.slice a n c] 114))=i at *;have N:=zf J;have f:=yi0 O q l w.heap.size (w.heap.size+1) (w.heap.size+1+1) d p x (.slice a n c) (i.alloc (.cells #[.nilIface] 102)) R
  (K.o.stay (O1:=fun _=>False) (T:=[]) ((zq.of_below b).alloc _) (by simp) (by simp)) ((L.o.below b).below (zk _ _))
  (zw (zj G) 0 _ rfl).1 (zw (zj H) 0 _ rfl).1 (zw (zj I) 0 _ rfl).1 (by rw [yp _ _ ⟨_,0,none⟩ (zx (yg y.o) b.size),b.cell (p:=⟨l,0,none⟩) (yg y.o)];exact y.o)
 have C:Hid ((i.alloc (.cells #[.nilIface] 102)).heap[i.heap.size]?=some (.cells #[.nilIface] 102 (0,0))):=zg _ _;have A:Hid (Below w.heap.size w (i.alloc (.cells #[.nilIface] 102))):=b.alloc (by omega) _;refine(z0n p 225 _ i (fun e g=>zio (zp8 d p x) (i.alloc (.cells #[.nilIface] 102)).heap.size e g∧zq O dT (i.alloc (.cells #[.nilIface] 102)) g∧yw g (jz O (i.alloc (.cells #[.nilIface] 102)) g) q (zgg d p x)) P f ?_).mono ?_
 ·rintro e g ⟨t,u,-⟩;exact⟨ztc t,u.keep C.o (by decide)⟩
 clear f G H I b J;generalize i.alloc (.cells #[.nilIface] 102)=S at *;have z:w.heap.size≤i.heap.size:=by have:=N.out;omega
 rintro r V ⟨e,g,⟨t,u,F⟩,h⟩;have D:=zf (z92 A.out z C.o t u F h);clear t u F h;obtain⟨U,k⟩:=D.o;obtain rfl:=k.1;have M:=zf k.2;clear k D;go_wp2_with fail;go_ret;exact⟨_,rfl,M.o⟩
theorem yoz:∀ c:Fin 256,97≤c.val→c.val≤102→bits BinOp.or IntKind.u8 (c.val:Int) 32=(c.val:Int):=by decide +kernel
theorem yil (c:UInt8)(a:97≤c.toNat)(b:c.toNat≤102):bits BinOp.or IntKind.u8 (c.toNat:Int) 32=(c.toNat:Int):=yoz ⟨c.toNat,by have:=c.toNat_lt;omega⟩ a b
theorem zqt (w:World)(s:ByteArray)(a:Nat)(k:Nat)(c:k < s.size):(w.alloc (.cells (bytesRow s a) 5 ((bytesRow s a).size,(bytesRow s a).size+1))).cell? ⟨w.heap.size,k,none⟩=some (bv s[k]):=by
 have b:k < s.data.size:=c;rw [yq _ _ _ _ _ _ (zg _ _),bytesRow,zhx (by simpa using b),Array.getElem?_map,zid b]
 rfl
theorem z1b (l:zc)(C:1≤l.length)(J:l.length≤16)(u:∀ c∈l,zij c)(w:World):
  Calls prog 162 #[.string ⟨l.toArray⟩,.int .i64 16,.int .i64 64] w fun r G=>r= .returned (.tuple #[.int .u64 (zlh 0 l:Nat),.nilIface])∧Below w.heap.size w G:=by
 have s:=zf u;obtain⟨H,O,f⟩:∃ c r,l=c::r:=by
  cases l with
  | nil=>simp at C
  | cons c r=>exact⟨c,r,rfl⟩
 have F:(l==[])=false:=by rw [f];rfl
 have t:l.isEmpty=false:=by rw [f];rfl
 clear f u;have p:=zcm (P:=prog) w 9 114 5 ⟨l.toArray⟩ qw underlying114 jt;have z:Hid (∀ k (q:k < l.length),(w.alloc (.cells (bytesRow ⟨l.toArray⟩ (grownCap w l.length 0 5)) 5 ((bytesRow ⟨l.toArray⟩ (grownCap w l.length 0 5)).size,(bytesRow ⟨l.toArray⟩ (grownCap w l.length 0 5)).size+1))).cell? ⟨w.heap.size,k,none⟩=some (.int .u8 (l[k].toNat:Int))):=fun k q=>by
  rw [zqt w ⟨l.toArray⟩ _ k q]
  rfl
 have y:=zf (zk w (.cells (bytesRow ⟨l.toArray⟩ (grownCap w l.length 0 5)) 5 ((bytesRow ⟨l.toArray⟩ (grownCap w l.length 0 5)).size,(bytesRow ⟨l.toArray⟩ (grownCap w l.length 0 5)).size+1)));have E:IntKind.u64.wrap (IntKind.u64.wrap 18446744073709551616 - 1)=18446744073709551615:=by decide
 go_enter func162,ntmps162;go_wp2_with fail;generalize w.alloc (.cells (bytesRow ⟨l.toArray⟩ (grownCap w l.length 0 5)) 5 ((bytesRow ⟨l.toArray⟩ (grownCap w l.length 0 5)).size,(bytesRow ⟨l.toArray⟩ (grownCap w l.length 0 5)).size+1))=A at *;generalize grownCap w l.length 0 5=I at *;clear p;go_loopw [12,13,101] (fun t12 t13 i wr=>∃(k:Nat) (a:Int),k≤l.length∧i= .int .i64 k∧t12= .bool false∧t13= .int .u64 a∧Hid (a=(zlh 0 (l.take k):Nat))∧wr=A.drew) (fun _ _ i _=>l.length - (intOf i).toNat)
 case atStart=>exact⟨0,0,yv _,rfl,rfl,rfl,rfl,rfl⟩
 case round =>
  obtain⟨k,a,q,rfl,rfl,rfl,h,rfl⟩:=hrel
  by_cases g:k < l.length
  ·have L:=z.o k g;have v:=s.o l[k] (yd g);have d:zlh 0 (l.take k) < 1152921504606846976:=by
    have:=yah (l.take k) (fun c D=>s.o c (qh D)) 0 0 (by decide);have e:(l.take k).length≤15:=by simp;omega
    have:=zx this (js (n:=16) (by decide) (show 0+(l.take k).length≤15 by omega));exact this
   have j:zlh 0 (l.take (k+1))=zlh 0 (l.take k)*16+nv l[k]:=by
    rw [qf g,z3m]
    rfl
   have b:=h.out;have M:0≤a:=by omega
   have N:a < 1152921504606846976:=by omega
   generalize l[k]=c at *;unfold zij at v;rcases v with ⟨d1,d2⟩ | ⟨d1,d2⟩
   ·have m:Hid (a*16+((c.toNat:Int) - 48)=(zlh 0 (l.take (k+1)):Nat)):=by
     show _=_;rw [j];unfold nv;rw [if_pos d2];omega
    have B:((c.toNat:Int)==95)=false:=by rw [yk];omega
    clear d j b h
    go_wp2
    refine⟨⟨k+1,a*16+((c.toNat:Int) - 48),by omega,(by first | rfl | go_num),rfl,(by first | rfl | (congr 1;omega)),m,trivial⟩,by simp [intOf];omega⟩
   ·have m:Hid (a*16+((c.toNat:Int) - 97+10)=(zlh 0 (l.take (k+1)):Nat)):=by
     show _=_;rw [j];unfold nv;rw [if_neg (by omega)];omega
    have B:((c.toNat:Int)==95)=false:=by rw [yk];omega
    have K:=yil c d1 d2;clear d j b h
    go_wp2
    refine⟨⟨k+1,a*16+((c.toNat:Int) - 97+10),by omega,(by first | rfl | go_num),rfl,(by first | rfl | (congr 1;omega)),m,trivial⟩,by simp [intOf];omega⟩
  ·have b:=h.out;rw [ja (by omega)] at b;have x:=zf b;clear b h;go_wp2_with fail
   go_ret2
   exact⟨by rw [x.o];rfl,y.o.drew⟩
theorem z4h (l:zc)(D:l.length≤1000000000)(w:World):
  Calls prog 162 #[.string ⟨l.toArray⟩,.int .i64 16,.int .i64 64] w fun r B=>∃ v e,r= .returned (.tuple #[.int .u64 v,e])∧0≤v∧v≤18446744073709551615∧(e= .nilIface∨e= .iface 333 (.int .i64 1)∨e= .iface 333 (.int .i64 2))∧Below w.heap.size w B:=by
 cases l with
 | nil =>
  go_enter func162,ntmps162;go_wp2_with fail
  go_ret2
  exact⟨_,_,rfl,by decide,by decide,.inr (.inr rfl),yf _ _⟩
 | cons b d =>
  have g:=zcm (P:=prog) w 9 114 5 ⟨(b::d).toArray⟩ qw underlying114 jt;have s:(b::d==[])=false:=rfl;have m:(b::d).isEmpty=false:=rfl;generalize b::d=l at *;have n:Hid (∀ k (h:k < l.length),(w.alloc (.cells (bytesRow ⟨l.toArray⟩ (grownCap w l.length 0 5)) 5 ((bytesRow ⟨l.toArray⟩ (grownCap w l.length 0 5)).size,(bytesRow ⟨l.toArray⟩ (grownCap w l.length 0 5)).size+1))).cell? ⟨w.heap.size,k,none⟩=some (.int .u8 (l[k].toNat:Int))):=fun k h=>by
   rw [zqt w ⟨l.toArray⟩ _ k h]
   rfl
  have f:=zf (zk w (.cells (bytesRow ⟨l.toArray⟩ (grownCap w l.length 0 5)) 5 ((bytesRow ⟨l.toArray⟩ (grownCap w l.length 0 5)).size,(bytesRow ⟨l.toArray⟩ (grownCap w l.length 0 5)).size+1)));have q:IntKind.u64.wrap (IntKind.u64.wrap 18446744073709551616 - 1)=18446744073709551615:=by decide
  go_enter func162,ntmps162;go_wp2_with fail;generalize w.alloc (.cells (bytesRow ⟨l.toArray⟩ (grownCap w l.length 0 5)) 5 ((bytesRow ⟨l.toArray⟩ (grownCap w l.length 0 5)).size,(bytesRow ⟨l.toArray⟩ (grownCap w l.length 0 5)).size+1))=p at *;generalize grownCap w l.length 0 5=C at *;clear g;go_loopw [12,13,101] (fun t12 t13 i wr=>∃(k:Nat) (a:Int),k≤l.length∧i= .int .i64 k∧t12= .bool false∧t13= .int .u64 a∧0≤a∧a≤18446744073709551615∧wr=p.drew) (fun _ _ i _=>l.length - (intOf i).toNat)
  case atStart=>exact⟨0,0,yv _,rfl,rfl,rfl,by decide,by decide,rfl⟩
  case round =>
   obtain⟨k,a,h,rfl,rfl,rfl,z,A,rfl⟩:=hrel
   by_cases j:k < l.length
   ·have F:=n.o k j;have E:=(l[k]).toNat_lt;generalize l[k]=c at *;have x:=bits_lo_u8 .or (c.toNat:Int) 32;have y:=bits_hi_u8 .or (c.toNat:Int) 32;have t:=bits_lo_u8 .or 95 32;have u:=bits_hi_u8 .or 95 32
    go_wp2
    all_goals first
     | (go_ret2;exact⟨_,_,rfl,by decide,by decide,.inr (.inr rfl),f.o.drew⟩)
     | (go_ret2;exact⟨_,_,rfl,by decide,by decide,.inr (.inl rfl),f.o.drew⟩)
     | (refine⟨⟨k+1,_,by omega,(by first | rfl | go_num),rfl,rfl,by omega,by omega,trivial⟩,by simp [intOf];omega⟩)
   ·go_wp2_with fail
    go_ret2
    exact⟨_,_,rfl,z,A,.inl rfl,f.o.drew⟩
end Go.Proofs.YtlcllcgngjhoaaaGreatDoor
namespace Go.Proofs
open Go.Shelf
def Tryz.laysC245_ren:Go.Shelf.Ren:=⟨fun | 245=>163 | 279=>209 | 280=>210 | 281=>211 | 282=>212 | 316=>233 | 171=>165 | 205=>234 | 243=>214 | 246=>236 | 283=>243 | 284=>244 | 285=>245 | 286=>246 | 129=>152 | 317=>251 | 318=>252 | 319=>253 | 320=>171 | 337=>217 | 338=>218 | n=>n,fun | 9=>9 | 3=>3 | 75=>102 | 167=>333 | 4=>4 | 168=>335 | 210=>355 | 37=>114 | 0=>0 | 127=>363 | 145=>366 | 143=>364 | 2=>2 | 171=>367 | 53=>183 | 5=>5 | 173=>369 | 212=>379 | 51=>160 | 20=>20 | 213=>380 | 46=>184 | 232=>360 | 233=>361 | 80=>381 | n=>n,fun | 15=>8 | 16=>9 | 17=>15 | 18=>10 | 19=>11 | n=>n⟩
theorem Tryz.laysC245:Go.Proofs.LaysC.n245 Tryz.prog Tryz.laysC245_ren:={
 mixed:=by kernel_rfl
 f129:=Tryz.func152.trans (congrArg some (by kernel_rfl))
 f171:=Tryz.func165.trans (congrArg some (by kernel_rfl))
 f205:=Tryz.func234.trans (congrArg some (by kernel_rfl))
 f243:=Tryz.func214.trans (congrArg some (by kernel_rfl))
 f245:=Tryz.func163.trans (congrArg some (by kernel_rfl))
 f246:=Tryz.func236.trans (congrArg some (by kernel_rfl))
 f279:=Tryz.func209.trans (congrArg some (by kernel_rfl))
 f280:=Tryz.func210.trans (congrArg some (by kernel_rfl))
 f281:=Tryz.func211.trans (congrArg some (by kernel_rfl))
 f282:=Tryz.func212.trans (congrArg some (by kernel_rfl))
 f283:=Tryz.func243.trans (congrArg some (by kernel_rfl))
 f284:=Tryz.func244.trans (congrArg some (by kernel_rfl))
 f285:=Tryz.func245.trans (congrArg some (by kernel_rfl))
 f286:=Tryz.func246.trans (congrArg some (by kernel_rfl))
 f316:=Tryz.func233.trans (congrArg some (by kernel_rfl))
 f317:=Tryz.func251.trans (congrArg some (by kernel_rfl))
 f318:=Tryz.func252.trans (congrArg some (by kernel_rfl))
 f319:=Tryz.func253.trans (congrArg some (by kernel_rfl))
 f320:=Tryz.func171.trans (congrArg some (by kernel_rfl))
 f337:=Tryz.func217.trans (congrArg some (by kernel_rfl))
 f338:=Tryz.func218.trans (congrArg some (by kernel_rfl))
 t0:=Tryz.underlying0
 a0:=Tryz.isAgg0
 z0:=Tryz.sizeOf0
 v0:=Tryz.zeroValue0
 t2:=Tryz.underlying2
 a2:=Tryz.isAgg2
 z2:=Tryz.sizeOf2
 v2:=Tryz.zeroValue2
 t3:=Tryz.underlying3
 a3:=Tryz.isAgg3
 z3:=Tryz.sizeOf3
 v3:=Tryz.zeroValue3
 t4:=Tryz.underlying4
 a4:=Tryz.isAgg4
 z4:=Tryz.sizeOf4
 v4:=Tryz.zeroValue4
 t5:=Tryz.underlying5
 a5:=Tryz.isAgg5
 z5:=Tryz.sizeOf5
 v5:=Tryz.zeroValue5
 t9:=Tryz.underlying9
 a9:=Tryz.isAgg9
 z9:=Tryz.sizeOf9
 v9:=Tryz.zeroValue9
 t20:=Tryz.underlying20
 a20:=Tryz.isAgg20
 z20:=Tryz.sizeOf20
 v20:=Tryz.zeroValue20
 t37:=Tryz.underlying114
 a37:=Tryz.isAgg114
 z37:=Tryz.sizeOf114
 v37:=Tryz.zeroValue114
 t46:=Tryz.underlying184
 a46:=Tryz.isAgg184
 z46:=Tryz.sizeOf184
 v46:=Tryz.zeroValue184
 t51:=Tryz.underlying160
 a51:=Tryz.isAgg160
 z51:=Tryz.sizeOf160
 v51:=Tryz.zeroValue160
 t53:=Tryz.underlying183
 a53:=Tryz.isAgg183
 z53:=Tryz.sizeOf183
 v53:=Tryz.zeroValue183
 t75:=Tryz.underlying102
 a75:=Tryz.isAgg102
 z75:=Tryz.sizeOf102
 v75:=Tryz.zeroValue102
 t127:=Tryz.underlying363
 a127:=Tryz.isAgg363
 z127:=Tryz.sizeOf363
 v127:=Tryz.zeroValue363
 t143:=Tryz.underlying364
 a143:=Tryz.isAgg364
 z143:=Tryz.sizeOf364
 v143:=Tryz.zeroValue364
 t145:=Tryz.underlying366
 a145:=Tryz.isAgg366
 z145:=Tryz.sizeOf366
 v145:=Tryz.zeroValue366
 t167:=Tryz.underlying333
 a167:=Tryz.isAgg333
 z167:=Tryz.sizeOf333
 v167:=Tryz.zeroValue333
 t168:=Tryz.underlying335
 a168:=Tryz.isAgg335
 z168:=Tryz.sizeOf335
 v168:=Tryz.zeroValue335
 t171:=Tryz.underlying367
 a171:=Tryz.isAgg367
 z171:=Tryz.sizeOf367
 v171:=Tryz.zeroValue367
 t173:=Tryz.underlying369
 a173:=Tryz.isAgg369
 z173:=Tryz.sizeOf369
 v173:=Tryz.zeroValue369
 t210:=Tryz.underlying355
 a210:=Tryz.isAgg355
 z210:=Tryz.sizeOf355
 v210:=Tryz.zeroValue355
 t212:=Tryz.underlying379
 a212:=Tryz.isAgg379
 z212:=Tryz.sizeOf379
 v212:=Tryz.zeroValue379
 t213:=Tryz.underlying380
 a213:=Tryz.isAgg380
 z213:=Tryz.sizeOf380
 t232:=Tryz.underlying360
 a232:=Tryz.isAgg360
 z232:=Tryz.sizeOf360
 v232:=Tryz.zeroValue360
 t233:=Tryz.underlying361
 a233:=Tryz.isAgg361
 z233:=Tryz.sizeOf361
 v233:=Tryz.zeroValue361
 g15:=by kernel_rfl
 g16:=by kernel_rfl
 g17:=by kernel_rfl
 g18:=by kernel_rfl
 g19:=by kernel_rfl
 t80:=Tryz.underlying381
 a80:=Tryz.isAgg381
 z80:=Tryz.sizeOf381
 v80:=Tryz.zeroValue381
 i0:=by kernel_rfl
 i2:=by kernel_rfl
 i3:=by kernel_rfl
 i4:=by kernel_rfl
 i5:=by kernel_rfl
 i9:=by kernel_rfl
 i20:=by kernel_rfl
 i37:=by kernel_rfl
 i46:=by kernel_rfl
 i51:=by kernel_rfl
 i53:=by kernel_rfl
 i75:=by kernel_rfl
 i80:=by kernel_rfl
 i127:=by kernel_rfl
 i143:=by kernel_rfl
 i145:=by kernel_rfl
 i167:=by kernel_rfl
 i168:=by kernel_rfl
 i171:=by kernel_rfl
 i173:=by kernel_rfl
 i210:=by kernel_rfl
 i212:=by kernel_rfl
 i232:=by kernel_rfl
 i233:=by kernel_rfl
 m15:=by kernel_rfl
 m16:=by kernel_rfl
 m17:=by kernel_rfl
 m18:=by kernel_rfl
 m19:=by kernel_rfl
 c0:=by kernel_rfl
 c2:=by kernel_rfl
 c3:=by kernel_rfl
 c4:=by kernel_rfl
 c5:=by kernel_rfl
 c9:=by kernel_rfl
 c20:=by kernel_rfl
 c37:=by kernel_rfl
 c46:=by kernel_rfl
 c51:=by kernel_rfl
 c53:=by kernel_rfl
 c75:=by kernel_rfl
 c80:=by kernel_rfl
 c127:=by kernel_rfl
 c143:=by kernel_rfl
 c145:=by kernel_rfl
 c167:=by kernel_rfl
 c168:=by kernel_rfl
 c171:=by kernel_rfl
 c173:=by kernel_rfl
 c210:=by kernel_rfl
 c212:=by kernel_rfl
 c213:=by kernel_rfl
 c232:=by kernel_rfl
 c233:=by kernel_rfl }
end Go.Proofs
namespace Go.Proofs.YtlcllcgngjhoaaaGreatDoor
open Go.RowKit Go.Proofs.Tryz
variable {O:Nat→Prop}{W3 W4 w w' w5:World}{d':Dk}{db:Nat}{l:zc}{v:Value}
theorem zsg (a l:zc)(i:l.length≤1000000000)(e:Int)(g:e=1∨e=2)(w:World)(E:Env w):
  Calls prog 163 #[.string ⟨a.toArray⟩,.string ⟨l.toArray⟩,.int .i64 16,.int .i64 64,.iface 333 (.int .i64 e)] w fun r f=>∃ t p,r= .returned (.iface t p)∧Below w.heap.size w f:=by
 have h:(⟨l.toArray⟩:ByteArray).size=l.length:=rfl;rcases g with rfl | rfl
 ·obtain⟨b,p,d⟩:=E.rng;refine(show Calls prog 163 #[.string ⟨a.toArray⟩,.string ⟨l.toArray⟩,.int .i64 16,.int .i64 64,.iface 333 (.int .i64 1)] w _ from Any.strconv_toError_range Tryz.laysC245 ⟨a.toArray⟩ ⟨l.toArray⟩ 16 64 (.iface b p) w (by omega) d (.inr ⟨b,p,rfl⟩)).mono ?_;rintro r f ⟨N,rfl,-,-,c⟩;exact⟨_,_,rfl,c⟩
 ·obtain⟨b,p,d⟩:=E.syn;refine(show Calls prog 163 #[.string ⟨a.toArray⟩,.string ⟨l.toArray⟩,.int .i64 16,.int .i64 64,.iface 333 (.int .i64 2)] w _ from Any.strconv_toError_syntax Tryz.laysC245 ⟨a.toArray⟩ ⟨l.toArray⟩ 16 64 (.iface b p) w (by omega) d (.inr ⟨b,p,rfl⟩)).mono ?_;rintro r f ⟨N,rfl,-,-,c⟩;exact⟨_,_,rfl,c⟩
theorem zww (a:zc)(h:a.length=8)(w:World):
  Calls prog 113 #[.string ⟨(zbn a).toArray⟩,.int .i64 16,.int .i64 64] w fun r g=>r= .returned (.tuple #[.int .u64 (zlh 0 (zbn a):Nat),.nilIface])∧Below w.heap.size w g:=by
 have b:=zf (zdc a);have f:=zf (zrp a);generalize zbn a=l at *;go_enter func113,ntmps113;go_wp2_with fail;refine(z1b l (by rw [b.o];omega) (by rw [b.o];omega) f.o w).mono ?_;rintro r i ⟨rfl,c⟩;have d:=zf c;clear c;generalize hv:((zlh 0 l:Nat):Int)=v;have e:=zf hv;clear hv;go_wp2_with fail
 go_ret2
 exact⟨by rw [e.o];rfl,d.o⟩
theorem zyb (l:zc)(f:l.length≤1000000000)(w:World)(E:Env w):
  Calls prog 113 #[.string ⟨l.toArray⟩,.int .i64 16,.int .i64 64] w fun r q=>∃ v e,r= .returned (.tuple #[.int .u64 v,e])∧0≤v∧v≤18446744073709551615∧(e= .nilIface∨∃ t p,e= .iface t p)∧Below w.heap.size w q:=by
 have h:=zf E;clear E;go_enter func113,ntmps113;go_wp2_with fail;refine(z4h l f w).mono ?_;rintro r m ⟨v,e,rfl,j,k,n,i⟩;have b:=zf i;have d:=zf (And.intro j k);clear i j k;rcases n with rfl | rfl | rfl
 ·go_wp2_with fail
  go_ret2
  exact⟨_,_,rfl,d.o.1,d.o.2,.inl rfl,b.o⟩
 ·go_wp2_with fail;refine(zsg [80,97,114,115,101,85,105,110,116] l f 1 (.inl rfl) m (h.o.below b.o)).mono ?_;rintro r g ⟨t,p,rfl,a⟩;have c:Hid (Below w.heap.size w g):=b.o.trans (a.mono b.o.size);clear a;go_wp2_with fail
  go_ret2
  exact⟨_,_,rfl,d.o.1,d.o.2,.inr ⟨_,_,rfl⟩,c.o⟩
 ·go_wp2_with fail;refine(zsg [80,97,114,115,101,85,105,110,116] l f 2 (.inr rfl) m (h.o.below b.o)).mono ?_;rintro r g ⟨t,p,rfl,a⟩;have c:Hid (Below w.heap.size w g):=b.o.trans (a.mono b.o.size);clear a;go_wp2_with fail
  go_ret2
  exact⟨_,_,rfl,d.o.1,d.o.2,.inr ⟨_,_,rfl⟩,c.o⟩
theorem z5l (l:zc)(d:l.length≤1000000000)(w:World)(E:Env w):
  Calls prog 112 #[.string ⟨l.toArray⟩,.string ⟨#[10]⟩,.int .i64 4] w fun r a=>∃ ps:List ByteArray,ps.map (·.data.toList)=Lib.splitK [10] 0 (min 4 (l.length+1) - 1) l ∧
   r= .returned (.slice (some ⟨w.heap.size,0,none⟩) ps.length (min 4 (l.length+1)))∧a=w.alloc (.cells (Lib.cellsOf ps (min 4 (l.length+1))) 9):=by
 obtain⟨m,b⟩:=E.max;have c:(⟨l.toArray⟩:ByteArray).size=l.length:=rfl;refine(show Calls prog 112 #[.string ⟨l.toArray⟩,.string ⟨#[10]⟩,.int .i64 4] w _ from Any.strings_SplitN Tryz.lays147 (by kernel_rfl) ⟨l.toArray⟩ ⟨#[10]⟩ 4 m w (by omega) b (by decide) (by decide) (by decide)).mono ?_;rintro r a ⟨rfl,rfl⟩;exact⟨_,Lib.splitB_data _ _ _ _,rfl,rfl⟩
variable {B g s:Nat}{e:TypeId}{xs:List Value}
theorem ycl:(prog.info? 5).map (fun i=>(i.zero,i.size,i.bytes))=some (some (.int .u8 0),1,1):=by kernel_rfl
theorem ztb {o:Obj}(h:w.heap[g]?=some o):g < w.heap.size:=by
 rcases qu g w.heap.size with a | a
 ·exact a
 ·simp [zbg a] at h
theorem z73 {n:Nat}(h:w.ownsRow B e s v n xs)(i:Below w.heap.size w w'):w'.ownsRow B e s v n xs:=by
 refine⟨h.1,?_⟩;rcases h.2 with h | ⟨g,a,b,d,f,c,r⟩
 ·exact .inl h
 ·exact .inr ⟨g,a,b,d,f,by rw [i.block g (ztb c)];exact c,r⟩
theorem ydc {n:Nat}(h:w.ownsRow B e s v n xs):∀ k,v.ownBlock=some k→B≤k:=by
 intro k a;rcases h.2 with ⟨rfl,_⟩ | ⟨g,b,c,rfl,d,_⟩
 ·simp [Value.ownBlock] at a
 ·simp only [Value.ownBlock,zr] at a;omega
theorem yky:∀ q:Fin 16,(⟨#[48,49,50,51,52,53,54,55,56,57,97,98,99,100,101,102]⟩:ByteArray)[q.val]'(q.isLt)=zjl q.val:=by decide +kernel
theorem ygg (q:Nat)(h:q < 16):(⟨#[48,49,50,51,52,53,54,55,56,57,97,98,99,100,101,102]⟩:ByteArray)[q]'h=zjl q:=yky ⟨q,h⟩
theorem yob:∀ c:Fin 256,bits BinOp.and IntKind.u8 (c.val:Int) 15=(c.val:Int) % 16:=by decide +kernel
theorem z6m (c:UInt8):bits BinOp.and IntKind.u8 (c.toNat:Int) 15=(c.toNat:Int) % 16:=yob ⟨c.toNat,c.toNat_lt⟩
theorem znx (q:zc)(S:q.length=8)(w:World):
  Calls prog 166 #[.agg (hv q)] w fun r w'=>r= .returned (.string ⟨(zbn q).toArray⟩)∧Below w.heap.size w w':=by
 obtain⟨i,R,y⟩:=zz.1 ycl;obtain⟨B,C,D⟩:i.zero=some (.int .u8 0)∧i.size=1∧i.bytes=1:=by simpa using y
 clear y;have T:=zf R;have J:=zf (And.intro B (And.intro C D));clear R B C D;obtain⟨b,d,f,h,l,m,n,p,rfl⟩:=hv8 q S;clear S;have V:Hid (hv [b,d,f,h,l,m,n,p]=#[.int .u8 b.toNat,.int .u8 d.toNat,.int .u8 f.toNat,.int .u8 h.toNat,.int .u8 l.toNat,.int .u8 m.toNat,.int .u8 n.toNat,.int .u8 p.toNat]):=rfl;rw [V.o];go_enter func166,ntmps166;go_wp2_with fail;go_loopw [3,7] (fun t i wr=>∃ k:Nat,k≤8∧i= .int .i64 k∧Below w.heap.size w wr∧wr.ownsRow w.heap.size 5 1 t (2*k) ((zbn ([b,d,f,h,l,m,n,p].take k)).map bv)) (fun _ i _=>8 - (intOf i).toNat)
 case atStart=>exact⟨0,yv _,rfl,zk w _,⟨rfl,.inl ⟨rfl,rfl⟩⟩⟩
 case round =>
  obtain⟨k,hk,rfl,x,a⟩:=hrel;have E:=zf x;have G:=zf a;clear x a
  by_cases O:k < 8
  ·obtain⟨c,v⟩:∃ c:UInt8,[b,d,f,h,l,m,n,p][k]?=some c:=⟨[b,d,f,h,l,m,n,p][k],by simp [O]⟩;have aa:∀ u,(Instr.index 110 (.agg #[.int .u8 b.toNat,.int .u8 d.toNat,.int .u8 f.toNat,.int .u8 h.toNat,.int .u8 l.toNat,.int .u8 m.toNat,.int .u8 n.toNat,.int .u8 p.toNat]) (.int .i64 k)).run prog u= .ok (.int .u8 (c.toNat:Int)) u:=by
    rcases(by omega:k=0∨k=1∨k=2∨k=3∨k=4∨k=5∨k=6∨k=7) with rfl | rfl | rfl | rfl | rfl | rfl | rfl | rfl
    ·obtain rfl:b=c:=by simpa using v
     exact fun u=>by kernel_rfl
    ·obtain rfl:d=c:=by simpa using v
     exact fun u=>by kernel_rfl
    ·obtain rfl:f=c:=by simpa using v
     exact fun u=>by kernel_rfl
    ·obtain rfl:h=c:=by simpa using v
     exact fun u=>by kernel_rfl
    ·obtain rfl:l=c:=by simpa using v
     exact fun u=>by kernel_rfl
    ·obtain rfl:m=c:=by simpa using v
     exact fun u=>by kernel_rfl
    ·obtain rfl:n=c:=by simpa using v
     exact fun u=>by kernel_rfl
    ·obtain rfl:p=c:=by simpa using v
     exact fun u=>by kernel_rfl
   have W:=c.toNat_lt;have U:Hid ((zbn ([b,d,f,h,l,m,n,p].take (k+1))).map bv=(zbn ([b,d,f,h,l,m,n,p].take k)).map bv++[.int .u8 ((zjl (c.toNat / 16)).toNat:Int),.int .u8 ((zjl (c.toNat % 16)).toNat:Int)]):=by
    show _=_;rw [List.take_add_one,v];unfold zbn;rw [yy,zfz,yy]
    rfl
   have g1:0≤(c.toNat:Int) / 16∧(c.toNat:Int) / 16 < 16:=by omega
   have g2:0≤(c.toNat:Int) % 16∧(c.toNat:Int) % 16 < 16:=by omega
   have ha:=z6m c;have Y:=(ygg ((c.toNat:Int) / 16).toNat (by omega)).trans (congrArg zjl (show((c.toNat:Int) / 16).toNat=c.toNat / 16 by omega));have Z:=(ygg ((c.toNat:Int) % 16).toNat (by omega)).trans (congrArg zjl (show((c.toNat:Int) % 16).toNat=c.toNat % 16 by omega));have A:Hid (w.heap.size≤wr.heap.size):=E.o.size;have H:Hid (∀ o,(wr.alloc o).drew.ownsRow w.heap.size 5 1 u3 (2*k) ((zbn ([b,d,f,h,l,m,n,p].take k)).map bv)):=fun o=>z73 G.o (zk wr o).drew;go_wp2_with fail
   go_region_law (refine vu _ (by rfl) _ _ _ (by rfl) w.heap.size 5 i (.int .u8 0) 1 1 underlying114 T.o J.o.1 J.o.2.1 J.o.2.2 rfl (by omega) u3 (2*k) _ (by rfl) (H.o _) ⟨wr.heap.size,0,none⟩ 2 2 [.int .u8 ((zjl (c.toNat / 16)).toNat:Int),.int .u8 ((zjl (c.toNat % 16)).toNat:Int)] (by rfl) rfl (xj (zg _ _)) (by simp [Value.oneCell']) (by omega) (by unfold maxLen;omega) (by omega) (by have:=A.out;simp;omega) (wr.heap.size+1) (by simp) ?_;intro g Q w3 a s M z)
   all_goals
    have F:Hid (Below w.heap.size w w3):=((E.o.trans ((zk wr _).mono E.o.size)).drew).grown s (by have:=A.out;simp;omega) (ydc G.o);have I:=zf a;clear s M z a;go_wp2_with fail;refine⟨⟨k+1,by omega,by go_num,F.o,by rw [U.o];exact I.o⟩,by simp [intOf];omega⟩
  ·obtain rfl:k=8:=by omega
   have X:(convert 114 9 u3).run prog wr= .ok (.string ⟨(zbn [b,d,f,h,l,m,n,p]).toArray⟩) wr:=by
    rcases G.o.2 with ⟨_,h0⟩ | ⟨g,K,L,rfl,hB,hg,hn,hm,hs,ht⟩
    ·omega
    ·refine zde wr _ _ 5 ⟨g,0,none⟩ K (zbn [b,d,f,h,l,m,n,p]) underlying114 jt qw (fun j N=>?_);rw [zcc,xk,yq _ _ _ _ _ _ hg];have e:((zbn [b,d,f,h,l,m,n,p]).map bv)[j]?=some (bv (zbn [b,d,f,h,l,m,n,p])[j]):=by simp [N]
     have P:L.toList.take (2*8*1)=(zbn [b,d,f,h,l,m,n,p]).map bv:=ht;rw [← P,qj,if_pos (by rw [zdc] at N;simp at N;omega)] at e;simpa [bv] using e
   go_wp2_with fail;go_ret;exact⟨rfl,E.o⟩
theorem z2y:∀ q:Fin 16,((⟨#[48,49,50,51,52,53,54,55,56,57,97,98,99,100,101,102]⟩:ByteArray).extract q.val (q.val+1)).data=#[zjl q.val]:=by decide +kernel
theorem yaa (q:Nat)(h:q < 16):(⟨#[48,49,50,51,52,53,54,55,56,57,97,98,99,100,101,102]⟩:ByteArray).extract q (q+1)=⟨#[zjl q]⟩:=vd (z2y ⟨q,h⟩)
theorem zw7 (l:zc)(v:l.length≤1000)(w:World):
  Calls prog 73 #[.string ⟨l.toArray⟩] w fun r h=>r= .returned (.string ⟨(zbn l).toArray⟩)∧Below w.heap.size w h:=by
 go_enter func73,ntmps73;go_wp2_with fail;go_loopw [4,5] (fun t i wr=>∃ k n:Nat,k≤l.length∧i= .int .i64 k∧t= .string ⟨(zbn (l.take k)).toArray⟩∧wr=w.drewN n) (fun _ i _=>l.length - (intOf i).toNat)
 case atStart=>exact⟨0,0,yv _,rfl,rfl,rfl⟩
 case round =>
  obtain⟨k,n,u,rfl,rfl,rfl⟩:=hrel
  by_cases a:k < l.length
  ·have g:(⟨l.toArray⟩:ByteArray)[k]'(by show k < l.toArray.size;simpa using a)=l[k]:=by show l.toArray[k]=_;simp
   have e:Hid (zbn (l.take (k+1))=zbn (l.take k)++[zjl (l[k].toNat / 16),zjl (l[k].toNat % 16)]):=by
    show _=_;rw [qf a];unfold zbn;rw [yy,zfz]
    rfl
   have d:=zdc (l.take k);have b:(l.take k).length=k:=by rw [vi];omega
   rw [b] at d;have f:=(l[k]).toNat_lt;generalize zbn (l.take k)=m at *;generalize l[k]=c at *;have q:0≤(c.toNat:Int) / 16∧(c.toNat:Int) / 16 < 16:=by omega
   have s:0≤(c.toNat:Int) % 16∧(c.toNat:Int) % 16 < 16:=by omega
   have d1:=yaa (c.toNat / 16) (by omega);have d2:=yaa (c.toNat % 16) (by omega);have j:¬ 9223372036854775807 < m.length+1:=by omega
   have p:¬ 9223372036854775807 < m.length+1+1:=by omega
   go_wp2_with fail
   go_region
   all_goals go_wp2_with fail
   all_goals exact⟨⟨k+1,n+1,by omega,by go_num,by rw [e.o];congr 1;apply vd;simp,rfl⟩,by simp [intOf];omega⟩
  ·go_wp2_with fail;go_ret;rw [ja (by omega)];exact⟨rfl,⟨rfl,rfl,rfl,zm _,fun _ _=>rfl⟩⟩
theorem z0f (c:UInt8)(w:World):
  Calls prog 90 #[.int .u8 (c.toNat:Int)] w fun r i=>∃ v:Int,r= .returned (.int .i64 v)∧i=w∧((zij c∧v=(nv c:Nat))∨(¬ zij c∧v=-1)):=by
 have j:=c.toNat_lt
 by_cases b:48≤c.toNat∧c.toNat≤57
 ·have a:Hid (zij c∧nv c=c.toNat - 48):=by refine⟨.inl b,?_⟩;unfold nv;rw [if_pos b.2]
  obtain⟨f,g⟩:=b;have f1:(48:Int)≤c.toNat:=by omega
  have f2:(c.toNat:Int)≤57:=by omega
  have h:IntKind.u8.wrap ((c.toNat:Int) - 48)=(c.toNat:Int) - 48:=by rw [zfc];omega
  go_enter func90,ntmps90;go_wp2_with fail;go_ret;exact⟨_,rfl,rfl,.inl ⟨a.o.1,by rw [a.o.2];omega⟩⟩
 ·by_cases d:97≤c.toNat∧c.toNat≤102
  ·have a:Hid (zij c∧nv c=c.toNat - 87):=by refine⟨.inr d,?_⟩;unfold nv;rw [if_neg (by omega)]
   obtain⟨f,g⟩:=d;have h:IntKind.u8.wrap ((c.toNat:Int) - 97)=(c.toNat:Int) - 97:=by rw [zfc];omega
   have f1:(97:Int)≤c.toNat:=by omega
   have f2:(c.toNat:Int)≤102:=by omega
   have f3:¬(c.toNat:Int)≤57:=by omega
   have f4:(48:Int)≤c.toNat:=by omega
   clear b;go_enter func90,ntmps90;go_wp2_with fail;go_ret;exact⟨_,rfl,rfl,.inl ⟨a.o.1,by rw [a.o.2];omega⟩⟩
  ·have e:Hid (¬ zij c):=by show ¬ _;unfold zij;omega
   go_enter func90,ntmps90;go_wp2_with fail
   all_goals first
    | (go_ret;exact⟨_,rfl,rfl,.inr ⟨e.o,rfl⟩⟩)
    | (exfalso;omega)
end Go.Proofs.YtlcllcgngjhoaaaGreatDoor
