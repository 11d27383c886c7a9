import Derived.Test.YtinhekmmdlhfkaaGreatDoorG01
import Derived.ChangeKeysEq
import Derived.Test.YtinhekmmdlhfkaaGreatDoorG17
import Derived.Test.YtinhekmmdlhfkaaGreatDoorG18
import Derived.Deep.RegionHeld3
import Derived.Deep.CutRange
namespace Go.Proofs.YtinhekmmdlhfkaaGreatDoor
section
open Go.RowKit
theorem zc1:(Tryz.prog.info? 326).map (·.comparable)=some true:=by kernel_rfl
theorem zc5:(Tryz.prog.info? 328).map (·.size)=some 1:=by kernel_rfl
theorem qq {w:World}{a b:Addr}(hne:a≠b)(ha:∃ c t,w.heap[a.block]?=some (.cells c t (0,0)))(hb:∃ c t,w.heap[b.block]?=some (.cells c t (0,0))):
  (binOp .eql 70 (.iface 326 (.pointer (some a))) (.iface 326 (.pointer (some b)))).run Tryz.prog w= .ok (.bool false) w:=by
 obtain⟨i,hi,hcmp⟩:=Option.map_eq_some_iff.1 zc1
 obtain⟨j,hj,hjs⟩:=Option.map_eq_some_iff.1 zc5
 obtain⟨ca,ta,ha⟩:=ha
 obtain⟨cb,tb,hb⟩:=hb
 exact run_eql_iface_ptr_other w Tryz.underlying70 Tryz.underlying326 hi hcmp hj (by rw [hjs];decide) hne ha hb
structure qm (w:World)(at_:Nat→Addr):Prop where
 entry:w.cell? ⟨1,0,none⟩=some (.iface 326 (.pointer (some (at_ 0))))
 range:w.cell? ⟨2,0,none⟩=some (.iface 326 (.pointer (some (at_ 1))))
 check:w.cell? ⟨3,0,none⟩=some (.iface 326 (.pointer (some (at_ 2))))
 old:w.cell? ⟨4,0,none⟩=some (.iface 326 (.pointer (some (at_ 3))))
 proof:w.cell? ⟨5,0,none⟩=some (.iface 326 (.pointer (some (at_ 4))))
 tile:w.cell? ⟨6,0,none⟩=some (.iface 326 (.pointer (some (at_ 5))))
 failed:w.cell? ⟨0,0,none⟩=some (.iface 326 (.pointer (some (at_ 6))))
 apart:∀ i j,i < 7→j < 7→i≠j→at_ i≠at_ j
 block:∀ i,i < 7→∃ c t,w.heap[(at_ i).block]?=some (.cells c t (0,0))
end
section
open Go.RowKit
set_option maxRecDepth 100000
theorem zpi (a:List UInt8)(i:Nat)(h:i < a.length)(w:World):(part 5 (hv a) (i*Tryz.prog.cellsOf 5)).run Tryz.prog w= .ok (bv a[i]) w:=by
 have hc:Tryz.prog.cellsOf 5=1:=by kernel_rfl
 rw [hc,Nat.mul_one]
 exact run_part_plain w (by kernel_rfl) (by simp [hv,h])
theorem z6d (d:Nat)(x y:UInt8)(w:World):(Op.equalIn (d+1) 5 (bv x) (bv y)).run Tryz.prog w= .ok (decide (x=y)) w:=by
 have e:((x.toNat:Int)==(y.toNat:Int))=decide (x=y):=by
  rw [Bool.eq_iff_iff,beq_iff_eq,decide_eq_true_eq]
  constructor
  ·intro h;exact UInt8.toNat_inj.1 (by omega)
  ·rintro rfl;rfl
 rw [← e]
 unfold bv
 simp [Op.equalIn,run_underlying Tryz.underlying5]
theorem zh0 (d:Nat)(a b:List UInt8)(w:World):∀ l:List Nat,(∀ i∈l,i < a.length∧i < b.length) →
  (Op.eqItems (d+1) 5 (Tryz.prog.cellsOf 5) (hv a) (hv b) l).run Tryz.prog w= .ok (l.all fun i=>decide (a[i]?=b[i]?)) w
 | [],_=>by simp [Op.eqItems]
 | i::l,h=>by
  obtain⟨h1,h2⟩:=h i (by simp)
  have ih:=zh0 d a b w l (fun j hj=>h j (by simp [hj]))
  simp only [Op.eqItems,Sem.run_bind,zpi a i h1,zpi b i h2,z6d,Result.andThen_ok]
  have e:decide (a[i]?=b[i]?)=decide (a[i]=b[i]):=by
   rw [List.getElem?_eq_getElem h1,List.getElem?_eq_getElem h2];simp
  rw [List.all_cons,e]
  cases hq:decide (a[i]=b[i])
  ·simp
  ·simp [ih]
theorem z8m (a b:List UInt8)(ha:a.length=8)(hb:b.length=8):((List.range 8).all fun i=>decide (a[i]?=b[i]?))=decide (a=b):=by
 rw [Bool.eq_iff_iff]
 simp only [List.all_eq_true,List.mem_range,decide_eq_true_eq]
 constructor
 ·intro h
  apply List.ext_getElem?
  intro i
  by_cases hi:i < 8
  ·exact h i hi
  ·rw [List.getElem?_eq_none (by omega),List.getElem?_eq_none (by omega)]
 ·rintro rfl i _;rfl
def eqH (a b:List UInt8):Bool:=decide (a=b)
theorem zgr (a b:List UInt8)(ha:a.length=8)(hb:b.length=8)(w:World):
  (binOp .eql 91 (.agg (hv a)) (.agg (hv b))).run Tryz.prog w= .ok (.bool (eqH a b)) w:=by
 unfold eqH
 have hs:∃ i,Tryz.prog.info? 5=some i:=by
  have:(Tryz.prog.info? 5).map (·.size)=some 1:=by kernel_rfl
  obtain⟨i,hi,_⟩:=Option.map_eq_some_iff.1 this
  exact⟨i,hi⟩
 obtain⟨i,hi⟩:=hs
 simp only [binOp]
 have he:=run_equalIn_array (P:=Tryz.prog) w 9999 (hv a) (hv b) Tryz.underlying91 hi
 rw [zh0 9998 a b w _ (fun j hj=>by simp at hj;omega),z8m a b ha hb] at he
 simp [Op.equal,Op.maxDepth,he]
end
section
set_option maxHeartbeats 4000000
open Go.RowKit
set_option maxRecDepth 100000
def jo (at_:Nat→Addr)(i:Nat):Value:= .iface 326 (.pointer (some (at_ i)))
theorem lok {w:World}{O:Nat→Prop}{db lb:Nat}{l:Lg}(h:xk w O db lb l):∃ a cap,(w.heap[lb]?=some (.cells (zck db (.slice a l.es.length cap) l) 109 (0,0)))∧OBs w 0 (.slice a l.es.length cap) l.es∧(∀ g,(Value.slice a l.es.length cap).ownBlock=some g→O g)∧O lb:=by
 obtain⟨ev,hO,hb,hes,hg⟩:=h
 obtain⟨a,cap,rfl⟩:=zdb hes
 exact⟨a,cap,hb,hes,hg,hO⟩
def Chk (t key:List UInt8)(n y0 y1 y2 y3 y4 y5 y6 y7:Int)(b:Bool):Prop:=(∃(m:Nat) (b0 b1 b2 b3 b4 b5 b6 b7:UInt8),jq t key m [b0,b1,b2,b3,b4,b5,b6,b7]∧n=m∧y0=b0.toNat∧y1=b1.toNat∧y2=b2.toNat∧y3=b3.toNat∧y4=b4.toNat∧y5=b5.toNat∧y6=b6.toNat∧y7=b7.toNat∧b=true)∨((∀ n root,¬ jq t key n root)∧b=false)
theorem zly (t key:List UInt8)(ht:t.length≤1048576)(hk:key.length≤9223372036854775807)(w:World)(E:Env w):
  Calls Tryz.prog 57 #[.string ⟨t.toArray⟩,.string ⟨key.toArray⟩] w fun r w'=>Below w.heap.size w w'∧∃(n y0 y1 y2 y3 y4 y5 y6 y7:Int) (b:Bool),r= .returned (.tuple #[.agg #[.int .i64 n,.int .u8 y0,.int .u8 y1,.int .u8 y2,.int .u8 y3,.int .u8 y4,.int .u8 y5,.int .u8 y6,.int .u8 y7],.bool b])∧Chk t key n y0 y1 y2 y3 y4 y5 y6 y7 b:=by
 refine(zpq t key ht hk w E).mono ?_
 rintro r w' ⟨hb,⟨m,b0,b1,b2,b3,b4,b5,b6,b7,hs,rfl⟩ | ⟨hs,rfl⟩⟩
 ·exact⟨hb,_,_,_,_,_,_,_,_,_,_,rfl,.inl ⟨m,b0,b1,b2,b3,b4,b5,b6,b7,hs,rfl,rfl,rfl,rfl,rfl,rfl,rfl,rfl,rfl,rfl⟩⟩
 ·exact⟨hb,_,_,_,_,_,_,_,_,_,_,rfl,.inr ⟨hs,rfl⟩⟩
theorem z9i {lk:Lk}{j w:Nat}{es:List (List UInt8)}(h:zb8 lk j w=some es):∀ e∈es,e.length≤20:=by
 unfold zb8 at h
 cases e:lk (yr (-1) j w) with
 | none=>rw [e] at h;simp at h
 | some d =>
  rw [e] at h
  simp only at h
  cases e2:zch d with
  | none=>rw [e2] at h;simp at h
  | some x =>
   rw [e2] at h
   simp only at h
   split at h
   ·obtain rfl:x=es:=by simpa using h
    unfold zch at e2
    cases e3:unb d with
    | none=>rw [e3] at e2;simp at e2
    | some y =>
     rw [e3] at e2
     simp only at e2
     split at e2
     ·rename_i hok
      obtain rfl:y=x:=by simpa using e2
      simp only [okB,Bool.and_eq_true,decide_eq_true_eq,List.all_eq_true] at hok
      exact hok.2.2
     ·simp at e2
   ·simp at h
theorem z9k {lk:Lk}{n:Nat}:∀ {k:Nat} {d:List (List UInt8)},zbp lk n k=some d→∀ e∈d,e.length≤20
 | 0,d,h=>by
  obtain rfl:[]=d:=by simpa [zbp] using h
  intro e he
  simp at he
 | k+1,d,h=>by
  unfold zbp at h
  cases e:zbp lk n k with
  | none=>rw [e] at h;simp at h
  | some x =>
   rw [e] at h
   obtain⟨b,hb,rfl⟩:=Option.map_eq_some_iff.1 h
   intro y hy
   rcases List.mem_append.1 hy with hy | hy
   ·exact z9k e y hy
   ·exact z9i hb y hy
theorem yz {w w':World}{at_:Nat→Addr}(h:qm w at_)(hb:Below w.heap.size w w'):qm w' at_:=by
 have c:∀ {a:Addr} {v:Value},w.cell? a=some v→w'.cell? a=some v:=fun {a v} e=>by rw [hb.cell (p:=a) (zj e)];exact e
 refine⟨c h.entry,c h.range,c h.check,c h.old,c h.proof,c h.tile,c h.failed,h.apart,fun i hi=>?_⟩
 obtain⟨cs,t,e⟩:=h.block i hi
 refine⟨cs,t,?_⟩
 rw [hb.block _ (zb e)]
 exact e
theorem znr (a b:List UInt8)(ha:a.length=8)(hb:b.length=8)(w:World):
  (binOp .neq 91 (.agg (hv a)) (.agg (hv b))).run Tryz.prog w= .ok (.bool !eqH a b) w:=by
 have h:=zgr a b ha hb w
 simp only [binOp] at h ⊢
 cases e:(Op.equal 91 (.agg (hv a)) (.agg (hv b))).run Tryz.prog w with
 | ok x w' =>
  simp [e] at h ⊢
  exact⟨by rw [← h.1],h.2⟩
 | halt x w'=>simp [e] at h
theorem z1u (O:Nat→Prop)(W:World)(at_:Nat→Addr)(hE:Env W)(hSN:qm W at_)(hOW:∀ k,O k→W.heap.size≤k)(db lb:Nat)(d:Dk)(l:Lg)(w:World)(hn:d.fs.length≤1000000000)(hl:∀ f∈d.fs,f.2.length≤1048576)(hk:l.key.length≤9223372036854775807)(hc:zau d)(hW:Below W.heap.size W w)(h:zm w O db d)(hL:xk w O db lb l)(hlv:l.live=true)(hes0:l.es=[])
  (s:List Nat) (hs:zht (zx d.fs) s) (hsl:s.length≤100000) :
  Calls Tryz.prog 44 #[.pointer (some ⟨lb,0,none⟩)] w fun r w'=>∃(d':Dk) (es':List (List UInt8)),zf O rT w w'∧zm w' O db d'∧xk w' (Ext O w w') db lb { l with es:=es' }∧d'.fs=d.fs∧tk d'=tk d ∧
   ((d'.hit=true∧∃ p e,r= .returned e∧zbd true p w.heap.size e w')∨(zau d' ∧
    ((r= .returned .nilIface∧∃ n R,zhv (zx d.fs) l.key n R∧zbp (zx d.fs) n ((n+3) / 4)=some es'∧yb es'=R) ∨
     (r= .returned (jo at_ 2)∧∃ t,zx d.fs cpF=some t∧∀ n R,¬ jq t l.key n R) ∨
     (∃ n R k d0 g,zhv (zx d.fs) l.key n R∧4*k < n∧zbp (zx d.fs) n k=some d0∧zb8 (zx d.fs) k (wid n k)=none∧r= .returned (xm g)∧w'.heap[g]?=some (.cells #[txv (yr (-1) k (wid n k)),jo at_ 5] 115 (0,0))) ∨
     (r= .returned (jo at_ 4)∧∃ n R,zhv (zx d.fs) l.key n R∧zbp (zx d.fs) n ((n+3) / 4)=some es'∧yb es'≠R)))):=by
 have HL:=za hl
 have HD:=za h
 have HLG:=za hL
 have HW:=za hW
 have HC:=za hc
 have HO:=za hOW
 have hEE:=za hE
 have HSN:=za hSN
 have HS:=za hs
 have H00:=za hes0
 clear hl h hL hW hc hOW hE hs hSN hes0
 obtain⟨a,cap,hb,hes,hg,hO⟩:=lok HLG.o
 have HB:=za hb
 have HEV:=za hes
 have HG:=za hg
 obtain⟨⟨c0,f0⟩,⟨c1,f1⟩,⟨c2,f2⟩,-⟩:=zej hb
 rw [hlv] at c0
 clear hb hes hg
 have q:∀(w:World) (a:Option Addr) (n c n' c':Nat),(binOp .eql 76 (.slice a n c) (.slice none n' c')).run Tryz.prog w= .ok (.bool a.isNone) w:=fun w a n c n' c'=>Lib.run_eql_slice_nil w _ _ a n c n' c' Tryz.underlying76
 go_enter Tryz.func44,Tryz.ntmps44
 go_wp2_with fail
 refine(zjm O db lb d cpF w hn (fun f hf=>Nat.le_trans (HL.o f hf) (by omega)) HD.o c0).mono ?_
 rintro r w1 ⟨v,e,rfl,hge,ht1,hd1,hv1⟩
 have HT1:=za ht1
 have HD1:=za hd1
 have HGE:=za hge
 have HLG1:=za (HLG.o.stay ht1 (by decide) (by decide) (by decide))
 have HB1:=za (ht1.keep HB.o (by decide))
 clear ht1 hd1
 rcases jf hge with ⟨hbd,rfl⟩ | ⟨hbd,g,rfl⟩
 ·have HC1:Hid (zau (ye d)):=by
   rcases za4 HC.o with ⟨-,h⟩ | ⟨h,-⟩
   ·exact h
   ·simp [bad,h] at hbd
  have HG1:=za (zu0 hbd hv1)
  clear hge hbd hv1
  rcases zfg HG1.o with ⟨hx,rfl⟩ | ⟨t,ga,gn,gc,hx,rfl⟩
  ·have HX:=za hx
   clear hx
   go_wp2_with fail
   go_ret
   refine⟨ye d,[],HT1.o.to_rT,HD1.o,?_,yg d,za8 d,.inr ⟨HC1.o,.inl ⟨rfl,0,hash [],.inl ⟨HX.o,rfl,rfl⟩,rfl,zal _ _ rfl⟩⟩⟩
   have:=HLG1.o.mono (O':=Ext O w w1) (fun _ h=> .inl h)
   rw [← H00.o]
   exact this
  ·have HX:=za hx
   have hq1:Bq w1 (.slice (some ga) gn gc) t:=by
    rcases HG1.o with ⟨t',e,hb⟩ | ⟨-,e⟩
    ·rw [hx] at e
     obtain rfl:t=t':=by simpa using e
     exact hb
    ·simp at e
   have htl:t.length≤1048576:=HL.o (cpF,t) (znp hx)
   have HQ1:=za hq1
   obtain⟨-,⟨k1,z1⟩,-⟩:=zej HB1.o
   have hlt1:=zb HB1.o
   clear hx hq1 c0 c1 c2 f0 f1 f2
   have HEW:=za (Env.turn hEE.out HW.o HT1.o HO.o)
   go_upto_region 4 with fail
   have hcv:∀ W',Below w1.heap.size w1 W'→(convert 76 9 (.slice (some ga) gn gc)).run Tryz.prog W'= .ok (.string ⟨t.toArray⟩) W':=fun W' hb=>(HQ1.o.below hb).conv
   have hcv0:=hcv _ ((Below.refl _ w1).drew)
   have hcv1:∀ o,(convert 76 9 (.slice (some ga) gn gc)).run Tryz.prog (w1.alloc o).drew= .ok (.string ⟨t.toArray⟩) (w1.alloc o).drew:=fun o=>hcv _ (ze w1 o).drew
   have k1':∀ o,(w1.alloc o).cell? ⟨lb,1,none⟩=some (.string ⟨l.key.toArray⟩):=fun o=>by rw [zk _ _ ⟨_,1,none⟩ hlt1];exact k1
   have hD0:Hid (Below w1.heap.size w1 w1.drew):=(Below.refl _ _).drew
   have hD1:Hid (∀ o,Below w1.heap.size w1 (w1.alloc o).drew):=fun o=>(ze _ _).drew
   clear hcv
   go_cut [5,6] from 13 to 37 (fun s5 s6 wx=>∃(B:Nat) (n y0 y1 y2 y3 y4 y5 y6 y7:Int) (b:Bool),s5= .pointer (some ⟨B,0,none⟩)∧wx.heap[B]?=some (.cells #[.int .i64 n,.int .u8 y0,.int .u8 y1,.int .u8 y2,.int .u8 y3,.int .u8 y4,.int .u8 y5,.int .u8 y6,.int .u8 y7] 93 (0,0))∧w1.heap.size≤B∧Below w1.heap.size w1 wx∧s6= .bool b∧Chk t l.key n y0 y1 y2 y3 y4 y5 y6 y7 b)
   case first =>
    clear hn hlv HD HLG HD1 HLG1 HC1 HG1 HX HL HS H00 HGE HC hsl z1 hO q
    go_region_with (first
     | (go_at_call 57;refine(zly t l.key htl hk w1.drew (by exact HEW.o.1.below hD0.out)).mono ?_;rintro r w2 ⟨hb2,n,y0,y1,y2,y3,y4,y5,y6,y7,b,rfl,hck⟩;have hbb:Below w1.heap.size w1 w2:=(hD0.out).trans (hb2.mono (hD0.out).size);have HB2:=za hbb;have HCK:=za hck;clear hb2 hbb hck)
     | (go_at_call 57;refine(zly t l.key htl hk (w1.alloc (.cells z9v 93)).drew (by exact HEW.o.1.below (hD1.out _))).mono ?_;rintro r w2 ⟨hb2,n,y0,y1,y2,y3,y4,y5,y6,y7,b,rfl,hck⟩;have hbb:Below w1.heap.size w1 w2:=((hD1.out _)).trans (hb2.mono ((hD1.out _)).size);have HB2:=za hbb;have HCK:=za hck;have hnw:w2.heap[w1.heap.size]?=some (.cells z9v 93 (0,0)):=(by rw [hb2.block _ (by show w1.heap.size < (w1.heap.push _).size;simp)];exact heap_alloc_last w1 _);obtain⟨x0,x1,x2,x3,x4,x5,x6,x7,x8⟩:=zgo hnw;have xz:=zpv hnw;have HNW:=za hnw;clear hnw;clear hb2 hbb hck))
    all_goals go_wp2_with fail
    all_goals go_meet
    all_goals first
     | (have hN:=HNW.o;exact⟨w1.heap.size,n,y0,y1,y2,y3,y4,y5,y6,y7,b,rfl,ztt (.int .i64 n) (.int .u8 y0) (.int .u8 y1) (.int .u8 y2) (.int .u8 y3) (.int .u8 y4) (.int .u8 y5) (.int .u8 y6) (.int .u8 y7) hN,Nat.le_refl _,zmj HB2.o (Nat.le_refl _) (.int .i64 n) (.int .u8 y0) (.int .u8 y1) (.int .u8 y2) (.int .u8 y3) (.int .u8 y4) (.int .u8 y5) (.int .u8 y6) (.int .u8 y7),rfl,HCK.o⟩)
     | exact⟨w2.heap.size,n,y0,y1,y2,y3,y4,y5,y6,y7,b,rfl,heap_alloc_last _ _,HB2.o.size,HB2.o.alloc HB2.o.size _,rfl,HCK.o⟩
   case rest =>
    obtain⟨B,n,y0,y1,y2,y3,y4,y5,y6,y7,b,rfl,hB,hB1,hbw,rfl,hck⟩:=hcut
    clear hcv0 hcv1 k1' hD0 hD1 k1 z1 q HEW HG1 HQ1
    have ht1:zf O dT1 w wc:=HT1.o.then_below hbw
    have HTc:=za ht1
    have hTc:zf O [] w1 wc:= .of_below hbw
    have HDc:=za (HD1.o.stay hTc (by decide) (by decide))
    have HLc:=za (HLG1.o.stay hTc (by decide) (by decide) (by decide))
    have HBWc:=za (HW.o.trans (ht1.below HO.o HW.o.size))
    have HBB:=za hB
    have hBw:Hid (w.heap.size≤B):=Nat.le_trans HT1.o.size hB1
    clear HT1 HD1 HLG1 HB1 hlt1 hbw hTc ht1 hB hB1
    rcases hck with ⟨m,b0,b1,b2,b3,b4,b5,b6,b7,hsg,rfl,rfl,rfl,rfl,rfl,rfl,rfl,rfl,rfl,rfl⟩ | ⟨hno,rfl⟩
    ·have HSG:=za hsg
     clear hsg
     have hgT:=(yz HSN.o HBWc.o).tile
     go_wp2_with fail
     go_loopg [7,8,9,10,11,12] (m+1) (fun gg _ _ _ _ _ _ wr=>∃(k:Nat) (d1:Dk) (es:List (List UInt8)),m+1 - 4*k≤gg∧4*k < m+4∧zbp (zx d.fs) m k=some es∧zf O rT w wr∧zm wr O db d1∧xk wr (Ext O w wr) db lb { l with es:=es }∧d1.fs=d.fs∧tk d1=tk d∧zau d1∧wr.heap[B]?=some (.cells (tv m b0 b1 b2 b3 b4 b5 b6 b7) 93 (0,0)))
     case atStart=>exact⟨0,ye d,[],by omega,by omega,rfl,HTc.o.to_rT,HDc.o,by have:=HLc.o.mono (O':=Ext O w wc) (fun _ h=> .inl h);rw [← H00.o];exact this,yg d,za8 d,HC1.o,HBB.o⟩
     case round =>
      clear HTc HDc HLc HC1 HBB hgT HBWc
      obtain⟨k,d1,es,hgg,hk4,hrd,ht,hd,hlg,hfs,htu,hcm,hB⟩:=hrel
      have hlen:=zmu hrd hk4
      have hbnd:=(zm4 HS.o hrd hk4).1
      have HT:=za ht
      have HD1:=za hd
      have HF:=za (And.intro hfs htu)
      have HCM:=za hcm
      have HRD:=za hrd
      have HBB:=za hB
      have HLG1:=za hlg
      have HBW:=za (HW.o.trans (ht.below HO.o HW.o.size))
      have HLEN:=za hlen
      have hle:es.length≤4*k:=by omega
      have hle2:es.length≤m:=by omega
      have hm4:es.length≤400000:=by omega
      obtain⟨a,cap,hb,hes,hg,hO⟩:=lok hlg
      obtain⟨⟨c0,f0⟩,-,⟨c2,f2⟩,-⟩:=zej hb
      obtain⟨n0,n1,n2,n3,n4,n5,n6,n7,n8⟩:=zgo hB
      simp only at c0 c2
      have HEV:=za hes
      have HHB:=za hb
      have HG:=za hg
      have HOX:=za hO
      clear hrd ht hd hlg hfs htu hcm hlen hB hb hes hg hO n1 n2 n3 n4 n5 n6 n7 n8 f0 f2
      by_cases hlt:es.length < m
      ·have hlti:(es.length:Int) < (m:Int):=by omega
       go_wp2_with fail
       go_quiet (fail)
       go_upto_region 8 with fail
       have hmn:min ((m:Int) - (es.length:Int)) 4=((wid m k:Nat):Int):=by have:=HLEN.o;unfold wid;omega
       go_cut [7] from 38 to 93 (fun s7 wx=>s7= .int .i64 (wid m k:Nat)∧Below wr.heap.size wr wx)
       case first =>
        have hw64:wrap64 ((m:Int) - (es.length:Int))=(m:Int) - (es.length:Int):=by have:=HSG.o.1;unfold wrap64;omega
        go_region
        all_goals go_wp2_with fail
        all_goals go_meet
        all_goals exact⟨rfl,⟨rfl,rfl,rfl,Nat.le_refl _,fun _ _=>rfl⟩⟩
       case rest =>
        obtain⟨rfl,hbx⟩:=hcut
        have hTx:zf O [] wr wc:= .of_below hbx
        have HTx:Hid (zf O rT w wc):=HT.o.then_below hbx
        have HDx:=za (HD1.o.stay hTx (by decide) (by decide))
        have HLx:=za ((HLG1.o.stay hTx (by decide) (by decide) (by decide)).mono (Ext.more hbx.size))
        have HBx:=za (hTx.keep HBB.o (by decide))
        have hBWx:=HBW.o.trans (hbx.mono HBW.o.size)
        have HBWx:=za hBWx
        have hEx:=hEE.out.below hBWx
        have HHx:=za (hTx.keep HHB.o (by decide))
        have hle4:4*k≤es.length:=by have:=HLEN.o;omega
        have hk1:k≤100000:=by omega
        clear hTx hbx hmn c2 c0 n0 hBWx
        obtain⟨⟨c0,-⟩,-,⟨c2,f2⟩,-⟩:=zej HHx.o
        simp only at c0 c2
        rw [hlv] at c0
        have hw1:1≤wid m k:=by unfold wid;omega
        have hw4:wid m k≤4:=by unfold wid;omega
        go_wp2_with fail
        rw [show((es.length:Int) / 4)=(k:Int) by omega]
        refine(zis (-1) k (wid m k) (by omega) wc hEx).mono ?_
        rintro r w2 ⟨rfl,hb2⟩
        have hT2:zf O [] wc w2:= .of_below hb2
        have c0':w2.cell? ⟨lb,0,none⟩=some (stV db true):=by rw [hb2.cell (p:=⟨lb,0,none⟩) (zj c0)];exact c0
        have HT2:Hid (zf O rT w w2):=HTx.o.then_below hb2
        have HD2:=za (HDx.o.stay hT2 (by decide) (by decide))
        have HL2:=za ((HLx.o.stay hT2 (by decide) (by decide) (by decide)).mono (Ext.more hb2.size))
        have HBx2:=za (hT2.keep HBx.o (by decide))
        have HBW2:=za (HBWx.o.trans (hb2.mono HBWx.o.size))
        clear hb2 hT2 hEx c2 f2
        go_wp2_with fail
        refine(zjm O db lb d1 (yr (-1) k (wid m k)) w2 (by rw [HF.o.1];exact hn) (by rw [HF.o.1];exact fun f hf=>Nat.le_trans (HL.o f hf) (by omega)) HD2.o c0').mono ?_
        rintro r w3 ⟨v,e,rfl,hge,ht3,hd3,hv3⟩
        have HT3:Hid (zf O rT w w3):=HT2.o.trans (ht3.to_rT.mono (fun _ h=> .inl h) (fun _ h=>h))
        have HD3:=za hd3
        have HL3:=za ((HL2.o.stay ht3 (by decide) (by decide) (by decide)).mono (Ext.more ht3.size))
        have HBx3:=za (ht3.keep HBx2.o (by decide))
        have HBW3:=za (HBW2.o.trans (ht3.below HO.o HBW2.o.size))
        have HGE3:=za (hge.weaken HT2.o.size)
        have HF3:Hid ((ye d1).fs=d.fs∧tk (ye d1)=tk d):=⟨(yg d1).trans HF.o.1,(za8 d1).trans HF.o.2⟩
        clear ht3 hd3 c0 c0'
        rcases jf hge with ⟨hbd,rfl⟩ | ⟨hbd,g,rfl⟩
        ·have HC3:Hid (zau (ye d1)):=by
          rcases za4 HCM.o with ⟨-,h⟩ | ⟨h,-⟩
          ·exact h
          ·simp [bad,h] at hbd
         have HG3:=za (zu0 hbd hv3)
         clear hge hbd hv3
         obtain⟨va,vn,vc,rfl⟩:∃ a n c,v= .slice a n c:=by
          rcases zfg HG3.o with ⟨-,rfl⟩ | ⟨_,_,_,_,-,rfl⟩
          ·exact⟨_,_,_,rfl⟩
          ·exact⟨_,_,_,rfl⟩
         go_wp2_with fail
         refine(zhc (wid m k) (.slice va vn vc) _ w3 HG3.o).mono ?_
         rintro r w4 ⟨hb4,hr⟩
         rw [HF.o.1,z6n] at hr
         have hT4:zf O [] w3 w4:= .of_below hb4
         have HT4:Hid (zf O rT w w4):=HT3.o.then_below hb4
         have HD4:=za (HD3.o.stay hT4 (by decide) (by decide))
         have hL4:=(HL3.o.stay hT4 (by decide) (by decide) (by decide)).mono (Ext.more hb4.size)
         have HL4:=za hL4
         have HBx4:=za (hT4.keep HBx3.o (by decide))
         have HBW4:=za (HBW3.o.trans (hb4.mono HBW3.o.size))
         clear hT4 hb4
         rcases hr with ⟨b,y,hbun,rfl,hob⟩ | ⟨hbun,rfl⟩
         ·have hbl:=(zdh hbun).1
          obtain⟨ya,yc,rfl⟩:=zdb hob
          obtain⟨gb,rfl,-⟩:=zhq hob (by omega)
          have HRK:Hid (zbp (zx d.fs) m (k+1)=some (es++b)):=by
           show zbp (zx d.fs) m (k+1)=_
           rw [zbp,HRD.o]
           simp only [hbun,Option.map_some]
          have hbl1:b.length≤4:=by omega
          have hbl2:1≤b.length:=by omega
          have HBU:=za hbun
          obtain⟨a4,cap4,hb4,hes4,hg4,hO4⟩:=lok hL4
          obtain⟨-,-,⟨c2,f2⟩,-⟩:=zej hb4
          simp only at c2 hes4
          obtain⟨i,hi,hi'⟩:=Option.map_eq_some_iff.1 zg5
          obtain⟨hz0,hz1,hz2⟩:i.zero=some (.slice none 0 0)∧i.size=1∧i.bytes=24:=by simpa using hi'
          clear hi'
          have HI:=za hi
          have HZ:=za (And.intro hz0 (And.intro hz1 hz2))
          clear hi hz0 hz1 hz2
          obtain⟨xs,hoe,hxe⟩:=hes4
          obtain⟨ys,hoy,hyb⟩:=hob
          have hyl:ys.length=b.length:=by rw [hoy.1,Nat.mul_one]
          have hnw:Hid (∀ j u,ys[j]?=some u→w4.cell? ((⟨gb,0,none⟩:Addr).add j)=some u):=fun j u hj=>hoy.cells rfl _ _ hj
          have hn1:Hid (∀ u∈ys,u.oneCell'=true):=fun u hu=>by
           obtain⟨j,hj,rfl⟩:=List.getElem_of_mem hu
           obtain⟨x,hx,hx'⟩:=hyb j (by omega)
           rw [List.getElem?_eq_getElem hj] at hx
           obtain rfl:ys[j]=x:=by simpa using hx
           exact zlq hx' _ (by simp)
          have HOE:=za hoe
          have HXE:=za hxe
          have HYB:=za hyb
          have HYL:=za hyl
          have HB4:=za hb4
          have HG4:=za hg4
          have HO4:=za hO4
          have hdl:Hid (ys.length=b.length*1):=by show _=_;rw [hyl];omega
          have HLB5:Hid (∀ w5,w4.grownBy w5 (Value.slice a4 es.length cap4).ownBlock→w5.heap[lb]?=some (.cells (zck db (.slice a4 es.length cap4) { key:=l.key,es:=es,put:=l.put,live:=l.live }) 109 (0,0))):=fun w5 hgr=>by
           rw [hgr.block lb (zb HB4.o) (fun e=>?_)]
           ·exact HB4.o
           ·rcases HOE.o.2 with ⟨h,-⟩ | ⟨g,cp,cur,h,-,hg,-⟩
            ·simp at h;rw [h.1] at e;simp [Value.ownBlock] at e
            ·simp at h
             rw [h.1] at e
             simp only [Value.ownBlock,Option.some.injEq] at e
             subst e
             have:=HB4.o
             rw [hg] at this
             simp at this
          clear hbl hbun hb4 hg4 hO4 hoe hxe hoy hyb hyl hL4
          go_wp2_with (at_builtin;refine wpList_append_lies _ rfl _ _ _ rfl 0 76 i (.slice none 0 0) 1 24 Tryz.underlying107 HI.o HZ.o.1 HZ.o.2.1 HZ.o.2.2 rfl (by omega) (.slice a4 es.length cap4) es.length xs rfl HOE.o ⟨gb,0,none⟩ b.length yc ys rfl hdl.out hnw.out hn1.out (by omega) (by unfold maxLen;omega) (by omega) (by omega) w4.heap.size rfl ?_;intro g5 cap5 w5 hown hgrow hat hltg;have hb5:=HLB5.o w5 hgrow;obtain⟨-,-,⟨k5,z5⟩,-⟩:=zej hb5;have HOW:=za hown;have HGR:=za hgrow;have HAT:=za hat;have HB5:=za hb5;clear hown hgrow hat hb5)
          go_roundg (gk - 1)
          case rel =>
           have hfin:=zfh (l:=l) (b:=b) (hv:=0) HT4.o HO4.o HG4.o HOE.o HXE.o HYB.o (Nat.zero_le _) HYL.o HOW.o ⟨HGR.o.os,HGR.o.tape,HGR.o.output,HGR.o.size,HGR.o.block⟩ HAT.o HB5.o
           refine⟨k+1,ye d1,es++b,by omega,by omega,HRK.o,hfin.1,hfin.2.2.1 _ HD4.o,hfin.2.1,HF3.o.1,HF3.o.2,HC3.o,hfin.2.2.2.keep HBx4.o (by decide)⟩
          case measure=>omega
         ·have HBU:=za hbun
          have hgT:=(yz HSN.o HBW4.o).tile
          clear hbun hL4
          go_wp2_with fail
          go_ret
          have hTA:zf O [] w4 (w4.alloc (.cells #[txv (yr (-1) k (wid m k)),jo at_ 5] 115)):=(zf.refl _ _ _).alloc _
          refine⟨ye d1,es,HT4.o.alloc _,HD4.o.stay hTA (by decide) (by decide),(HL4.o.stay hTA (by decide) (by decide) (by decide)).mono (Ext.more hTA.size),HF3.o.1,HF3.o.2,.inr ⟨HC3.o,.inr (.inr (.inl ⟨m,_,k,es,w4.heap.size,.inr ⟨t,HX.o,HSG.o⟩,by omega,HRD.o,HBU.o,rfl,heap_alloc_last _ _⟩))⟩⟩
        ·have HH:Hid ((ye d1).hit=true):=by
          rcases za4 HCM.o with ⟨h,-⟩ | ⟨-,h⟩
          ·rw [bad,h] at hbd;simp at hbd
          ·exact h
         rw [hbd] at HGE3
         obtain⟨va,vn,vc,rfl⟩:=zes hv3
         clear hge hbd hv3
         go_wp2_with fail
         go_ret
         exact⟨ye d1,es,HT3.o,HD3.o,HL3.o,HF3.o.1,HF3.o.2,.inl ⟨HH.o,_,_,rfl,HGE3.o⟩⟩
      ·have hlti:¬(es.length:Int) < (m:Int):=by omega
       go_wp2_with fail
       go_quiet (fail)
       go_wp2_with fail
       obtain⟨n0,n1,n2,n3,n4,n5,n6,n7,n8⟩:=zgo HBB.o
       obtain⟨r0,r1,r2,r3,r4,r5,r6,r7,hR⟩:=hv8 (qb es.length es) (jn _ _)
       have hR':hv (qb es.length es)=#[.int .u8 r0.toNat,.int .u8 r1.toNat,.int .u8 r2.toNat,.int .u8 r3.toNat,.int .u8 r4.toNat,.int .u8 r5.toNat,.int .u8 r6.toNat,.int .u8 r7.toNat]:=by rw [hR];rfl
       have HR:=za hR
       have HR':=za hR'
       clear hR hR'
       have hneq:∀ X,(binOp .neq 91 (.agg #[.int .u8 r0.toNat,.int .u8 r1.toNat,.int .u8 r2.toNat,.int .u8 r3.toNat,.int .u8 r4.toNat,.int .u8 r5.toNat,.int .u8 r6.toNat,.int .u8 r7.toNat]) (.agg #[.int .u8 b0.toNat,.int .u8 b1.toNat,.int .u8 b2.toNat,.int .u8 b3.toNat,.int .u8 b4.toNat,.int .u8 b5.toNat,.int .u8 b6.toNat,.int .u8 b7.toNat])).run Tryz.prog X= .ok (.bool !eqH [r0,r1,r2,r3,r4,r5,r6,r7] [b0,b1,b2,b3,b4,b5,b6,b7]) X:=fun X=>znr [r0,r1,r2,r3,r4,r5,r6,r7] [b0,b1,b2,b3,b4,b5,b6,b7] rfl rfl X
       have hSS:Hid (∀ X,Below wr.heap.size wr X→(fun X=>X.cell? ⟨lb,2,none⟩=some (.slice a es.length cap)∧X.cell? ⟨B,1,none⟩=some (.int .u8 (b0.toNat:Int))∧X.cell? ⟨B,2,none⟩=some (.int .u8 (b1.toNat:Int))∧X.cell? ⟨B,3,none⟩=some (.int .u8 (b2.toNat:Int))∧X.cell? ⟨B,4,none⟩=some (.int .u8 (b3.toNat:Int))∧X.cell? ⟨B,5,none⟩=some (.int .u8 (b4.toNat:Int))∧X.cell? ⟨B,6,none⟩=some (.int .u8 (b5.toNat:Int))∧X.cell? ⟨B,7,none⟩=some (.int .u8 (b6.toNat:Int))∧X.cell? ⟨B,8,none⟩=some (.int .u8 (b7.toNat:Int))) X):=fun X hb=>by
        have cc:∀ {p:Addr} {v:Value},wr.cell? p=some v→X.cell? p=some v:=fun {p v} h=>by rw [hb.cell (zj h)];exact h
        exact⟨cc c2,cc n1,cc n2,cc n3,cc n4,cc n5,cc n6,cc n7,cc n8⟩
       have hNQ:Hid (∀ q,Below wr.heap.size wr (wr.drewN q).drew):=fun q=>⟨rfl,rfl,rfl,Nat.le_refl _,fun _ _=>rfl⟩
       go_region_held3 (fun X=>X.cell? ⟨lb,2,none⟩=some (.slice a es.length cap)∧X.cell? ⟨B,1,none⟩=some (.int .u8 (b0.toNat:Int))∧X.cell? ⟨B,2,none⟩=some (.int .u8 (b1.toNat:Int))∧X.cell? ⟨B,3,none⟩=some (.int .u8 (b2.toNat:Int))∧X.cell? ⟨B,4,none⟩=some (.int .u8 (b3.toNat:Int))∧X.cell? ⟨B,5,none⟩=some (.int .u8 (b4.toNat:Int))∧X.cell? ⟨B,6,none⟩=some (.int .u8 (b5.toNat:Int))∧X.cell? ⟨B,7,none⟩=some (.int .u8 (b6.toNat:Int))∧X.cell? ⟨B,8,none⟩=some (.int .u8 (b7.toNat:Int))) (go_keep) (first | (go_at_call 51;refine(zf1 es.length _ es (wr.drewN nq).drew (Nat.le_refl _) (by omega) (by intro e he';exact Nat.le_trans (z9k HRD.o e he') (by unfold maxLen;omega)) (by exact(HEV.o.bss'.below (hNQ.out nq)))).mono ?_;rintro r w2 ⟨rfl,hb2⟩;rw [HR'.o];have hbb:Below wr.heap.size wr w2:=(hNQ.out nq).trans (hb2.mono (hNQ.out nq).size);obtain⟨q0,q1,q2,q3,q4,q5,q6,q7,q8⟩:=hSS.out w2 hbb;have HB2:=za hbb;clear hb2 hbb))
       have HT2:Hid (zf O rT w w2):=HT.o.then_below HB2.o
       have hT2:zf O [] wr w2:= .of_below HB2.o
       have HD2:=za (HD1.o.stay hT2 (by decide) (by decide))
       have HL2:=za ((HLG1.o.stay hT2 (by decide) (by decide) (by decide)).mono (Ext.more HB2.o.size))
       have hgP:=(yz HSN.o (HBW.o.trans (HB2.o.mono HBW.o.size))).proof
       have hkk:Hid (k=(m+3) / 4):=by show _=_;have:=HLEN.o;omega
       have HCP:Hid (zhv (zx d.fs) l.key m [b0,b1,b2,b3,b4,b5,b6,b7]):= .inr ⟨t,HX.o,HSG.o⟩
       have HRT:Hid (yb es=[r0,r1,r2,r3,r4,r5,r6,r7]):=HR.o
       clear hT2 q0 q1 q2 q3 q4 q5 q6 q7 q8 c2 c0 n0 n1 n2 n3 n4 n5 n6 n7 n8 hneq
       cases hq:eqH [r0,r1,r2,r3,r4,r5,r6,r7] [b0,b1,b2,b3,b4,b5,b6,b7] with
       | true =>
        have HQ:Hid ([r0,r1,r2,r3,r4,r5,r6,r7]=[b0,b1,b2,b3,b4,b5,b6,b7]):=za (of_decide_eq_true hq)
        go_wp2_with fail
        go_ret
        exact⟨d1,es,HT2.o,HD2.o,HL2.o,HF.o.1,HF.o.2,.inr ⟨HCM.o,.inl ⟨rfl,m,_,HCP.o,by rw [← hkk.out];exact HRD.o,by rw [HRT.o];exact HQ.o⟩⟩⟩
       | false =>
        have HQ:Hid ([r0,r1,r2,r3,r4,r5,r6,r7]≠[b0,b1,b2,b3,b4,b5,b6,b7]):=by
         have:=of_decide_eq_false hq
         exact this
        go_wp2_with fail
        go_ret
        exact⟨d1,es,HT2.o,HD2.o,HL2.o,HF.o.1,HF.o.2,.inr ⟨HCM.o,.inr (.inr (.inr ⟨rfl,m,_,HCP.o,by rw [← hkk.out];exact HRD.o,by rw [HRT.o];exact HQ.o⟩))⟩⟩
    ·have HNO:=za hno
     have hg3:=(yz HSN.o HBWc.o).check
     clear hno
     go_wp2_with fail
     go_ret
     refine⟨ye d,[],HTc.o.to_rT,HDc.o,?_,yg d,za8 d,.inr ⟨HC1.o,.inr (.inl ⟨rfl,t,HX.o,HNO.o⟩)⟩⟩
     have:=HLc.o.mono (O':=Ext O w wc) (fun _ h=> .inl h)
     rw [← H00.o]
     exact this
 ·have HH:Hid ((ye d).hit=true):=by
   rcases za4 HC.o with ⟨h,-⟩ | ⟨-,h⟩
   ·rw [bad,h] at hbd;simp at hbd
   ·exact h
  rw [hbd] at HGE
  obtain⟨va,vn,vc,rfl⟩:=zes hv1
  clear hge hbd hv1
  go_wp2_with fail
  go_ret
  refine⟨ye d,[],HT1.o.to_rT,HD1.o,?_,yg d,za8 d,.inl ⟨HH.o,_,_,rfl,HGE.o⟩⟩
  have:=HLG1.o.mono (O':=Ext O w w1) (fun _ h=> .inl h)
  rw [← H00.o]
  exact this
end
end Go.Proofs.YtinhekmmdlhfkaaGreatDoor
