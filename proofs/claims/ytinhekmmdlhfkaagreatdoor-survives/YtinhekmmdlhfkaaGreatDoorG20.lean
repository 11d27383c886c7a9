import Derived.Test.YtinhekmmdlhfkaaGreatDoorG19
import Derived.Test.YtinhekmmdlhfkaaGreatDoorG10
import Derived.Shelf.Spec.TrailingZeros
import Derived.Test.YtinhekmmdlhfkaaGreatDoorG05
import Derived.Deep.RegionHeld3
namespace Go.Proofs.YtinhekmmdlhfkaaGreatDoor
section
set_option maxHeartbeats 1000000
open Go.RowKit
set_option maxRecDepth 100000
theorem z11 (O:Nat→Prop)(W:World)(at_:Nat→Addr)(hE:Env W)(hSN:qm W at_)(hOW:∀ k,O k→W.heap.size≤k)(db:Nat)(d:Dk)(key:List UInt8)(w:World)(hn:d.fs.length≤1000000000)(hl:∀ f∈d.fs,f.2.length≤1048576)(hk:key.length≤9223372036854775807)(hc:zau d)(hW:Below W.heap.size W w)(h:zm w O db d)
  (s:List Nat) (hs:zht (zx d.fs) s) (hsl:s.length≤100000) :
  Calls Tryz.prog 26 #[.iface 25 (vv db),txv key] w fun r w'=>∃(d':Dk),zf O rT w w'∧zm w' (Ext O w w') db d'∧d'.fs=d.fs∧tk d'=tk d ∧
   ((d'.hit=true∧∃ p e,r= .returned (.tuple #[.pointer none,e])∧zbd true p w.heap.size e w')∨(zau d'∧∃(err:Int) (p:List UInt8) (es:List (List UInt8)) (m:Nat),zf7 (zx d.fs) key err p es m ∧
    ((err=0∧∃ lb,r= .returned (.tuple #[.pointer (some ⟨lb,0,none⟩),.nilIface])∧w.heap.size≤lb∧xk w' (Ext O w w') db lb { key:=key,es:=es,put:=0,live:=true }) ∨
     (err=3∧r= .returned (.tuple #[.pointer none,jo at_ 2]))∨(err=5∧r= .returned (.tuple #[.pointer none,jo at_ 4])) ∨
     (err=6∧∃ g,r= .returned (.tuple #[.pointer none,xm g])∧w'.heap[g]?=some (.cells #[txv p,jo at_ 5] 115 (0,0)))))):=by
 have HD:=za h
 have HL:=za hl
 have HS:=za hs
 have HW:=za hW
 have HC:=za hc
 have HO:=za hOW
 have hEE:=za hE
 have HSN:=za hSN
 clear hl h hW hc hOW hE hs hSN
 unfold vv
 have htx:txv key= .string ⟨key.toArray⟩:=rfl
 rw [htx]
 go_enter Tryz.func26,Tryz.ntmps26
 go_wp2_with fail
 have HLG:Hid (xk (w.alloc (.cells #[.iface 25 (.pointer (some ⟨db,0,none⟩)),.string ⟨key.toArray⟩,.slice none 0 0,.int .i64 0] 109)) (Ext O w (w.alloc (.cells #[.iface 25 (.pointer (some ⟨db,0,none⟩)),.string ⟨key.toArray⟩,.slice none 0 0,.int .i64 0] 109))) db w.heap.size { key:=key,es:=[],put:=0,live:=true }) :=
  ⟨.slice none 0 0,.inr ⟨Nat.le_refl _,by simp⟩,heap_alloc_last _ _,OBs.nil _ _,fun g e=>by simp [Value.ownBlock] at e⟩
 have hT0:zf O rT w (w.alloc (.cells #[.iface 25 (.pointer (some ⟨db,0,none⟩)),.string ⟨key.toArray⟩,.slice none 0 0,.int .i64 0] 109)):=(zf.refl _ _ _).alloc _
 have hsz0:w.heap.size≤(w.alloc (.cells #[.iface 25 (.pointer (some ⟨db,0,none⟩)),.string ⟨key.toArray⟩,.slice none 0 0,.int .i64 0] 109)).heap.size:=hT0.size
 have hTe:zf O [] w (w.alloc (.cells #[.iface 25 (.pointer (some ⟨db,0,none⟩)),.string ⟨key.toArray⟩,.slice none 0 0,.int .i64 0] 109)):=(zf.refl _ _ _).alloc _
 generalize (w.alloc (.cells #[.iface 25 (.pointer (some ⟨db,0,none⟩)),.string ⟨key.toArray⟩,.slice none 0 0,.int .i64 0] 109))=w0 at *
 have HD0:Hid (zm w0 (Ext O w w0) db d):=(HD.o.stay hTe (by decide) (by decide)).mono (fun _ h=> .inl h)
 have HO0:Hid (∀ k,Ext O w w0 k→W.heap.size≤k):=Ext.base HO.o HW.o.size
 have HW0:Hid (Below W.heap.size W w0):=HW.o.trans (hT0.below HO.o HW.o.size)
 have HT0:=za hT0
 have hsz0':=za hsz0
 clear hT0 hTe hsz0
 refine(z1u (Ext O w w0) W at_ hEE.out HSN.o HO0.o db w.heap.size d _ w0 hn HL.o hk HC.o HW0.o HD0.o HLG.o rfl rfl s HS.o hsl).mono ?_
 rintro r w1 ⟨d1,es1,ht1,hd1,hl1,hf1,hu1,hres⟩
 have HT1:Hid (zf O rT w w1):=HT0.o.trans ht1
 have hx1:∀ k,Ext (Ext O w w0) w0 w1 k→Ext O w w1 k:=Ext.trans hsz0'.out ht1.size
 have HD1:Hid (zm w1 (Ext O w w1) db d1):=hd1.mono (fun k hk=>Ext.more ht1.size _ hk)
 have HL1:=za (hl1.mono hx1)
 have HF1:=za (And.intro hf1 hu1)
 have HO1:Hid (∀ k,Ext O w w1 k→W.heap.size≤k):=Ext.base HO.o HW.o.size
 have HW1:Hid (Below W.heap.size W w1):=HW.o.trans (HT1.o.below HO.o HW.o.size)
 clear ht1 hd1 hl1 hf1 hu1 hx1
 rcases hres with ⟨hh,p,e,rfl,hge⟩ | ⟨hc1,hres⟩
 ·have HH:=za hh
  have HGE:=za (hge.weaken hsz0'.out)
  obtain⟨g,rfl⟩:∃ g,e= .iface 113 (.pointer (some ⟨g,0,none⟩)):=by
   rcases jf hge with ⟨h,-⟩ | ⟨-,h⟩
   ·simp at h
   ·exact h
  clear hh hge
  go_wp2_with fail
  go_ret2
  exact⟨d1,HT1.o,HD1.o,HF1.o.1,HF1.o.2,.inl ⟨HH.o,p,_,rfl,HGE.o⟩⟩
 ·have HC1:=za hc1
  clear hc1
  rcases hres with ⟨rfl,n,R,hcp,hrd,hrt⟩ | ⟨rfl,hno⟩ | ⟨n,R,k,d0,g,hcp,hk4,hrd,hbu,rfl,hpe⟩ | ⟨rfl,n,R,hcp,hrd,hrt⟩
  ·have HCP:=za hcp
   have HRD:=za hrd
   have HRT:=za hrt
   have hb0:=zm4 HS.o hrd (by omega)
   have hl0:=zmu hrd (by omega)
   have HJ:Hid (∀ j,4*j < es1.length→j∈s):=fun j hj=>hb0.2 j (by omega)
   clear hcp hrd hrt hb0 hl0
   go_wp2_with fail
   refine(zui (Ext O w w1) W hEE.out HO1.o db w.heap.size d1 _ w1 (by rw [HF1.o.1];exact hn) (by rw [HF1.o.1];exact fun f hf=>Nat.le_trans (HL.o f hf) (by omega)) HC1.o HW1.o HD1.o HL1.o rfl s (by rw [HF1.o.1];exact HS.o) hsl HJ.o).mono ?_
   rintro r w2 ⟨d2,es2,ht2,hd2,hl2,hf2,hu2,hres2⟩
   have HT2:Hid (zf O rT w w2):=HT1.o.trans ht2
   have hx2:∀ k,Ext (Ext O w w1) w1 w2 k→Ext O w w2 k:=Ext.trans HT1.o.size ht2.size
   have HD2:Hid (zm w2 (Ext O w w2) db d2):=hd2.mono (fun k hk=>Ext.more ht2.size _ hk)
   have HL2:=za (hl2.mono hx2)
   have HF2:Hid (d2.fs=d.fs∧tk d2=tk d):=⟨hf2.trans HF1.o.1,hu2.trans HF1.o.2⟩
   rw [HF1.o.1] at hres2
   have hs12:=HT1.o.size
   clear ht2 hd2 hl2 hf2 hu2 hx2
   rcases hres2 with ⟨hh,p,e,rfl,hge⟩ | ⟨hc2,rfl,hbh⟩
   ·have HH:=za hh
    have HGE:=za (hge.weaken hs12)
    obtain⟨g,rfl⟩:∃ g,e= .iface 113 (.pointer (some ⟨g,0,none⟩)):=by
     rcases jf hge with ⟨h,-⟩ | ⟨-,h⟩
     ·simp at h
     ·exact h
    clear hh hge hs12
    go_wp2_with fail
    go_ret2
    exact⟨d2,HT2.o,HD2.o,HF2.o.1,HF2.o.2,.inl ⟨HH.o,p,_,rfl,HGE.o⟩⟩
   ·have HC2:=za hc2
    have HBH:=za hbh
    clear hc2 hbh hs12
    go_wp2_with fail
    go_ret2
    exact⟨d2,HT2.o,HD2.o,HF2.o.1,HF2.o.2,.inr ⟨HC2.o,0,[],es2,n,.inr ⟨n,R,HCP.o,.inr ⟨es1,HRD.o,.inr ⟨HRT.o,HBH.o,rfl,rfl,rfl⟩⟩⟩,.inl ⟨rfl,_,rfl,Nat.le_refl _,HL2.o⟩⟩⟩
  ·have HNO:=za hno
   clear hno
   unfold jo
   go_wp2_with fail
   go_ret2
   exact⟨d1,HT1.o,HD1.o,HF1.o.1,HF1.o.2,.inr ⟨HC1.o,3,[],[],0,.inl ⟨HNO.o,rfl,rfl,rfl,rfl⟩,.inr (.inl ⟨rfl,rfl⟩)⟩⟩
  ·have HH:=za (And.intro hcp (And.intro hk4 (And.intro hrd (And.intro hbu hpe))))
   clear hcp hk4 hrd hbu hpe
   unfold xm
   go_wp2_with fail
   go_ret2
   exact⟨d1,HT1.o,HD1.o,HF1.o.1,HF1.o.2,.inr ⟨HC1.o,6,_,[],0,.inr ⟨n,R,HH.o.1,.inl ⟨k,d0,HH.o.2.1,HH.o.2.2.1,HH.o.2.2.2.1,rfl,rfl,rfl,rfl⟩⟩,.inr (.inr (.inr ⟨rfl,g,rfl,HH.o.2.2.2.2⟩))⟩⟩
  ·have HH:=za (And.intro hcp (And.intro hrd hrt))
   clear hcp hrd hrt
   unfold jo
   go_wp2_with fail
   go_ret2
   exact⟨d1,HT1.o,HD1.o,HF1.o.1,HF1.o.2,.inr ⟨HC1.o,5,[],[],0,.inr ⟨n,R,HH.o.1,.inr ⟨es1,HH.o.2.1,.inl ⟨HH.o.2.2,rfl,rfl,rfl,rfl⟩⟩⟩,.inr (.inr (.inl ⟨rfl,rfl⟩))⟩⟩
end
section
set_option maxHeartbeats 400000
open Go.RowKit
set_option maxRecDepth 100000
theorem ze9 (O:Nat→Prop)(db lb:Nat)(l:Lg)(w:World)(h:xk w O db lb l):
  Calls Tryz.prog 48 #[.pointer (some ⟨lb,0,none⟩)] w fun r w'=>r= .returned (.bool !l.live)∧w'=w:=by
 obtain⟨a,cap,hb,-⟩:=lok h
 obtain⟨⟨c0,f0⟩,-⟩:=zej hb
 clear h hb
 cases hl:l.live with
 | true =>
  rw [hl] at c0
  unfold stV vv at c0
  simp only [if_true] at c0
  clear hl
  go_enter Tryz.func48,Tryz.ntmps48
  go_wp2_with fail
  go_ret
  exact⟨rfl,rfl⟩
 | false =>
  rw [hl] at c0
  unfold stV at c0
  simp only [Bool.false_eq_true,if_false] at c0
  clear hl
  go_enter Tryz.func48,Tryz.ntmps48
  go_wp2_with fail
  go_ret
  exact⟨rfl,rfl⟩
theorem z2q (O:Nat→Prop)(db lb:Nat)(l:Lg)(w:World)(h:xk w O db lb l):
  Calls Tryz.prog 28 #[.pointer (some ⟨lb,0,none⟩)] w fun r w'=>r= .returned (.int .i64 (l.es.length:Int))∧w'=w:=by
 obtain⟨a,cap,hb,-⟩:=lok h
 obtain⟨-,-,⟨c2,f2⟩,-⟩:=zej hb
 clear h hb
 go_enter Tryz.func28,Tryz.ntmps28
 go_wp2_with fail
 go_ret
 exact⟨rfl,rfl⟩
theorem zq9 (l:Int)(h1:-1≤l)(h2:l≤30)(w:World):
  Calls Tryz.prog 122 #[.int .i64 l] w fun r w'=>r= .returned (.int .i64 ((2*l.toNat:Nat):Int))∧w'=w:=by
 by_cases hl:l=-1
 ·subst hl
  go_enter Tryz.func122,Tryz.ntmps122
  go_wp2_with fail
  go_ret
  exact⟨rfl,rfl⟩
 ·obtain⟨k,rfl⟩:=Int.eq_ofNat_of_zero_le (show 0≤l by omega)
  have hmx:max (k:Int) 0=(k:Int):=by omega
  go_enter Tryz.func122,Tryz.ntmps122
  go_wp2_with fail
  go_ret
  exact⟨congrArg (fun x=>Ending.returned (.int .i64 x)) (by simp),rfl⟩
theorem zfe (l:Int):2 ^ (2*l.toNat)=4 ^ l.toNat:=by rw [Nat.pow_mul]
theorem zkn (l:Int)(h1:-1≤l)(h2:l≤30)(n:Nat)(w:World):
  Calls Tryz.prog 81 #[.int .i64 l,.int .i64 n] w fun r w'=>r= .returned (.int .i64 ((zz l n:Nat):Int))∧w'=w:=by
 go_enter Tryz.func81,Tryz.ntmps81
 go_wp2_with fail
 refine(zq9 l h1 h2 w).mono ?_
 rintro r w1 ⟨rfl,rfl⟩
 have HP:=za (zfe l)
 generalize hb:2*l.toNat=b at *
 have hb60:b≤60:=by omega
 clear hb
 go_wp2_with fail
 go_ret
 refine⟨congrArg (fun x=>Ending.returned (.int .i64 x)) ?_,rfl⟩
 show((n:Int) / 2 ^ b)=((zz l n:Nat):Int)
 unfold zz
 rw [← HP.o]
 simp
theorem zr3 (l:Int)(h1:0≤l)(h2:l≤20)(n:Nat)(hn:n*4 ^ l.toNat≤1000000)(w:World):
  Calls Tryz.prog 165 #[.int .i64 l,.int .i64 n] w fun r w'=>r= .returned (.int .i64 ((n*4 ^ l.toNat:Nat):Int))∧w'=w:=by
 rw [← zfe l] at hn ⊢
 go_enter Tryz.func165,Tryz.ntmps165
 go_wp2_with fail
 refine(zq9 l (by omega) (by omega) w).mono ?_
 rintro r w1 ⟨rfl,rfl⟩
 generalize hb:2*l.toNat=b at *
 have hb60:b≤60:=by omega
 have HBB:=za hb
 clear hb
 have hcast:((n:Int)*2 ^ b)=((n*2 ^ b:Nat):Int):=by simp
 have h00:(0:Int)≤(n:Int)*2 ^ b:=by rw [hcast];omega
 have h01:(n:Int)*2 ^ b≤1000000:=by rw [hcast];omega
 have HCA:=za hcast
 clear hcast
 go_wp2_with fail
 go_ret
 exact⟨by rw [HBB.o];exact congrArg (fun x=>Ending.returned (.int .i64 x)) HCA.o,rfl⟩
end
section
set_option maxHeartbeats 1000000
open Go.RowKit
set_option maxRecDepth 100000
theorem zzq (l:Int)(h1:-1≤l)(h2:l≤100)(w:World):
  Calls Tryz.prog 122 #[.int .i64 l] w fun r w'=>r= .returned (.int .i64 ((2*l.toNat:Nat):Int))∧w'=w:=by
 by_cases hl:l=-1
 ·subst hl
  go_enter Tryz.func122,Tryz.ntmps122
  go_wp2_with fail
  go_ret
  exact⟨rfl,rfl⟩
 ·obtain⟨k,rfl⟩:=Int.eq_ofNat_of_zero_le (show 0≤l by omega)
  have hmx:max (k:Int) 0=(k:Int):=by omega
  go_enter Tryz.func122,Tryz.ntmps122
  go_wp2_with fail
  go_ret
  exact⟨congrArg (fun x=>Ending.returned (.int .i64 x)) (by simp),rfl⟩
theorem zda (l:Int)(h1:-1≤l)(h2:l≤100)(n:Nat)(hn:n < 9223372036854775808)(w:World):
  Calls Tryz.prog 81 #[.int .i64 l,.int .i64 n] w fun r w'=>r= .returned (.int .i64 ((zz l n:Nat):Int))∧w'=w:=by
 go_enter Tryz.func81,Tryz.ntmps81
 go_wp2_with fail
 refine(zzq l h1 h2 w).mono ?_
 rintro r w1 ⟨rfl,rfl⟩
 have HP:=za (zfe l)
 generalize hb:2*l.toNat=b at *
 have hb60:b≤200:=by omega
 clear hb
 go_wp2_with fail
 go_ret
 refine⟨congrArg (fun x=>Ending.returned (.int .i64 x)) ?_,rfl⟩
 have hm:(n:Int) / 2 ^ min b 64=(n:Int) / 2 ^ b:=by
  rcases Nat.le_total b 64 with h | h
  ·rw [Nat.min_eq_left h]
  ·rw [Nat.min_eq_right h]
   have e1:n / 2 ^ 64=0:=Nat.div_eq_of_lt (by omega)
   have e2:n / 2 ^ b=0:=Nat.div_eq_of_lt (Nat.lt_of_lt_of_le (show n < 2 ^ 64 by omega) (Nat.pow_le_pow_right (by omega) h))
   have f1:(n:Int) / 2 ^ 64=((n / 2 ^ 64:Nat):Int):=by simp
   have f2:(n:Int) / 2 ^ b=((n / 2 ^ b:Nat):Int):=by simp
   rw [f1,f2,e1,e2]
 refine hm.trans ?_
 show((n:Int) / 2 ^ b)=((zz l n:Nat):Int)
 unfold zz
 rw [← HP.o]
 simp
theorem zz1 (x k idx:Nat)(w:World)(hx0:((x:Int)==0)=false)
  (key:IntKind.u64.wrap (bits BinOp.and IntKind.u64 (x:Int) (IntKind.u64.wrap (-(x:Int)))*285870213051353865) / 288230376151711744=(idx:Int))
  (hi:idx < 64) (hk:k < 64) (hcell:w.cell? ⟨11,idx,none⟩=some (.int .u8 k)) :
  Calls Tryz.prog 184 #[.int .u64 x] w fun e w'=>e= .returned (.int .i64 k)∧w'=w:=by
 go_enter Tryz.func184,Tryz.ntmps184
 go_wp2_with (simp only [key])
 go_ret
 exact⟨rfl,rfl⟩
def zdn (w:World):Prop:=TabAt 11 Lib.deBruijn64tab w
theorem z1t (x:Nat)(hx:x < 18446744073709551616)(hx0:x≠0)(w:World)(hT:zdn w):
  Calls Tryz.prog 184 #[.int .u64 x] w fun e w'=>e= .returned (.int .i64 (Lib.ctz 64 x))∧w'=w:=by
 obtain⟨hlow,hk⟩:=Lib.lowest_bit 64 x hx0 hx
 obtain⟨hi,htab⟩:=Lib.deBruijn64_at _ hk
 have hcell:=hT _ hi
 rw [htab] at hcell
 exact zz1 x _ _ w (by simp;omega) (tz64_key x _ hx hx0 hlow) hi hk hcell
theorem zuj (x:Nat)(hx:x < 18446744073709551616)(hx0:x≠0)(w:World)(hT:zdn w):
  Calls Tryz.prog 143 #[.int .u64 x] w fun e w'=>e= .returned (.int .i64 (Lib.ctz 64 x))∧w'=w:=by
 have HT:=za hT
 clear hT
 go_enter Tryz.func143,Tryz.ntmps143
 go_wp2_with (go_at_call 184;refine(z1t x hx hx0 _ HT.o).mono ?_;rintro r w1 ⟨rfl,rfl⟩)
 go_ret
 exact⟨rfl,rfl⟩
theorem zs0 {P:Program}{fn:Func}{p:Tmp}{ty:TypeId}(h:fn.results=#[.cell p ty])(tmps:Array Value)(w:World)(g:Nat)(t:TypeId)(cs:Array Value)(fr:Nat×Nat)(d:TypeDesc)
  (hp:tmps.getD p undef= .pointer (some ⟨g,0,none⟩)) (hg:w.heap[g]?=some (.cells cs t fr))
  (hu:P.underlying ty=some d) (hd:(match d with | .struct _ | .array _ _=>true | _=>false)=true) (hi:(P.info? ty).map (·.size)=some cs.size) :
  (results fn tmps).run P w= .ok (.agg cs) w:=by
 have hl:=run_loadVar_row (P:=P) w g t ty cs fr d hg hu hd hi
 simp only [Array.getD_eq_getD_getElem?] at hp
 simp [results,h,hp,asAddr,hl]
theorem z8w:(Tryz.prog.info? 126).map (·.size)=some 3:=by kernel_rfl
theorem zbs (n:Nat)(hn:n < 9223372036854775808)(l:Int)(h1:-1≤l)(h2:l≤100)(j:Nat)(hj:j < 9223372036854775808)(w:World):
  Calls Tryz.prog 145 #[.int .i64 n,.int .i64 l,.int .i64 j] w fun r w'=>r= .returned (plV (zi n l j))∧Below w.heap.size w w':=by
 have hq:((j:Int).tdiv 4)=((j / 4:Nat):Int):=by rw [Int.tdiv_eq_ediv_of_nonneg (by omega)];omega
 have HQ:=za hq
 have hc:zz l n≤n:=Nat.div_le_self _ _
 have HP:Hid (zi n l j=(l,((j / 4:Nat):Int),min ((zz l n:Int) - ((j / 4:Nat):Int)*4) 4)):=rfl
 generalize hix:j / 4=ix at *
 have hx4:ix*4 < 9223372036854775808:=by omega
 clear hix
 generalize hcc:zz l n=c at *
 have HC:=za hcc
 clear hcc
 go_enter Tryz.func145,Tryz.ntmps145
 go_wp2_with (first | (go_at_call 81;refine(zda l h1 h2 n hn _).mono ?_;rintro r w1 ⟨rfl,rfl⟩;rw [HC.o]))
 exact bodyPost_ret (v:=plV (zi n l j)) (by rw [HP.o];exact zs0 Tryz.results145 _ _ w.heap.size 126 _ (0,0) _ rfl (heap_alloc_last _ _) Tryz.underlying126 rfl z8w) rfl ⟨rfl,ze _ _⟩
end
section
set_option maxHeartbeats 2000000
open Go.RowKit
set_option maxRecDepth 100000
def zwa (w:World)(v:Value)(ls:List (List UInt8)):Prop:=∃ a cap,v= .slice a ls.length cap∧∀ j (h:j < ls.length),∃ b off,a=some ⟨b,off,none⟩∧ls.length≤cap∧∃ g c,w.cell? ⟨b,off+j,none⟩=some (.slice (some ⟨g,0,none⟩) ls[j].length c)∧∀ i (hi:i < ls[j].length),w.cell? ⟨g,i,none⟩=some (bv ls[j][i])
theorem zn1 (v:Value)(ls:List (List UInt8))(w:World)(hn:ls.length≤1000000)(hl:∀ l∈ls,l.length≤maxLen)(h:zwa w v ls):
  Calls Tryz.prog 164 #[v] w fun r w'=>∃ x,r= .returned x∧Below w.heap.size w w'∧(okB ls=true→OB w' w.heap.size x (zce ls))∧(okB ls=false→x= .slice none 0 0):=by
 obtain⟨i,hi,hi'⟩:=Option.map_eq_some_iff.1 zmq
 obtain⟨hz0,hz1,hz2⟩:i.zero=some (.int .u8 0)∧i.size=1∧i.bytes=1:=by simpa using hi'
 clear hi'
 have HI:=za hi
 have HZ:=za (And.intro hz0 (And.intro hz1 hz2))
 clear hi hz0 hz1 hz2
 obtain⟨a,cap,rfl,hc⟩:=h
 have Hc:=za hc
 have Hl:=za hl
 clear hc hl
 by_cases hbig:4 < ls.length
 ·have HR:=za (z7j hbig)
  go_enter Tryz.func164,Tryz.ntmps164
  go_wp2
  go_ret
  exact⟨_,rfl,Below.refl _ _,fun h=>by rw [HR.o] at h;simp at h,fun _=>rfl⟩
 ·go_enter Tryz.func164,Tryz.ntmps164
  go_wp2_with fail
  go_loopw [3,11] (fun t i wr=>∃ k:Nat,k≤ls.length∧i= .int .i64 k∧Below w.heap.size w wr∧wr.ownsRow w.heap.size 5 1 t (zce (ls.take k)).length ((zce (ls.take k)).map bv)∧(k=0→t= .slice none 0 0)∧(0 < k→t≠ .slice none 0 0)∧∀ j (hj:j < ls.length),j < k→ls[j].length≤20) (fun _ i _=>ls.length - (intOf i).toNat)
  case atStart=>exact⟨0,Nat.zero_le _,rfl,Below.refl _ _,⟨rfl,.inl ⟨rfl,rfl⟩⟩,fun _=>rfl,fun h=>absurd h (Nat.lt_irrefl _),fun j _ hj=>absurd hj (Nat.not_lt_zero _)⟩
  case round =>
   obtain⟨k,hk,rfl,hbe,hown,hnil,hnn,hall⟩:=hrel
   have HB:=za hbe
   have HO:=za hown
   have HN:=za (And.intro hnil hnn)
   have HA:=za hall
   clear hbe hown hnil hnn hall
   by_cases hlt:k < ls.length
   ·obtain⟨b,off,rfl,hcp,g,c,hx,hcs⟩:=Hc.o k hlt
    have hgl:0 < ls[k].length→g < w.heap.size:=fun h0=>zj (p:=⟨g,0,none⟩) (hcs 0 h0)
    rw [← HB.o.cell (zj (p:=⟨b,off+k,none⟩) hx)] at hx
    have HS:=za hcs
    have HG:=za hgl
    have hm:=Hl.o ls[k] (List.getElem_mem hlt)
    unfold maxLen at hm
    clear hcs hgl
    by_cases h20:20 < ls[k].length
    ·have HR:=za (z26 k hlt h20)
     generalize ls[k]=l at *
     go_wp2
     go_ret
     exact⟨_,rfl,HB.o,fun h=>by rw [HR.o] at h;simp at h,fun _=>rfl⟩
    ·have hsn:=z1b ls k hlt (by omega)
     have HSN:=za hsn
     have HLL:=za (z24 (ls.take k) (fun l hl=>by
      obtain⟨j,hj,rfl⟩:=List.getElem_of_mem hl
      have hj':j < k:=by simp at hj;omega
      rw [List.getElem_take]
      exact HA.o j (by omega) hj'))
     have hlk:(ls.take k).length=k:=by rw [List.length_take];omega
     have HA':Hid (∀ j (hj:j < ls.length),j < k+1→ls[j].length≤20):=fun j hjl hjk=>by
      rcases Nat.lt_or_ge j k with h | h
      ·exact HA.o j hjl h
      ·obtain rfl:j=k:=by omega
       omega
     clear hsn HA
     have hwr:IntKind.u8.wrap (ls[k].length:Int)=(ls[k].length:Int):=by
      rw [IntKind.wrap_u8];omega
     generalize ls[k]=l at *
     generalize zce (ls.take k)=m at *
     have hml:m.length≤84:=by have:=HLL.o;rw [hlk] at this;omega
     have HML:=za hml
     have hl20:l.length≤20:=by omega
     clear hlk HLL hml hm
     have hsz:Hid (w.heap.size≤wr.heap.size):=HB.o.size
     have HO1:Hid (∀ o,(wr.alloc o).ownsRow w.heap.size 5 1 u3 m.length (m.map bv)):=fun o=>yd HO.o (ze wr o)
     go_wp2_with (first
      | (at_builtin;refine wpList_append_lies _ rfl _ _ _ rfl w.heap.size 5 i (.int .u8 0) 1 1 Tryz.underlying76 HI.o HZ.o.1 HZ.o.2.1 HZ.o.2.2 rfl (by omega) u3 m.length _ rfl (HO1.o _) ⟨wr.heap.size,0,none⟩ 1 1 [.int .u8 (l.length:Int)] rfl rfl (World.news_of_block (heap_alloc_last _ _)) (by simp [Value.oneCell']) (by omega) (by have:=HML.o;unfold maxLen;omega) (by have:=HML.o;omega) (by have:=hsz.out;simp;omega) (wr.heap.size+1) (by simp) ?_;intro g' cap' w2 hown hgrow hat hltg;have HB1:Hid (Below w.heap.size w w2):=(HB.o.trans ((ze wr _).mono hsz.out)).grown hgrow (by have:=hsz.out;simp;omega) (js HO.o);have HO2:=za hown;clear hgrow hat hltg hown)
      | (at_builtin;(refine wpList_append_own _ rfl _ _ _ rfl w.heap.size 5 i (.int .u8 0) 1 1 Tryz.underlying76 HI.o HZ.o.1 HZ.o.2.1 HZ.o.2.2 rfl (by omega) (.slice (some ⟨g',0,none⟩) (m.length+1) cap') (m.length+1) (m.map bv++[.int .u8 (l.length:Int)]) rfl HO2.o ⟨g,0,none⟩ l.length c (l.map bv) rfl (by simp) (fun j u hj=>zyw HS.o HG.o HB1.o j u hj) (z43 l) (by have:=HML.o;unfold maxLen;omega) (by have:=HML.o;omega) HB1.o.size ?_;intro v3 w3 hown hgrow hnil;have HB3:Hid (Below w.heap.size w w3):=HB1.o.grown hgrow (by have:=HB1.o.size;omega) (js HO2.o);have HO3:=za hown;have HN3:Hid (v3≠ .slice none 0 0):=(fun e=>absurd (hnil.1 e).1 (by simp));clear hgrow hnil hown)))
     go_roundw
     case rel=>exact⟨k+1,by omega,by go_num,HB3.o,by rw [HSN.o.1,HSN.o.2];exact HO3.o,fun h=>by omega,fun _=>HN3.o,HA'.o⟩
     case measure=>simp [intOf];omega
   ·go_wp2_with fail
    go_ret
    have hk':ls.length=k:=by omega
    refine⟨_,rfl,HB.o,fun ho=>?_,fun ho=>?_⟩
    ·have:=HO.o
     rw [List.take_of_length_le (by omega)] at this
     refine⟨this,HN.o.2 ?_⟩
     rcases Nat.eq_zero_or_pos k with h | h
     ·rw [zs6 (by omega)] at ho;simp at ho
     ·exact h
    ·refine HN.o.1 ?_
     rcases Nat.eq_zero_or_pos k with h | h
     ·exact h
     ·rw [zub (by omega) (by omega) (fun j hj=>HA.o j hj (by omega))] at ho
      simp at ho
theorem ztc {w:World}{B g cap:Nat}{es:List (List UInt8)}(h:OBs w B (.slice (some ⟨g,0,none⟩) es.length cap) es)(i n:Nat)(hn:i+n≤es.length)(a:Option Addr)(c:Nat)(ha:0 < n→a=some ⟨g,i,none⟩)(hc:n≤c):zwa w (.slice a n c) ((es.drop i).take n):=by
 obtain⟨xs,ho,hx⟩:=h
 have hl:((es.drop i).take n).length=n:=by simp;omega
 refine⟨a,c,by rw [hl],fun j hj=>?_⟩
 rw [hl] at hj
 obtain⟨x,e,hob⟩:=hx (i+j) (by omega)
 obtain⟨gx,cx,rfl,-,-,hcs⟩:=hob.form
 have hce:=ho.cells rfl _ _ e
 rw [Addr.add_mid,Nat.zero_add] at hce
 refine⟨g,i,ha (by omega),by rw [hl];exact hc,gx,cx,?_,?_⟩
 ·rw [List.getElem_take,List.getElem_drop]
  exact hce
 ·intro q hq
  simp only [List.getElem_take,List.getElem_drop] at hq ⊢
  exact hcs q hq
theorem OB.bq {w:World}{B:Nat}{x:Value}{l:List UInt8}(h:OB w B x l):Bq w x l:=by
 rcases h.1.2 with h0 | ⟨g,cap,cur,rfl,hB,hg,hn,hm,hs,ht⟩
 ·exact absurd h0.1 h.2
 ·refine⟨g,cap,cur,(0,0),rfl,hn,hg,fun i hi=>?_⟩
  have e:(l.map bv)[i]?=some (bv l[i]):=by simp [hi]
  rw [← ht,List.getElem?_take,if_pos (by omega)] at e
  simpa using e
theorem z3s (es:List (List UInt8))(i n:Nat)(h:i+n≤es.length):((List.range' i n).map (ql es (-1))).flatten=zce ((es.drop i).take n):=by
 induction n with
 | zero=>simp [zce]
 | succ n ih =>
  have hi:=ih (by omega)
  rw [List.range'_1_concat,List.map_append,List.flatten_append,hi]
  have e:(es.drop i).take (n+1)=(es.drop i).take n++[es[i+n]]:=by
   rw [List.take_add_one,List.getElem?_drop,List.getElem?_eq_getElem (by omega)]
   rfl
  rw [e,zeb,zjb]
  congr 1
  simp [ql,List.getElem?_eq_getElem (show i+n < es.length by omega)]
theorem zz2 (es:List (List UInt8))(i n:Nat)(h:i+n≤es.length)(h1:1≤n)(h4:n≤4)(h20:∀ e∈es,e.length≤20):okB ((es.drop i).take n)=true:=by
 refine zub (by simp;omega) (by simp;omega) (fun j hj=>?_)
 rw [List.getElem_take,List.getElem_drop]
 exact h20 _ (List.getElem_mem _)
theorem zx2 (O:Nat→Prop)(db lb:Nat)(l:Lg)(w:World)(he:l.es.length≤1000000)(h20:∀ e∈l.es,e.length≤20)(h:xk w O db lb l)(i n:Nat)(hin:i+n≤l.es.length)(h1:1≤n)(h4:n≤4):
  Calls Tryz.prog 124 #[.pointer (some ⟨lb,0,none⟩),.int .i64 (-1),.int .i64 i,.int .i64 ((i+n:Nat):Int)] w fun r w'=>∃ v,r= .returned v∧Below w.heap.size w w'∧Bq w' v (((List.range' i n).map (ql l.es (-1))).flatten):=by
 obtain⟨a,cap,hb,hes,-⟩:=lok h
 obtain⟨-,-,⟨c2,f2⟩,-⟩:=zej hb
 obtain⟨g,rfl,-⟩:=zhq hes (by omega)
 have hcap:=zpy hes
 have HES:=za hes
 have H20:=za h20
 have HFL:=za (z3s l.es i n hin)
 have HOK:=za (zz2 l.es i n hin h1 h4 h20)
 clear h hb hes h20 f2
 have hci:¬ cap=i:=by omega
 have hj1:(i:Int)≤((i+n:Nat):Int):=by omega
 have hj2:((i+n:Nat):Int)≤(cap:Int):=by omega
 go_enter Tryz.func124,Tryz.ntmps124
 go_wp2_with fail
 refine(zn1 (.slice (some ⟨g,i,none⟩) n (cap - i)) ((l.es.drop i).take n) w (by simp;omega) (fun e he'=>Nat.le_trans (H20.o e (List.mem_of_mem_drop (List.mem_of_mem_take he'))) (by unfold maxLen;omega)) (ztc HES.o i n hin _ _ (fun _=>rfl) (by omega))).mono ?_
 rintro r w1 ⟨x,rfl,hb1,hok,-⟩
 have HB1:=za hb1
 have HOB:=za (hok HOK.o)
 obtain⟨gx,cx,nx,rfl⟩:=zgb (hok HOK.o)
 clear hb1 hok
 go_wp2_with fail
 go_ret
 exact⟨_,rfl,HB1.o,by rw [HFL.o];exact HOB.o.bq⟩
theorem z8j {w:World}{g:Nat}{a0 a1 a2 a3 a4 a5 a6 a7:Value}{t:TypeId}{fr:Nat×Nat}(h:w.heap[g]?=some (.cells #[a0,a1,a2,a3,a4,a5,a6,a7] t fr)):
  w.cell? ⟨g,0,none⟩=some a0∧w.cell? ⟨g,1,none⟩=some a1∧w.cell? ⟨g,2,none⟩=some a2∧w.cell? ⟨g,3,none⟩=some a3∧w.cell? ⟨g,4,none⟩=some a4∧w.cell? ⟨g,5,none⟩=some a5∧w.cell? ⟨g,6,none⟩=some a6∧w.cell? ⟨g,7,none⟩=some a7:=by
 refine⟨?_,?_,?_,?_,?_,?_,?_,?_⟩<;>rw [cell_of_row _ _ _ _ _ _ h]<;>rfl
theorem zz9 {w:World}{b:Nat}{t:TypeId}{a0 a1 a2 a3 a4 a5 a6 a7:Value}(v0 v1 v2 v3 v4 v5 v6 v7:Value)(h:w.heap[b]?=some (.cells #[a0,a1,a2,a3,a4,a5,a6,a7] t (0,0))):((((((((w.setCell ⟨b,0,none⟩ v0).setCell ⟨b,1,none⟩ v1).setCell ⟨b,2,none⟩ v2).setCell ⟨b,3,none⟩ v3).setCell ⟨b,4,none⟩ v4).setCell ⟨b,5,none⟩ v5).setCell ⟨b,6,none⟩ v6).setCell ⟨b,7,none⟩ v7).heap[b]?=some (.cells #[v0,v1,v2,v3,v4,v5,v6,v7] t (0,0)):=by
 have e0:(w.setCell ⟨b,0,none⟩ v0).heap[b]?=some (.cells #[v0,a1,a2,a3,a4,a5,a6,a7] t (0,0)):=qj h 0 v0
 have e1:((w.setCell ⟨b,0,none⟩ v0).setCell ⟨b,1,none⟩ v1).heap[b]?=some (.cells #[v0,v1,a2,a3,a4,a5,a6,a7] t (0,0)):=qj e0 1 v1
 have e2:(((w.setCell ⟨b,0,none⟩ v0).setCell ⟨b,1,none⟩ v1).setCell ⟨b,2,none⟩ v2).heap[b]?=some (.cells #[v0,v1,v2,a3,a4,a5,a6,a7] t (0,0)):=qj e1 2 v2
 have e3:((((w.setCell ⟨b,0,none⟩ v0).setCell ⟨b,1,none⟩ v1).setCell ⟨b,2,none⟩ v2).setCell ⟨b,3,none⟩ v3).heap[b]?=some (.cells #[v0,v1,v2,v3,a4,a5,a6,a7] t (0,0)):=qj e2 3 v3
 have e4:(((((w.setCell ⟨b,0,none⟩ v0).setCell ⟨b,1,none⟩ v1).setCell ⟨b,2,none⟩ v2).setCell ⟨b,3,none⟩ v3).setCell ⟨b,4,none⟩ v4).heap[b]?=some (.cells #[v0,v1,v2,v3,v4,a5,a6,a7] t (0,0)):=qj e3 4 v4
 have e5:((((((w.setCell ⟨b,0,none⟩ v0).setCell ⟨b,1,none⟩ v1).setCell ⟨b,2,none⟩ v2).setCell ⟨b,3,none⟩ v3).setCell ⟨b,4,none⟩ v4).setCell ⟨b,5,none⟩ v5).heap[b]?=some (.cells #[v0,v1,v2,v3,v4,v5,a6,a7] t (0,0)):=qj e4 5 v5
 have e6:(((((((w.setCell ⟨b,0,none⟩ v0).setCell ⟨b,1,none⟩ v1).setCell ⟨b,2,none⟩ v2).setCell ⟨b,3,none⟩ v3).setCell ⟨b,4,none⟩ v4).setCell ⟨b,5,none⟩ v5).setCell ⟨b,6,none⟩ v6).heap[b]?=some (.cells #[v0,v1,v2,v3,v4,v5,v6,a7] t (0,0)):=qj e5 6 v6
 have e7:((((((((w.setCell ⟨b,0,none⟩ v0).setCell ⟨b,1,none⟩ v1).setCell ⟨b,2,none⟩ v2).setCell ⟨b,3,none⟩ v3).setCell ⟨b,4,none⟩ v4).setCell ⟨b,5,none⟩ v5).setCell ⟨b,6,none⟩ v6).setCell ⟨b,7,none⟩ v7).heap[b]?=some (.cells #[v0,v1,v2,v3,v4,v5,v6,v7] t (0,0)):=qj e6 7 v7
 exact e7
theorem zrj {B b:Nat}{a w:World}(h:Below B a w)(hb:B≤b)(v0 v1 v2 v3 v4 v5 v6 v7:Value):Below B a ((((((((w.setCell ⟨b,0,none⟩ v0).setCell ⟨b,1,none⟩ v1).setCell ⟨b,2,none⟩ v2).setCell ⟨b,3,none⟩ v3).setCell ⟨b,4,none⟩ v4).setCell ⟨b,5,none⟩ v5).setCell ⟨b,6,none⟩ v6).setCell ⟨b,7,none⟩ v7) :=
 h|>.setCell (p:=⟨b,0,none⟩) hb v0|>.setCell (p:=⟨b,1,none⟩) hb v1|>.setCell (p:=⟨b,2,none⟩) hb v2|>.setCell (p:=⟨b,3,none⟩) hb v3|>.setCell (p:=⟨b,4,none⟩) hb v4|>.setCell (p:=⟨b,5,none⟩) hb v5|>.setCell (p:=⟨b,6,none⟩) hb v6|>.setCell (p:=⟨b,7,none⟩) hb v7
theorem zku (l:Int)(h1:0≤l)(h2:l≤20)(x:Int)(hx:0≤x)(P:Nat)(hP:P=4 ^ l.toNat)(hn:x.toNat*P≤1000000)(w:World):
  Calls Tryz.prog 165 #[.int .i64 l,.int .i64 x] w fun r w'=>r= .returned (.int .i64 ((x.toNat*P:Nat):Int))∧w'=w:=by
 subst hP
 have:=zr3 l h1 h2 x.toNat hn w
 rw [Int.toNat_of_nonneg hx] at this
 exact this
theorem zx7 (O:Nat→Prop)(db lb:Nat)(l:Lg)(w:World)(he:l.es.length≤1000000)(h20:∀ e∈l.es,e.length≤20)(h:xk w O db lb l)(L:Nat)(hL:L≤20)(i n:Nat)(hin:(i+n)*4 ^ L≤l.es.length)(h1:1≤n)(h4:n≤4):
  Calls Tryz.prog 124 #[.pointer (some ⟨lb,0,none⟩),.int .i64 L,.int .i64 i,.int .i64 ((i+n:Nat):Int)] w fun r w'=>∃ v,r= .returned v∧Below w.heap.size w w'∧Bq w' v (((List.range' i n).map (ql l.es L)).flatten):=by
 obtain⟨a,cap,hb,hes,-⟩:=lok h
 obtain⟨-,-,⟨c2,f2⟩,-⟩:=zej hb
 have hlt:=zb hb
 obtain⟨P,hP⟩:∃ P,P=4 ^ L:=⟨_,rfl⟩
 have hP1:1≤P:=by rw [hP];exact Nat.pow_pos (by omega)
 rw [← hP] at hin
 have hPm:1*P≤(i+n)*P:=Nat.mul_le_mul_right _ (by omega)
 obtain⟨g,rfl,-⟩:=zhq hes (by omega)
 have hcap:=zpy hes
 have HES:=za hes
 have H20:=za h20
 have HP:=za hP
 obtain⟨ti,hti,hti'⟩:=Option.map_eq_some_iff.1 zmq
 obtain⟨hz0,hz1,hz2⟩:ti.zero=some (.int .u8 0)∧ti.size=1∧ti.bytes=1:=by simpa using hti'
 have HI:=za hti
 have HZ:=za (And.intro hz0 (And.intro hz1 hz2))
 clear h hb hes h20 f2 hP hti hti' hz0 hz1 hz2
 have hneg:((L:Int)==-1)=false:=by rw [beq_eq_false_iff_ne];omega
 go_enter Tryz.func124,Tryz.ntmps124
 go_wp2_with fail
 go_loopg [9,10,11] (n+1) (fun gg t j _ wr=>∃ k:Nat,k≤n∧n+1 - k≤gg∧j= .int .i64 ((i+k:Nat):Int)∧Below w.heap.size w wr∧wr.ownsRow w.heap.size 5 1 t (((List.range' i k).map (ql l.es L)).flatten).length ((((List.range' i k).map (ql l.es L)).flatten).map bv)∧(((List.range' i k).map (ql l.es L)).flatten).length=8*k∧(0 < k→t≠ .slice none 0 0))
 case atStart=>exact⟨0,Nat.zero_le _,by omega,by simp,Below.refl _ _,⟨rfl,.inl ⟨rfl,rfl⟩⟩,by simp,fun h=>absurd h (Nat.lt_irrefl _)⟩
 case round =>
  obtain⟨k,hk,hgg,rfl,hbe,hown,hlen,hnn⟩:=hrel
  have HB:=za hbe
  have HO:=za hown
  have HLN:=za hlen
  have HNN:=za hnn
  clear hbe hown hlen hnn
  by_cases hkn:k < n
  ·have hlt2:((i+k:Nat):Int) < ((i+n:Nat):Int):=by omega
   have hmul:(i+k+1)*P≤(i+n)*P:=Nat.mul_le_mul_right _ (by omega)
   have hms:(i+k+1)*P=(i+k)*P+P:=by rw [Nat.add_mul,Nat.one_mul]
   obtain⟨r0,r1,r2,r3,r4,r5,r6,r7,hR⟩:=hv8 (qb P ((l.es.drop ((i+k)*P)).take P)) (jn _ _)
   have hR':hv (qb P ((l.es.drop ((i+k)*P)).take P))=#[.int .u8 r0.toNat,.int .u8 r1.toNat,.int .u8 r2.toNat,.int .u8 r3.toNat,.int .u8 r4.toNat,.int .u8 r5.toNat,.int .u8 r6.toNat,.int .u8 r7.toNat]:=by rw [hR];rfl
   have HR:=za hR
   have HR':=za hR'
   have HDT:Hid (ql l.es L (i+k)=[r0,r1,r2,r3,r4,r5,r6,r7]):=by
    show ql l.es L (i+k)=_
    unfold ql
    rw [if_neg (by omega),Int.toNat_natCast,← HP.o]
    unfold yb
    rw [show(List.take P (List.drop ((i+k)*P) l.es)).length=P by simp;omega]
    exact hR
   have m2:wr.cell? ⟨lb,2,none⟩=some (.slice (some ⟨g,0,none⟩) l.es.length cap):=by rw [HB.o.cell (p:=⟨lb,2,none⟩) hlt];exact c2
   have HMS:=za hms
   have hci:¬ cap=(i+k)*P:=by omega
   have hq1:(i+k)*P≤(i+k+1)*P:=by omega
   have hq2:(i+k+1)*P≤cap:=by omega
   have hq3:(i+k+1)*P≤1000000:=by omega
   have hq4:(i+k)*P≤1000000:=by omega
   have hq5:(i+k+1)*P≤l.es.length:=by omega
   clear hR hR' hmul hms
   have hf1:∀ X,Calls Tryz.prog 165 #[.int .i64 (L:Int),.int .i64 ((i+k:Nat):Int)] X fun r w'=>r= .returned (.int .i64 (((i+k)*P:Nat):Int))∧w'=X:=fun X=>by
    have:=zku L (by omega) (by omega) ((i+k:Nat):Int) (by omega) P (by rw [HP.o];simp) (by rw [Int.toNat_natCast];exact hq4) X
    rw [Int.toNat_natCast] at this
    exact this
   have hf2:∀ X,Calls Tryz.prog 165 #[.int .i64 (L:Int),.int .i64 (((i+k:Nat):Int)+1)] X fun r w'=>r= .returned (.int .i64 (((i+k+1)*P:Nat):Int))∧w'=X:=fun X=>by
    have:=zku L (by omega) (by omega) (((i+k:Nat):Int)+1) (by omega) P (by rw [HP.o];simp) (by rw [show(((i+k:Nat):Int)+1).toNat=i+k+1 by omega];exact hq3) X
    rw [show(((i+k:Nat):Int)+1).toNat=i+k+1 by omega] at this
    exact this
   generalize hA:(i+k)*P=A at *
   generalize hBB:(i+k+1)*P=A' at *
   generalize hJ:i+k=J at *
   have HA:=za (And.intro hA hBB)
   have HJ:=za hJ
   have HF1:=za hf1
   have HF2:=za hf2
   clear hA hBB hJ hf1 hf2
   have hJb:J≤2000000:=by
    have:=HJ.o
    have hh:(i+n)*1≤(i+n)*P:=Nat.mul_le_mul_left _ hP1
    omega
   have hd0:Hid (Below wr.heap.size wr wr.drew):=(Below.refl _ _).drew
   have hd1:Hid (∀ o,Below wr.heap.size wr (wr.alloc o).drew):=fun o=>(ze _ _).drew
   have HRA:Hid (∀ X,Below wr.heap.size wr X→Calls Tryz.prog 51 #[.slice (some ⟨g,A,none⟩) (A' - A) (cap - A)] X fun r w'=>r= .returned (.agg #[.int .u8 (r0.toNat:Int),.int .u8 (r1.toNat:Int),.int .u8 (r2.toNat:Int),.int .u8 (r3.toNat:Int),.int .u8 (r4.toNat:Int),.int .u8 (r5.toNat:Int),.int .u8 (r6.toNat:Int),.int .u8 (r7.toNat:Int)])∧Below X.heap.size X w'):=fun X hX=>by
    have hp:=zf1 P (.slice (some ⟨g,A,none⟩) (A' - A) (cap - A)) ((l.es.drop A).take P) X (by simp;omega) (by have:=HMS.o;simp;omega) (fun e he'=>Nat.le_trans (H20.o e (List.mem_of_mem_drop (List.mem_of_mem_take he'))) (by unfold maxLen;omega)) (by
     have hbs:=((HES.o.bss'.below HB.o).below hX).drop A (by omega)
     have h2:=hbs.take (A' - A) (by rw [List.length_drop];omega)
     rw [show A' - A=P by have:=HMS.o;omega] at h2 ⊢
     rw [Nat.zero_add] at h2
     exact h2)
    rw [HR'.o] at hp
    exact hp
   go_wp2_with fail
   go_cut [11] from 23 to 43 (fun s11 wx=>∃ Bh,s11= .pointer (some ⟨Bh,0,none⟩)∧wx.heap[Bh]?=some (.cells #[.int .u8 (r0.toNat:Int),.int .u8 (r1.toNat:Int),.int .u8 (r2.toNat:Int),.int .u8 (r3.toNat:Int),.int .u8 (r4.toNat:Int),.int .u8 (r5.toNat:Int),.int .u8 (r6.toNat:Int),.int .u8 (r7.toNat:Int)] 91 (0,0))∧wr.heap.size≤Bh∧Below wr.heap.size wr wx)
   case first =>
    have hx1:¬ lb=wr.heap.size:=by have:=zj m2;simp only at this;omega
    have hx2:¬ wr.heap.size=lb:=by omega
    have c6:IntKind.i64.wrap ((J:Int)+1)=(J:Int)+1:=by rw [IntKind.wrap_i64];omega
    go_region_held3 (fun X=>X.cell? ⟨lb,2,none⟩=some (.slice (some ⟨g,0,none⟩) l.es.length cap)) (go_keep) (first
     | (go_at_call_of 165 (Value.int .i64 (J:Int));refine(HF1.o _).mono ?_;rintro r w' ⟨rfl,rfl⟩)
     | (go_at_call 165;refine(HF2.o _).mono ?_;rintro r w' ⟨rfl,rfl⟩)
     | (go_at_call 51;refine(HRA.o wr.drew hd0.out).mono ?_;rintro r w2 ⟨rfl,hb2⟩;have hbb:Below wr.heap.size wr w2:=hd0.out.trans (hb2.mono hd0.out.size);have q2:w2.cell? ⟨lb,2,none⟩=some (.slice (some ⟨g,0,none⟩) l.es.length cap):=(by rw [hbb.cell (p:=⟨lb,2,none⟩) (zj m2)];exact m2);have HB2:=za hbb;clear hb2 hbb)
     | (go_at_call 51;refine(HRA.o (wr.alloc (.cells #[.int .u8 0,.int .u8 0,.int .u8 0,.int .u8 0,.int .u8 0,.int .u8 0,.int .u8 0,.int .u8 0] 91)).drew (hd1.out _)).mono ?_;rintro r w2 ⟨rfl,hb2⟩;have hbb:Below wr.heap.size wr w2:=(hd1.out _).trans (hb2.mono (hd1.out _).size);have q2:w2.cell? ⟨lb,2,none⟩=some (.slice (some ⟨g,0,none⟩) l.es.length cap):=(by rw [hbb.cell (p:=⟨lb,2,none⟩) (zj m2)];exact m2);have hnw:w2.heap[wr.heap.size]?=some (.cells #[.int .u8 0,.int .u8 0,.int .u8 0,.int .u8 0,.int .u8 0,.int .u8 0,.int .u8 0,.int .u8 0] 91 (0,0)):=(by rw [hb2.block _ (by show wr.heap.size < (wr.heap.push _).size;simp)];exact heap_alloc_last wr _);obtain⟨x0,x1,x2,x3,x4,x5,x6,x7⟩:=z8j hnw;have xz:=zpv hnw;have HNW:=za hnw;have HB2:=za hbb;clear hb2 hbb hnw))
    all_goals go_wp2_with fail
    all_goals go_meet
    all_goals first
     | (have hN:=HNW.o;exact⟨wr.heap.size,rfl,zz9 (.int .u8 (r0.toNat:Int)) (.int .u8 (r1.toNat:Int)) (.int .u8 (r2.toNat:Int)) (.int .u8 (r3.toNat:Int)) (.int .u8 (r4.toNat:Int)) (.int .u8 (r5.toNat:Int)) (.int .u8 (r6.toNat:Int)) (.int .u8 (r7.toNat:Int)) hN,Nat.le_refl _,zrj HB2.o (Nat.le_refl _) (.int .u8 (r0.toNat:Int)) (.int .u8 (r1.toNat:Int)) (.int .u8 (r2.toNat:Int)) (.int .u8 (r3.toNat:Int)) (.int .u8 (r4.toNat:Int)) (.int .u8 (r5.toNat:Int)) (.int .u8 (r6.toNat:Int)) (.int .u8 (r7.toNat:Int))⟩)
     | exact⟨w2.heap.size,rfl,heap_alloc_last _ _,HB2.o.size,HB2.o.alloc HB2.o.size _⟩
   case rest =>
    obtain⟨Bh,rfl,hB,hB1,hbx⟩:=hcut
    have HBX:=za hbx
    have HBH:=za hB
    have HO1:Hid (wc.ownsRow w.heap.size 5 1 u9 (((List.range' i k).map (ql l.es L)).flatten).length ((((List.range' i k).map (ql l.es L)).flatten).map bv)):=yd HO.o hbx
    have hflat:Hid (((List.range' i (k+1)).map (ql l.es L)).flatten=((List.range' i k).map (ql l.es L)).flatten++[r0,r1,r2,r3,r4,r5,r6,r7]):=by
     show _=_
     rw [List.range'_1_concat,List.map_append,List.flatten_append,List.map_singleton,HJ.o,HDT.o]
     simp
    have hnw:Hid (∀ j u,([.int .u8 (r0.toNat:Int),.int .u8 (r1.toNat:Int),.int .u8 (r2.toNat:Int),.int .u8 (r3.toNat:Int),.int .u8 (r4.toNat:Int),.int .u8 (r5.toNat:Int),.int .u8 (r6.toNat:Int),.int .u8 (r7.toNat:Int)]:List Value)[j]?=some u→wc.cell? ((⟨Bh,0,none⟩:Addr).add j)=some u):=fun j u hj=>by
     rw [Addr.add_mid,Nat.zero_add,cell_of_row _ _ _ _ _ _ HBH.o]
     simpa using hj
    have hlk:(((List.range' i k).map (ql l.es L)).flatten).length≤32:=by have:=HLN.o;omega
    have hsz:Hid (w.heap.size≤wc.heap.size):=Nat.le_trans HB.o.size hbx.size
    clear hbx hB m2
    generalize hff:((List.range' i k).map (ql l.es L)).flatten=ff at *
    clear hff
    go_wp2_with (at_builtin;refine wpList_append_lies _ rfl _ _ _ rfl w.heap.size 5 ti (.int .u8 0) 1 1 Tryz.underlying76 HI.o HZ.o.1 HZ.o.2.1 HZ.o.2.2 rfl (by omega) u9 ff.length (ff.map bv) rfl HO1.o ⟨Bh,0,none⟩ 8 8 [.int .u8 (r0.toNat:Int),.int .u8 (r1.toNat:Int),.int .u8 (r2.toNat:Int),.int .u8 (r3.toNat:Int),.int .u8 (r4.toNat:Int),.int .u8 (r5.toNat:Int),.int .u8 (r6.toNat:Int),.int .u8 (r7.toNat:Int)] rfl rfl hnw.out (by simp [Value.oneCell']) (by omega) (by unfold maxLen;omega) (by omega) (hsz.out) wc.heap.size rfl ?_;intro g5 cap5 w5 hown hgrow hat hltg;have HOW:=za hown;have HGR:=za hgrow;clear hown hgrow hat hltg)
    go_roundg (gk - 1)
    case rel =>
     have hfl:=hflat.out
     refine⟨k+1,by omega,by omega,by congr 1;have:=HJ.o;omega,((HB.o.trans (HBX.o.mono HB.o.size)).grown HGR.o hsz.out (js HO1.o)),?_,?_,fun _ h=>by simp at h⟩
     ·rw [hfl,List.length_append,List.map_append]
      exact HOW.o
     ·rw [hfl,List.length_append,HLN.o]
      simp
      omega
    case measure=>omega
  ·obtain rfl:k=n:=by omega
   go_wp2_with fail
   go_ret
   exact⟨_,rfl,HB.o,(show OB wr w.heap.size _ _ from ⟨HO.o,HNN.o (by omega)⟩).bq⟩
end
end Go.Proofs.YtinhekmmdlhfkaaGreatDoor
