import Derived.Test.YtinhekmmdlhfkaaGreatDoorG42
import Derived.Test.YtinhekmmdlhfkaaGreatDoorG08
import Derived.Test.YtinhekmmdlhfkaaGreatDoorG45
import Derived.Test.YtinhekmmdlhfkaaGreatDoorG48
import Derived.Test.YtinhekmmdlhfkaaGreatDoorG46
import Derived.Shelf.SlicesE.Clone
import Derived.Test.YtinhekmmdlhfkaaGreatDoorProg
import Derived.Test.YtinhekmmdlhfkaaGreatDoorG09
import Derived.Lib.OwnBridge
import Derived.Deep.OwnRows
import Derived.Test.YtinhekmmdlhfkaaGreatDoorRows
import Derived.ProofKit
import Derived.OpenShut
import Derived.ShutString
import Derived.ChangeOld
import Derived.Below
import Derived.Deep.SlicePairs
namespace Go.Proofs.YtinhekmmdlhfkaaGreatDoor
section
set_option maxHeartbeats 1000000
open Go.RowKit
set_option maxRecDepth 100000
theorem zou (O:Nat→Prop)(W:World)(at_:Nat→Addr)(hE:Env W)(hSN:qm W at_)(hOW:∀ k,O k→W.heap.size≤k)(db pb lb:Nat)(d:Dk)(l:Lg)(w:World)(hn:d.fs.length+(yj l.es l.put).length≤900000000)(he:l.es.length≤1000000)(hput:l.put≤l.es.length)(h20:∀ e∈l.es,e.length≤20)(hk:l.key.length≤9223372036854775807)(hW:Below W.heap.size W w)(hp:zhs w pb lb)(h:zm w O db d)(hL:xk w O db lb l)(hlv0:l.live=true)(hok:(qt (yj l.es l.put) (xn l.es.length (yb l.es) l.key) d).1=none):
  Calls Tryz.prog 13 #[.pointer (some ⟨pb,0,none⟩)] w fun r w'=>zf O pT w w' ∧
   ((l.live=false∧r= .returned (.tuple #[.int .i64 0,told 7])∧Below w.heap.size w w') ∨
    (l.live=true∧(qt (yj l.es l.put) (xn l.es.length (yb l.es) l.key) d).1=none∧r= .returned (.tuple #[.int .i64 (l.es.length:Int),told 0])∧zm w' (Ext O w w') db (qt (yj l.es l.put) (xn l.es.length (yb l.es) l.key) d).2∧xk w' (Ext O w w') db lb { l with put:=l.es.length }) ∨
    (l.live=true∧∃ p,(qt (yj l.es l.put) (xn l.es.length (yb l.es) l.key) d).1=some p∧r= .returned (.tuple #[.int .i64 0,zf6 8 p])∧zm w' (Ext O w w') db (qt (yj l.es l.put) (xn l.es.length (yb l.es) l.key) d).2∧xk w' (Ext O w w') db lb { l with live:=false })):=by
 have hc0:∀ o,(w.alloc o).cell? ⟨pb,0,none⟩=some (.pointer (some ⟨lb,0,none⟩)):=fun o=>by
  rw [zk _ _ ⟨_,0,none⟩ (zb hp)]
  exact(zg hp 0 _ rfl).1
 have hb0:Below w.heap.size w (w.alloc (.cells #[.int .i64 0,.string ⟨#[]⟩] 29)):=ze _ _
 have hpub:=zk0 O W at_ hE hSN hOW db lb d l (w.alloc (.cells #[.int .i64 0,.string ⟨#[]⟩] 29)) hn he hput h20 hk (hW.trans (hb0.mono hW.size)) (h.stay (O1:=fun _=>False) (T:=[]) (.of_below hb0) (by simp) (by simp)) (hL.stay (O1:=fun _=>False) (T:=[]) (.of_below hb0) (by simp) (by simp) (by simp))
 generalize qt (yj l.es l.put) (xn l.es.length (yb l.es) l.key) d=pr at hpub hok ⊢
 have HLV0:=za hlv0
 have HOK:=za hok
 clear hlv0 hok
 have HW:=za hW
 have HO:=za hOW
 have HS:=za hSN
 have hT0:zf O pT w (w.alloc (.cells #[.int .i64 0,.string ⟨#[]⟩] 29)):=(zf.refl _ _ _).alloc _
 have HR0:Hid (zcj w.heap.size (w.alloc (.cells #[.int .i64 0,.string ⟨#[]⟩] 29))):=heap_alloc_last _ _
 have HT0:=za hT0
 have HB0:=za hb0
 clear h hL h20 hW hOW hE hSN hp hn he hput hk hT0 hb0
 go_enter Tryz.func13,Tryz.ntmps13
 go_wp2_with fail
 refine hpub.mono ?_
 clear hpub hc0
 generalize w.alloc (.cells #[.int .i64 0,.string ⟨#[]⟩] 29)=w0 at *
 rintro r w2 ⟨ht2,hres⟩
 have HT2:Hid (zf O pT w w2):=HT0.o.trans (ht2.mono (fun _ h=> .inl h) (fun _ h=>h))
 have HR2:Hid (zcj w.heap.size w2):=HR0.o.turn ht2 (by decide)
 have HB2:Hid (Below W.heap.size W w2):=HW.o.trans (HT2.o.below HO.o HW.o.size)
 have HX:Hid (∀ k,Ext O w0 w2 k→Ext O w w2 k):=fun k hk=>by
  rcases hk with h | h
  ·exact .inl h
  ·exact .inr ⟨Nat.le_trans HT0.o.size h.1,h.2⟩
 clear ht2
 rcases hres with ⟨hlv,rfl,hb⟩ | ⟨hlv,hno,rfl,hd,hl⟩ | ⟨hlv,p,e,hsm,rfl,hge,hd,hl⟩
 ·rw [HLV0.o] at hlv;simp at hlv
 ·have HD:=za (hd.mono HX.o)
  have HL:=za (hl.mono HX.o)
  have HN:=za (And.intro hlv hno)
  clear hd hl hlv hno
  go_wp2_with fail
  refine(zjy at_ w2 (yz HS.o HB2.o)).mono ?_
  rintro r w3 ⟨rfl,hb3⟩
  have HB3:=za hb3
  have HR3:=za (HR2.o.below hb3)
  obtain⟨c0,z0⟩:=zg HR3.o 0 _ rfl
  obtain⟨c1,z1⟩:=zg HR3.o 1 _ rfl
  clear hb3
  unfold told
  go_wp2_with fail
  exact bodyPost_ret (v:= .tuple #[.int .i64 (l.es.length:Int),.agg #[.int .i64 0,.string ⟨([]:List UInt8).toArray⟩]]) (yy Tryz.results13 _ _ w.heap.size 29 _ (0,0) _ rfl (jr HR3.o _ _ rfl) Tryz.underlying29 rfl (by kernel_rfl) _ rfl) rfl ⟨jv (HT2.o.then_below HB3.o),.inr (.inl ⟨HN.o.1,HN.o.2,rfl,(HD.o.later HB3.o).sets2 HR3.o,(HL.o.later HB3.o).sets2 HR3.o⟩)⟩
 ·rw [HOK.o] at hsm;simp at hsm
end
section
set_option maxHeartbeats 1000000
open Go.RowKit
set_option maxRecDepth 100000
theorem jj.calm {d:Dk}(h:jj d):zau d:=⟨h.2.1,h.2.2⟩
theorem jj.bad {d:Dk}(h:jj d):bad d=false:=by
 unfold Go.Proofs.YtinhekmmdlhfkaaGreatDoor.bad xc
 rw [h.2.1,if_neg (by simp),if_neg (by have:=h.1;omega)]
 rfl
theorem jj.tk {d d':Dk}(h:jj d)(e:tk d'=tk d):jj d':=by
 unfold Go.Proofs.YtinhekmmdlhfkaaGreatDoor.tk at e
 simp only [Prod.mk.injEq] at e
 obtain⟨-,h1,h2,h3⟩:=e
 rw [h1,h.1,h.2.1] at h2
 rw [h1,h.1,h.2.2] at h3
 exact⟨h1.trans h.1,by simpa using h2,by simpa using h3⟩
theorem z9g (O:Nat→Prop)(db lb:Nat)(d:Dk)(w:World)(hst:jj d)(hfs:d.fs=[])(h:zm w O db d)(hs:w.cell? ⟨lb,0,none⟩=some (stV db true)):
  Calls Tryz.prog 44 #[.pointer (some ⟨lb,0,none⟩)] w fun r w'=>r= .returned .nilIface∧zf O dT1 w w'∧zm w' O db (ye d):=by
 have HG:=za (zjm O db lb d cpF w (by rw [hfs];simp) (by rw [hfs];simp) h hs)
 have HBD:=za hst.bad
 have HFS:=za hfs
 have q:∀(w:World) (a:Option Addr) (n c n' c':Nat),(binOp .eql 76 (.slice a n c) (.slice none n' c')).run Tryz.prog w= .ok (.bool a.isNone) w:=fun w a n c n' c'=>Lib.run_eql_slice_nil w _ _ a n c n' c' Tryz.underlying76
 clear h hst hfs
 unfold txv cpF at HG
 go_enter Tryz.func44,Tryz.ntmps44
 go_wp2_with fail
 refine HG.o.mono ?_
 rintro r w1 ⟨v,e,rfl,hge,ht1,hd1,hv⟩
 obtain rfl:e= .nilIface:=by
  rcases hge with ⟨-,h⟩ | ⟨h,-⟩
  ·exact h
  ·rw [HBD.o] at h;simp at h
 obtain rfl:v= .slice none 0 0:=by
  rcases hv with ⟨-,x,hx,-⟩ | ⟨-,h⟩
  ·rw [HFS.o] at hx;simp [zx] at hx
  ·exact h
 have HT1:=za ht1
 have HD1:=za hd1
 clear hge ht1 hd1 hv HG
 go_wp2_with fail
 go_ret
 exact⟨rfl,HT1.o,HD1.o⟩
theorem z5p (O:Nat→Prop)(W:World)(hE:Env W)(hOW:∀ k,O k→W.heap.size≤k)(db lb:Nat)(d:Dk)(w:World)(hst:jj d)(hfs:d.fs=[])(hW:Below W.heap.size W w)(h:zm w O db d)(cs:Array Value)(hsb:w.heap[lb]?=some (.cells cs 109 (0,0)))(hsc:cs[0]?=some (stV db true))(hsd:cs[2]?=some (.slice none 0 0)):
  Calls Tryz.prog 45 #[.pointer (some ⟨lb,0,none⟩)] w fun r w'=>r= .returned .nilIface∧∃ d',zf O dT1 w w'∧zm w' O db d'∧d'.fs=d.fs∧tk d'=tk d:=by
 have HWD:=za (zm8 O W hE hOW db lb d 0 0 w (by rw [hfs];simp) (by rw [hfs];simp) (by omega) (by omega) hst.calm hW h cs hsb hsc)
 have HST:=za hst
 have HFS:=za hfs
 have c2:=(zg hsb 2 _ hsd).1
 clear h hst hfs hW hE hOW hsb hsc hsd
 go_enter Tryz.func45,Tryz.ntmps45
 go_wp2_with fail
 go_loopw [3,4,5,6,7,8,9] (fun _ _ _ _ _ _ _ wr=>wr=w) (fun _ _ _ _ _ _ _ _=>0)
 case atStart=>rfl
 case round =>
  obtain rfl:=hrel
  go_wp2_with fail
  refine HWD.o.mono ?_
  rintro r w1 ⟨d',n,v,e,rfl,ht1,hd1,hf1,hk1,hres⟩
  have hstl:=HST.o.tk hk1
  have hres':e= .nilIface∧((wdF (zx d.fs) 0 0=none∧n=0∧v= .slice none 0 0)∨(wdF (zx d.fs) 0 0=some n∧∃ x,zx d.fs (yr (-1) ((0:Nat):Int) n)=some x∧Bq w1 v x)):=by
   rcases hres with ⟨hh,-⟩ | h
   ·rw [hstl.2.2] at hh;simp at hh
   ·exact h.2
  clear hres
  obtain⟨rfl,hres⟩:=hres'
  obtain⟨rfl,rfl⟩:n=0∧v= .slice none 0 0:=by
   rcases hres with ⟨-,h⟩ | ⟨hw,-⟩
   ·exact h
   ·rw [HFS.o,show wdF (zx []) 0 0=none by decide] at hw;simp at hw
  have HX:=za (And.intro ht1 (And.intro hd1 (And.intro hf1 hk1)))
  have HUN:=za (zhc 0 (.slice none 0 0) none w1 (.inr ⟨rfl,rfl⟩))
  clear ht1 hd1 hf1 hk1 hres hstl HWD c2
  go_wp2_with fail
  refine HUN.o.mono ?_
  rintro r w2 ⟨hb2,hres⟩
  obtain rfl:r= .returned (.tuple #[.slice none 0 0,.bool false]):=by
   rcases hres with ⟨es,y,hb,-⟩ | ⟨-,h⟩
   ·simp [zei] at hb
   ·exact h
  have HB2:=za hb2
  clear hb2 hres HUN
  go_wp2_with fail
  go_ret
  exact⟨rfl,d',HX.o.1.then_below HB2.o,HX.o.2.1.stay (zf.of_below (O:=O) (T:=[]) HB2.o) (by simp) (by simp),HX.o.2.2.1,HX.o.2.2.2⟩
end
section
set_option maxHeartbeats 1000000
open Go.RowKit
set_option maxRecDepth 100000
theorem z9m (O:Nat→Prop)(W:World)(hE:Env W)(hOW:∀ k,O k→W.heap.size≤k)(db:Nat)(d:Dk)(key:List UInt8)(w:World)(hst:jj d)(hfs:d.fs=[])(hW:Below W.heap.size W w)(h:zm w O db d):
  Calls Tryz.prog 26 #[.iface 25 (.pointer (some ⟨db,0,none⟩)),.string ⟨key.toArray⟩] w fun r w'=>∃(d':Dk) (lb:Nat),r= .returned (.tuple #[.pointer (some ⟨lb,0,none⟩),.nilIface])∧zf O dT1 w w'∧zm w' O db d'∧d'.fs=[]∧tk d'=tk d∧w.heap.size≤lb∧xk w' (Ext O w w') db lb { key:=key,es:=[],put:=0,live:=true }:=by
 have hb0:Below w.heap.size w (w.alloc (.cells #[.iface 25 (.pointer (some ⟨db,0,none⟩)),.string ⟨key.toArray⟩,.slice none 0 0,.int .i64 0] 109)):=ze _ _
 have hlb:(w.alloc (.cells #[.iface 25 (.pointer (some ⟨db,0,none⟩)),.string ⟨key.toArray⟩,.slice none 0 0,.int .i64 0] 109)).heap[w.heap.size]?=some (.cells #[.iface 25 (.pointer (some ⟨db,0,none⟩)),.string ⟨key.toArray⟩,.slice none 0 0,.int .i64 0] 109 (0,0)):=heap_alloc_last _ _
 have HRP:=za (z9g O db w.heap.size d (w.alloc (.cells #[.iface 25 (.pointer (some ⟨db,0,none⟩)),.string ⟨key.toArray⟩,.slice none 0 0,.int .i64 0] 109)) hst hfs (h.stay (zf.of_below (O:=O) (T:=[]) hb0) (by simp) (by simp)) (zg hlb 0 _ rfl).1)
 have HLB:=za hlb
 have HB0:=za hb0
 have HST:=za hst
 have HFS:=za hfs
 have HW:=za hW
 have HEE:=za hE
 have HO:=za hOW
 clear hb0 hlb h hst hfs hW hE hOW
 go_enter Tryz.func26,Tryz.ntmps26
 go_wp2_with fail
 generalize (w.alloc (.cells #[.iface 25 (.pointer (some ⟨db,0,none⟩)),.string ⟨key.toArray⟩,.slice none 0 0,.int .i64 0] 109))=w0 at *
 refine HRP.o.mono ?_
 rintro r w1 ⟨rfl,ht1,hd1⟩
 have HT1:Hid (zf O dT1 w w1):=(zf.of_below HB0.o).trans (ht1.mono (fun _ h=> .inl h) (fun _ h=>h))
 have HLB1:=za (ht1.keep HLB.o (by decide))
 have HBE:=za (z5p O W HEE.o HO.o db w.heap.size (ye d) w1 HST.o.enter ((yg d).trans HFS.o) (HW.o.trans (HT1.o.below HO.o HW.o.size)) hd1 _ HLB1.o rfl rfl)
 clear ht1 hd1 HRP
 go_wp2_with fail
 refine HBE.o.mono ?_
 rintro r w2 ⟨rfl,d',ht2,hd2,hf2,hk2⟩
 have HT2:Hid (zf O dT1 w w2):=HT1.o.trans (ht2.mono (fun _ h=> .inl h) (fun _ h=>h))
 have HD2:=za hd2
 have HF2:Hid (d'.fs=[]∧tk d'=tk d):=⟨hf2.trans ((yg d).trans HFS.o),hk2.trans (za8 d)⟩
 have HLB2:=za (ht2.keep HLB1.o (by decide))
 clear ht2 hd2 hf2 hk2 HBE
 go_wp2_with fail
 go_ret2
 exact⟨d',w.heap.size,rfl,HT2.o,HD2.o,HF2.o.1,HF2.o.2,Nat.le_refl _,.slice none 0 0,.inr ⟨Nat.le_refl _,zb HLB2.o⟩,HLB2.o,OBs.nil _ _,fun g e=>by simp [Value.ownBlock] at e⟩
theorem z7z (O:Nat→Prop)(W:World)(at_:Nat→Addr)(hE:Env W)(hSN:qm W at_)(hOW:∀ k,O k→W.heap.size≤k)(db:Nat)(d:Dk)(key:List UInt8)(w:World)(hst:jj d)(hfs:d.fs=[])(hW:Below W.heap.size W w)(h:zm w O db d):
  Calls Tryz.prog 8 #[.pointer (some ⟨db,0,none⟩),.string ⟨key.toArray⟩] w fun r w'=>∃(d':Dk) (pb lb:Nat),r= .returned (.tuple #[.pointer (some ⟨pb,0,none⟩),.agg #[.int .i64 0,.string ⟨#[]⟩]])∧zf O dT1 w w'∧zm w' (Ext O w w') db d'∧d'.fs=[]∧tk d'=tk d∧w.heap.size≤pb∧zhs w' pb lb∧xk w' (Ext O w w') db lb { key:=key,es:=[],put:=0,live:=true }:=by
 have hb0:Below w.heap.size w (w.alloc (.cells #[.int .i64 0,.string ⟨#[]⟩] 29)):=ze _ _
 have hopen:=z9m O W hE hOW db d key (w.alloc (.cells #[.int .i64 0,.string ⟨#[]⟩] 29)) hst hfs (hW.trans (hb0.mono hW.size)) (h.stay (O1:=fun _=>False) (T:=[]) (.of_below hb0) (by simp) (by simp))
 have HW:=za hW
 have HO:=za hOW
 have HS:=za hSN
 have HB0:=za hb0
 have HR0:Hid (zcj w.heap.size (w.alloc (.cells #[.int .i64 0,.string ⟨#[]⟩] 29))):=heap_alloc_last _ _
 clear h hW hOW hE hSN hb0 hst hfs
 go_enter Tryz.func8,Tryz.ntmps8
 go_wp2_with fail
 refine hopen.mono ?_
 clear hopen
 generalize w.alloc (.cells #[.int .i64 0,.string ⟨#[]⟩] 29)=w0 at *
 rintro r w2 ⟨d',lb,rfl,ht2,hd2,hf2,hk2,hlb,hlg⟩
 have HT2:Hid (zf O dT1 w w2):=(zf.of_below HB0.o).trans (ht2.mono (fun _ h=> .inl h) (fun _ h=>h))
 have HR2:Hid (zcj w.heap.size w2):=HR0.o.turn ht2 (by decide)
 have HB2:Hid (Below W.heap.size W w2):=HW.o.trans (HT2.o.below HO.o HW.o.size)
 have HX:Hid (∀ k,Ext O w0 w2 k→Ext O w w2 k):=fun k hk=>by
  rcases hk with h | h
  ·exact .inl h
  ·exact .inr ⟨Nat.le_trans HB0.o.size h.1,h.2⟩
 have HD2:Hid (zm w2 (Ext O w w2) db d'):=hd2.mono (fun _ h=> .inl h)
 have HF2:=za (And.intro hf2 hk2)
 have hsz2:=za HT2.o.size
 have HLG:=za (hlg.mono HX.o)
 clear ht2 hd2 hf2 hk2 hlb hlg
 go_wp2_with fail
 have HBA:Hid (Below w2.heap.size w2 (w2.alloc (.cells #[.pointer (some ⟨lb,0,none⟩)] 75))):=ze _ _
 have HPA:Hid (zhs (w2.alloc (.cells #[.pointer (some ⟨lb,0,none⟩)] 75)) w2.heap.size lb):=heap_alloc_last _ _
 generalize w2.alloc (.cells #[.pointer (some ⟨lb,0,none⟩)] 75)=wa at *
 have HRA:=za (HR2.o.below HBA.o)
 refine(zjy at_ wa (yz HS.o (HB2.o.trans (HBA.o.mono HB2.o.size)))).mono ?_
 rintro r w3 ⟨rfl,hb3⟩
 have HB3:Hid (Below w2.heap.size w2 w3):=HBA.o.trans (hb3.mono HBA.o.size)
 have HR3:=za (HRA.o.below hb3)
 have HP3:Hid (zhs w3 w2.heap.size lb):=(hb3.block _ (zb HPA.o)).trans HPA.o
 obtain⟨c0,z0⟩:=zg HR3.o 0 _ rfl
 obtain⟨c1,z1⟩:=zg HR3.o 1 _ rfl
 clear hb3
 unfold told
 go_wp2_with fail
 have hne:w2.heap.size≠w.heap.size:=by have:=zb HR2.o;omega
 refine bodyPost_ret (v:= .tuple #[.pointer (some ⟨w2.heap.size,0,none⟩),.agg #[.int .i64 0,.string ⟨([]:List UInt8).toArray⟩]]) (yy Tryz.results8 _ _ w.heap.size 29 _ (0,0) _ rfl (jr HR3.o _ _ rfl) Tryz.underlying29 rfl (by kernel_rfl) _ rfl) rfl ⟨d',w2.heap.size,lb,rfl,jv (HT2.o.then_below HB3.o),(HD2.o.later HB3.o).sets2 HR3.o,HF2.o.1,HF2.o.2,hsz2.out,?_,(HLG.o.later HB3.o).sets2 HR3.o⟩
 unfold zhs
 rw [heap_setCell_other _ _ _ _ (by exact hne),heap_setCell_other _ _ _ _ (by exact hne)]
 exact HP3.o
end
section
set_option maxHeartbeats 4000000
open Go.RowKit
set_option maxRecDepth 100000
def Iss (w:World)(v:Value)(az:List Int):Prop :=
 ∃ a cap,v= .slice a az.length cap∧az.length≤cap∧(az=[]∨∃ b off,a=some ⟨b,off,none⟩∧∀ i (h:i < az.length),w.cell? ⟨b,off+i,none⟩=some (.int .i64 az[i]))
theorem Iss.below {w w':World}{v:Value}{az:List Int}(h:Iss w v az)(hb:Below w.heap.size w w'):Iss w' v az:=by
 obtain⟨a,cap,e,hc,h | ⟨b,off,ea,hx⟩⟩:=h
 ·exact⟨a,cap,e,hc,.inl h⟩
 ·exact⟨a,cap,e,hc,.inr ⟨b,off,ea,fun i hi=>by rw [hb.cell (p:=⟨b,_,none⟩) (zj (hx i hi))];exact hx i hi⟩⟩
structure zf5 (B:Nat)(w0 w:World)(db pb lb n:Nat)(key:List UInt8)(d:Dk)(s:List Nat)(es:List (List UInt8))(put:Nat):Prop where
 le:B≤w0.heap.size
 bel:Below B w0 w
 disk:zm w (fun k=>B≤k) db d
 pl:zhs w pb lb
 log:xk w (fun k=>B≤k) db lb { key:=key,es:=es,put:=put,live:=true }
 ks:KS n key d s es put
theorem zf5.below {B:Nat}{w0 w w':World}{db pb lb n:Nat}{key:List UInt8}{d:Dk}{s:List Nat}{es:List (List UInt8)}{put:Nat}(h:zf5 B w0 w db pb lb n key d s es put)(hb:Below w.heap.size w w'):zf5 B w0 w' db pb lb n key d s es put:=by
 have ht:zf (fun _=>False) [] w w':= .of_below hb
 exact⟨h.le,h.bel.trans (hb.mono (Nat.le_trans h.le h.bel.size)),h.disk.stay ht (by simp) (by simp),ht.keep h.pl (by simp),h.log.stay ht (by simp) (by simp) (by simp),h.ks⟩
theorem zx4 (W:World)(at_:Nat→Addr)(hSN:qm W at_){B:Nat}{w0 w:World}{db pb lb n:Nat}{key:List UInt8}{d:Dk}{s:List Nat}{es:List (List UInt8)}{put:Nat}(h:zf5 B w0 w db pb lb n key d s es put)(hWB:W.heap.size≤B)(hW:Below W.heap.size W w0)(hn:n≤4200)(t:List UInt8)(ht:t.length≤20):
  Calls Tryz.prog 10 #[.pointer (some ⟨pb,0,none⟩),.string ⟨t.toArray⟩] w fun r w'=>r= .returned (.tuple #[.int .i64 (es.length:Int),told 0])∧zf (fun k=>B≤k) lT w w'∧zf5 B w0 w' db pb lb (n+1) key d (es.length / 4::s) (es++[t]) put:=by
 have hf:=h.ks.few hn
 refine(zky (fun k=>B≤k) W at_ hSN (fun k hk=>Nat.le_trans hWB hk) db pb lb _ t w (hW.trans (h.bel.mono hWB)) (by show es.length≤_;omega) (by omega) h.pl h.log).mono ?_
 rintro r w' ⟨hT,hres⟩
 rcases hres with ⟨h20,-⟩ | ⟨-,hl,-⟩ | ⟨-,-,rfl,hlog⟩
 ·omega
 ·simp at hl
 ·refine⟨rfl,hT,h.le,h.bel.trans (hT.below (fun _ hk=>hk) (Nat.le_trans h.le h.bel.size)),h.disk.stay hT (by decide) (by decide),hT.keep h.pl (by decide),hlog.mono (fun k hk=>?_),zyo h.ks t ht⟩
  rcases hk with hk | hk
  ·exact hk
  ·have:=h.bel.size
   exact Nat.le_trans (Nat.le_trans h.le this) hk.1
theorem zl6 (W:World)(at_:Nat→Addr)(hE:Env W)(hSN:qm W at_){B:Nat}{w0 w:World}{db pb lb n:Nat}{key:List UInt8}{d:Dk}{s:List Nat}{es:List (List UInt8)}{put:Nat}(h:zf5 B w0 w db pb lb n key d s es put)(hWB:W.heap.size≤B)(hW:Below W.heap.size W w0)(hn:n≤4100):
  Calls Tryz.prog 13 #[.pointer (some ⟨pb,0,none⟩)] w fun r w'=>r= .returned (.tuple #[.int .i64 (es.length:Int),told 0])∧zf (fun k=>B≤k) pT w w'∧∃ d',zf5 B w0 w' db pb lb (n+1) key d' s es es.length:=by
 have hf:=h.ks.few (by omega)
 obtain⟨h0,hks⟩:=zvn h.ks hn
 refine(zou (fun k=>B≤k) W at_ hE hSN (fun k hk=>Nat.le_trans hWB hk) db pb lb d _ w (by have:=h.ks.count (by omega);show d.fs.length+(yj es put).length≤_;omega) (by show es.length≤_;omega) h.ks.ent.le h.ks.ent.short (by have:key.length≤_:=h.ks.num.key;show key.length≤_;omega) (hW.trans (h.bel.mono hWB)) h.pl h.disk h.log rfl h0).mono ?_
 rintro r w' ⟨hT,hres⟩
 have hx:∀ k,Ext (fun k=>B≤k) w w' k→B≤k:=fun k hk=>by
  rcases hk with hk | hk
  ·exact hk
  ·have:=h.bel.size
   exact Nat.le_trans (Nat.le_trans h.le this) hk.1
 rcases hres with ⟨hl,-⟩ | ⟨-,-,rfl,hd,hlog⟩ | ⟨-,p,hp,-⟩
 ·simp at hl
 ·exact⟨rfl,hT,_,h.le,h.bel.trans (hT.below (fun _ hk=>hk) (Nat.le_trans h.le h.bel.size)),hd.mono hx,hT.keep h.pl (by decide),hlog.mono hx,hks⟩
 ·have e:(qt (yj es put) (xn es.length (yb es) key) d).1=some p:=hp
  rw [h0] at e
  simp at e
theorem znw (W:World)(at_:Nat→Addr)(hE:Env W)(hSN:qm W at_)(lv av:Value)(ls:List (List UInt8))(az:List Int)(key:List UInt8)(w:World)(hW:Below W.heap.size W w)(hl:ls.length≤100)(h20:∀ l∈ls,l.length≤20)(hk:key.length≤9223372036854775807)(hal:az.length≤9223372036854775807)(hab:∀ a∈az,-9223372036854775808≤a∧a≤9223372036854775807)(hT:Tss w lv ls)(hI:Iss w av az):
  Calls Tryz.prog 7 #[lv,av,.string ⟨key.toArray⟩] w fun r w'=>∃(db pb lb n:Nat) (d:Dk) (s:List Nat),r= .returned (vv db)∧w.heap.size≤db∧n≤300∧zf5 w.heap.size w w' db pb lb n key d s ls ls.length:=by
 obtain⟨la,lc,rfl,hlc,hT'⟩:=hT
 obtain⟨aa,ac,rfl,hac,hI'⟩:=hI
 have HT:Hid (ls.length=0∨∃ b off,la=some ⟨b,off,none⟩∧∀ i (h:i < ls.length),w.cell? ⟨b,off+i,none⟩=some (txv ls[i])):=by
  rcases hT' with h | h
  ·exact .inl (by simp [h])
  ·exact .inr h
 have HI:Hid (az.length=0∨∃ b off,aa=some ⟨b,off,none⟩∧∀ i (h:i < az.length),w.cell? ⟨b,off+i,none⟩=some (.int .i64 az[i])):=by
  rcases hI' with h | h
  ·exact .inl (by simp [h])
  ·exact .inr h
 have HEE:=za hE
 have HSN:=za hSN
 have HW:=za hW
 have H20:=za h20
 have HAB:=za hab
 have HK:=za hk
 clear hT' hI' hlc hac hE hSN hW h20 hab hk
 go_enter Tryz.func7,Tryz.ntmps7
 go_wp2_with fail
 refine(z5z (.slice none 0 0) [] w (by simp) ⟨none,0,rfl,Nat.le_refl _,.inl rfl⟩).mono ?_
 rintro r w1 ⟨rfl,hb1,hd1⟩
 have HB1:=za hb1
 have HD1:=za hd1
 have HP:=za (z7z (fun k=>w.heap.size≤k) W at_ HEE.o HSN.o (fun k hk=>Nat.le_trans HW.o.size hk) w.heap.size { dk0 with fs:=zd0 [] [] } key w1 ⟨rfl,rfl,rfl⟩ rfl (HW.o.trans (hb1.mono HW.o.size)) hd1)
 clear hb1 hd1
 unfold vv
 go_wp2_with fail
 refine HP.o.mono ?_
 rintro r w2 ⟨d2,pb,lb,rfl,ht2,hd2,hf2,hk2,hpb,hpl,hlg⟩
 have hx2:∀ k,Ext (fun k=>w.heap.size≤k) w1 w2 k→w.heap.size≤k:=fun k hk=>by
  rcases hk with hk | hk
  ·exact hk
  ·exact Nat.le_trans HB1.o.size hk.1
 have HKP:Hid (zf5 w.heap.size w w2 w.heap.size pb lb 0 key d2 [] [] 0):=⟨Nat.le_refl _,HB1.o.trans (ht2.below (fun _ h=>h) HB1.o.size),hd2.mono hx2,hpl,hlg.mono hx2,z7y key (by have:=HK.o;omega) d2 (jj.tk (d:={ dk0 with fs:=zd0 [] [] }) ⟨rfl,rfl,rfl⟩ hk2) hf2 (zo3 (e:={ dk0 with fs:=zd0 [] [] }) hk2)⟩
 have HS2:Hid (w.heap.size≤w2.heap.size):=Nat.le_trans HB1.o.size ht2.size
 clear ht2 hd2 hf2 hk2 hpb hpl hlg hx2 HP HD1
 have HTB:Hid ((w2.alloc (.cells #[.int .i64 0,.string ⟨#[]⟩] 29)).heap[w2.heap.size]?=some (.cells #[.int .i64 0,.string ⟨#[]⟩] 29 (0,0))):=heap_alloc_last _ _
 have HKP0:=za (HKP.o.below (ze w2 (.cells #[.int .i64 0,.string ⟨#[]⟩] 29)))
 clear HKP
 go_wp2_with fail
 generalize w2.alloc (.cells #[.int .i64 0,.string ⟨#[]⟩] 29)=w3 at *
 generalize w2.heap.size=tb at *
 go_loopw [10] (fun i wr=>∃(k n put:Nat) (d:Dk) (s:List Nat),k≤ls.length∧n≤2*k∧i= .int .i64 k∧zf5 w.heap.size w wr w.heap.size pb lb n key d s (ls.take k) put∧wr.heap[tb]?=some (.cells #[.int .i64 0,.string ⟨#[]⟩] 29 (0,0))) (fun i _=>ls.length - (intOf i).toNat)
 case atStart=>exact⟨0,0,0,d2,[],Nat.zero_le _,Nat.zero_le _,rfl,by rw [List.take_zero];exact HKP0.o,HTB.o⟩
 case round =>
  obtain⟨k,n,put,d,s,hk,hn,rfl,hkp,htb⟩:=hrel
  have HKP:=za hkp
  have HTR:=za htb
  clear hkp htb
  by_cases hlt:k < ls.length
  ·rcases HT.o with h0 | ⟨b,off,rfl,hcell⟩
   ·omega
   have hx:=hcell k hlt
   rw [← HKP.o.bel.cell (zj (p:=⟨b,off+k,none⟩) hx)] at hx
   have HLEN:=H20.o ls[k] (List.getElem_mem hlt)
   have htk:ls.take (k+1)=ls.take k++[ls[k]]:=List.take_succ_eq_append_getElem hlt
   have hkl:(ls.take k).length=k:=by simp;omega
   have HTK:=za htk
   have HKL:=za hkl
   have HAP:=za (zx4 W at_ HSN.o HKP.o HW.o.size HW.o (by omega) ls[k] HLEN)
   clear hcell htk hkl
   generalize ls[k]=s0 at *
   generalize ls.take k=es at *
   rw [HKL.o] at HAP
   unfold txv at hx
   go_wp2_with fail
   refine HAP.o.mono ?_
   rintro r w4 ⟨rfl,ht4,hkp4⟩
   have HKP4:=za hkp4
   have HTR4:=za (ht4.keep HTR.o (by decide))
   clear ht4 hkp4 HAP HKP HTR hx
   unfold told
   have HTB5:Hid (∀ o,(w4.alloc o).heap[tb]?=some (.cells #[.int .i64 0,.string ⟨#[]⟩] 29 (0,0))):=fun o=>zc HTR4.o
   have HKP5:=za (fun o=>HKP4.o.below (ze w4 o))
   by_cases ha:0 < az.length
   ·rcases HI.o with h0 | ⟨b2,off2,rfl,hcell⟩
    ·omega
    have hj:k % az.length < az.length:=Nat.mod_lt _ ha
    have hxa:∀ o,(w4.alloc o).cell? ⟨b2,off2+k % az.length,none⟩=some (.int .i64 az[k % az.length]):=fun o=>by
     have:=hcell (k % az.length) hj
     rw [← (HKP5.o o).bel.cell (zj (p:=⟨b2,off2+k % az.length,none⟩) this)] at this
     exact this
    have HPK:=za (fun X=>zpe az[k % az.length] 3 X (HAB.o _ (List.getElem_mem hj)).1 (HAB.o _ (List.getElem_mem hj)).2 (by omega) (by omega))
    have hmod:(k:Int).tmod (az.length:Int)=((k % az.length:Nat):Int):=rfl
    clear hcell
    generalize az[k % az.length]=av at *
    go_wp2_with fail
    refine(HPK.o _).mono ?_
    rintro r w5 ⟨⟨m,hm,rfl⟩,rfl⟩
    have HPB:=za (zl6 W at_ HEE.o HSN.o (HKP5.o (.cells #[.int .i64 0,.string ⟨#[]⟩] 29)) HW.o.size HW.o (by omega))
    have hel:(es++[s0]).length=k+1:=by rw [List.length_append,HKL.o];rfl
    rw [hel] at HPB
    have HT5:=za (HTB5.o (.cells #[.int .i64 0,.string ⟨#[]⟩] 29))
    have HK5:=za (HKP5.o (.cells #[.int .i64 0,.string ⟨#[]⟩] 29))
    clear hxa HPK hmod HTB5 HKP5 hel
    by_cases hm0:m=0
    ·subst hm0
     generalize w4.alloc (.cells #[.int .i64 0,.string ⟨#[]⟩] 29)=w5 at *
     go_wp2_with fail
     refine HPB.o.mono ?_
     rintro r w6 ⟨rfl,ht6,d6,hkp6⟩
     have HT6:=za (ht6.keep HT5.o (by decide))
     have HK6:=za (fun o=>hkp6.below (ze w6 o))
     clear ht6 hkp6 HPB HT5 HK5
     unfold told
     go_wp2_with fail
     refine⟨⟨k+1,n+2,_,d6,k / 4::s,by omega,by omega,by go_num,by rw [HTK.o];exact HK6.o _,zc HT6.o⟩,by simp [intOf];omega⟩
    ·clear HPB
     generalize w4.alloc (.cells #[.int .i64 0,.string ⟨#[]⟩] 29)=w5 at *
     go_wp2_with fail
     refine⟨⟨k+1,n+1,put,d,k / 4::s,by omega,by omega,by go_num,by rw [HTK.o];exact HK5.o,HT5.o⟩,by simp [intOf];omega⟩
   ·clear HI
    go_wp2_with fail
    refine⟨⟨k+1,n+1,put,d,k / 4::s,by omega,by omega,by go_num,by rw [HTK.o];exact HKP5.o _,HTB5.o _⟩,by simp [intOf];omega⟩
  ·obtain rfl:k=ls.length:=by omega
   rw [List.take_length] at HKP
   have HPB:=za (zl6 W at_ HEE.o HSN.o HKP.o HW.o.size HW.o (by omega))
   clear HKP
   go_wp2_with fail
   refine HPB.o.mono ?_
   rintro r w6 ⟨rfl,ht6,d6,hkp6⟩
   have hT6:=ht6.keep HTR.o (by decide)
   obtain⟨t0,f0⟩:=zg hT6 0 _ rfl
   obtain⟨t1,f1⟩:=zg hT6 1 _ rfl
   have hts:zf (fun k=>k=tb) [29] w6 ((w6.setCell ⟨tb,0,none⟩ (.int .i64 0)).setCell ⟨tb,1,none⟩ (.string ⟨#[]⟩)):=((zf.refl (fun k=>k=tb) [29] w6).set (.inl rfl) hT6 (by simp) _).set (.inl rfl) (qj hT6 0 _) (by simp) _
   have hk9:zf5 w.heap.size w ((w6.setCell ⟨tb,0,none⟩ (.int .i64 0)).setCell ⟨tb,1,none⟩ (.string ⟨#[]⟩)) w.heap.size pb lb (n+1) key d6 s ls ls.length:=⟨hkp6.le,hkp6.bel.trans (hts.below (fun k hk=>by rw [hk];exact HS2.o) (Nat.le_trans hkp6.le hkp6.bel.size)),hkp6.disk.stay hts (by decide) (by decide),hts.keep hkp6.pl (by decide),hkp6.log.stay hts (by decide) (by decide) (by decide),hkp6.ks⟩
   have HK9:=za hk9
   obtain⟨fv,-,hdb,-⟩:=id hk9.disk
   obtain⟨-,-,-,-,-,-,-,⟨t7,-⟩⟩:=zd1 hdb
   rw [hk9.ks.num.turned] at t7
   clear ht6 hT6 hkp6 HPB HTR hts hk9 hdb
   unfold told
   go_wp2_with fail
   go_ret
   exact⟨w.heap.size,pb,lb,n+1,d6,s,rfl,Nat.le_refl _,by omega,HK9.o⟩
end
end Go.Proofs.YtinhekmmdlhfkaaGreatDoor
namespace Go.Proofs
open Go.Shelf
def Tryz.cloneLie_ren:Go.Shelf.Ren:=⟨fun | 41=>36 | n=>n,fun | 22=>55 | 23=>65 | 4=>4 | n=>n,fun | n=>n⟩
theorem Tryz.cloneLie:Go.Proofs.SlLaysE0.n41 Tryz.prog Tryz.cloneLie_ren:={
 mixed:=by kernel_rfl
 f41:=⟨Tryz.f36.name,by decide,Tryz.func36.trans (congrArg some (by kernel_rfl))⟩
 t4:=Tryz.underlying4
 a4:=Tryz.isAgg4
 z4:=Tryz.sizeOf4
 v4:=Tryz.zeroValue4
 t22:=Tryz.underlying55
 a22:=Tryz.isAgg55
 z22:=Tryz.sizeOf55
 v22:=Tryz.zeroValue55 }
end Go.Proofs
namespace Go.Proofs.YtinhekmmdlhfkaaGreatDoor
section
open Go.RowKit
set_option maxRecDepth 100000
end
section
open Go.ChangeShapes Go.WideShapes Go.ChangeAt Go.RowKit
set_option maxRecDepth 100000
theorem zzc {H:Type}{enc:TypeId×Value→H}{w:World}{base:Nat}{spare:Nat→Bool}{held:Bool}{fuel:Nat}{x:DataW H×List MemPlace}{v:Value}
  (h:DataW.trod enc Tryz.prog w base spare held fuel 23 [v]=some x) :
  ∃ ls:List Int,ls.length≤9223372036854775807∧(∀ a∈ls,-9223372036854775808≤a∧a≤9223372036854775807)∧Iss w v ls:=by
 have ce:Tryz.prog.cellsOf 3=1:=by kernel_rfl
 rcases Go.Deep.open_slice Tryz.underlying23 h with ⟨hcs,_⟩ | ⟨ad,l,c,m,n,D,Pl,hcs,hb,hl,hm,hmm,rfl,hx⟩
 ·simp at hcs
  subst hcs
  exact⟨[],Nat.zero_le _,by simp,⟨none,0,rfl,Nat.le_refl _,.inl rfl⟩⟩
 ·simp at hcs
  subst hcs
  have hle:l≤m:=by rw [hmm];split<;>omega
  have each:∀ i,i < l→∃ o:Int,w.cell? (ad.add (i*1))=some (.int .i64 o)∧-9223372036854775808≤o∧o≤9223372036854775807:=by
   intro i hi
   obtain⟨cs',h1,h2⟩:=hx i (by omega)
   rw [ce] at h1
   obtain⟨_,hlen,hcell⟩:=World.cells?_some h1
   obtain⟨n0,e0,-,wf⟩:=DataW.trod_int Tryz.underlying3 h2
   subst e0
   have d0:=hcell 0 (by omega)
   rw [Go.Deep.add_add] at d0
   have b1:=bounds_i64 wf
   exact⟨n0,by simpa using d0,b1.1,b1.2⟩
  obtain⟨g,hg⟩:=Go.Deep.choose_lt each
  have hlen:((List.range l).map g).length=l:=by simp
  refine⟨(List.range l).map g,?_,fun o ho=>?_,⟨some ad,c,by rw [hlen],by rw [hlen];exact hl,?_⟩⟩
  ·rw [hlen]
   unfold maxLen at hm
   omega
  ·obtain⟨i,hi,rfl⟩:=List.mem_map.1 ho
   exact(hg i (List.mem_range.1 hi)).2
  ·by_cases h0:l=0
   ·left;simp [h0]
   ·right
    obtain⟨b,off,spot⟩:=ad
    have hspot:spot=none:=by simpa [Addr.add] using World.cell?_spot (hg 0 (by omega)).1
    subst hspot
    refine⟨b,off,rfl,fun i hi=>?_⟩
    rw [hlen] at hi
    have:=(hg i hi).1
    rw [Addr.add_mid,Nat.mul_one] at this
    rw [List.getElem_map,List.getElem_range]
    exact this
end
end Go.Proofs.YtinhekmmdlhfkaaGreatDoor
